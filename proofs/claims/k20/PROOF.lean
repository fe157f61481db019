import PyProof.Rows.All
import Wide.All
import OpenK.AllK
import Wide.FinOn
import HandS.Base
import HandS.Call
import HandS.List
import HandS.Comp
import HandS.Dict
import HandS.Iter
import HandS.Text
import HandS.TupAny
import HandS.StrMore
import HandS.FStr
import HandS.DictComp
import HandS.Words
import HandS.Zip
import HandS.Strs
import HandS.IsInst
import HandS.ClsMeth
import HandS.OwnEq
import HandS.Ends
import PySem.Challenge.RW_onlyviews_k20_views_read_and_written
import KE.KCallOwn
import PyProof.InstNe
import HandS.CallLocal
import KE.GoesZip
import KE.GoesMore
import HandS.More
import KE.KEqNest
import KE.GoesEnum
import HandS.TupLe
import PyProof.StrBlock2
import HandS.TupMul
import HandS.Defaults
import KE.OsGo
import Open.SpecLaws
import HandS.ForSpec
import PyProof.ReprRoads
import PyProof.StrLawsRepr
import PyProof.CallFns
import HandS.Style
import HandS.GenOver
import HandS.RaiseMore
set_option Elab.async false
set_option linter.all false
set_option maxRecDepth 100000
set_option maxHeartbeats 4000000
/-! DV1: plain data over the abstract heap. D: what a value reads as; B: the part of the heap that holds data; P, cs: the lists that may change, and what they hold; Ev: an expression's value by the slots' data alone. -/
namespace DV
open PySem L2

/-- plain data -/
inductive D where
  | non | bl (b : Bool) | int (i : Int) | str (x : Str)
  | lst (ds : List D) | tup (ds : List D)
  | dic (ks : List (Key × D))
  | obj (C : Addr) (fs : List (Str × D))
  | fro (ds : List D)
  | nt (ds : List D)
variable {K : PySem.W.Frag}

def Ex (H H' : Hp) : Prop := ∀ a o, H a = some o → H' a = some o
theorem RdEx {H H' : Hp} {a : Addr} {u : HO} (e : Ex H H') (h : Rd H a u) : Rd H' a u := h.elim (fun h => .inl (e _ _ h)) fun ⟨o, h⟩ => .inr ⟨o, e _ _ h⟩
theorem Ex.refl (H : Hp) : Ex H H := fun _ _ h => h
theorem Ex.trans {H H1 H2 : Hp} (a : Ex H H1) (b : Ex H1 H2) : Ex H H2 := fun x o h => b x o (a x o h)
theorem Ex.new {H : Hp} {p : Addr} {o : HO} (h : H p = none) : Ex H (upd H p o) := fun a u e => by
  rw [upd_ne (ne_of_none e h)]
  exact e
theorem Ex.free {H H' : Hp} (e : Ex H H') {p : Addr} (h : H' p = none) : H p = none := by
  cases h1 : H p with
  | none => rfl
  | some o => rw [e p o h1] at h; cases h
theorem Ex.updB {H H' : Hp} {p : Addr} {o : HO} (e : Ex H H') : Ex (upd H p o) (upd H' p o) := fun a u h => by
  by_cases hp : a = p
  · subst hp; rw [upd_same] at h ⊢; exact h
  · rw [upd_ne hp] at h ⊢; exact e a u h

mutual
inductive Rp (K : PySem.W.Frag) (B : Hp) : V → D → Prop
  | non : Rp K B .non .non
  | bl (b : Bool) : Rp K B (.bl b) (.bl b)
  | int (i : Int) : Rp K B (.int i) (.int i)
  | str (x : Str) : Rp K B (.str x) (.str x)
  | lst {a : Addr} {xs : List V} {ds : List D} : B a = some (.lst xs) → RpA K B xs ds → Rp K B (.ref a) (.lst ds)
  | tup {a : Addr} {xs : List V} {ds : List D} : Rd B a (.tup xs) → RpA K B xs ds → Rp K B (.ref a) (.tup ds)
  | dic {a : Addr} {kvs : List (Key × V)} {ks : List (Key × D)} : B a = some (.dK kvs) → RpK K B kvs ks → Rp K B (.ref a) (.dic ks)
  | nt {a : Addr} {o : Obj} {xs : List V} {ds : List D} : B a = some (.frz o (.tup xs)) → o.dict = none → RpA K B xs ds → Rp K B (.ref a) (.nt ds)
  | fro {a : Addr} {xs : List V} {ds : List D} : SqL K B a xs → RpA K B xs ds → Rp K B (.ref a) (.fro ds)
  | obj {a C dx : Addr} {fvs : List (Str × V)} {fs : List (Str × D)} : B a = some (.ins C dx fvs) → RpF K B fvs fs → Rp K B (.ref a) (.obj C fs)
inductive RpA (K : PySem.W.Frag) (B : Hp) : List V → List D → Prop
  | nil : RpA K B [] []
  | cons {v : V} {d : D} {vs : List V} {ds : List D} : Rp K B v d → RpA K B vs ds → RpA K B (v :: vs) (d :: ds)
inductive RpK (K : PySem.W.Frag) (B : Hp) : List (Key × V) → List (Key × D) → Prop
  | nil : RpK K B [] []
  | cons {k : Key} {v : V} {d : D} {vs : List (Key × V)} {ds : List (Key × D)} : Rp K B v d → RpK K B vs ds → RpK K B ((k, v) :: vs) ((k, d) :: ds)
inductive RpF (K : PySem.W.Frag) (B : Hp) : List (Str × V) → List (Str × D) → Prop
  | nil : RpF K B [] []
  | cons {k : Str} {v : V} {d : D} {vs : List (Str × V)} {ds : List (Str × D)} : Rp K B v d → RpF K B vs ds → RpF K B ((k, v) :: vs) ((k, d) :: ds)
end

mutual
theorem Rp.mono {B B' : Hp} (e : Ex B B') : ∀ {v : V} {d : D}, Rp K B v d → Rp K B' v d
  | _, _, .non => .non
  | _, _, .bl b => .bl b
  | _, _, .int i => .int i
  | _, _, .str x => .str x
  | _, _, .lst h r => .lst (e _ _ h) (RpA.mono e r)
  | _, _, .tup h r => .tup (RdEx e h) (RpA.mono e r)
  | _, _, .nt h n r => .nt (e _ _ h) n (RpA.mono e r)
  | _, _, .dic h r => .dic (e _ _ h) (RpK.mono e r)
  | _, _, .obj h r => .obj (e _ _ h) (RpF.mono e r)
  | _, _, .fro h r => .fro (h.elim (fun h => .inl (h.elim (fun h => .inl (e _ _ h)) fun ⟨o, h⟩ => .inr ⟨o, e _ _ h⟩)) .inr) (RpA.mono e r)
theorem RpA.mono {B B' : Hp} (e : Ex B B') : ∀ {vs : List V} {ds : List D}, RpA K B vs ds → RpA K B' vs ds
  | _, _, .nil => .nil
  | _, _, .cons h r => .cons (Rp.mono e h) (RpA.mono e r)
theorem RpK.mono {B B' : Hp} (e : Ex B B') : ∀ {vs : List (Key × V)} {ds : List (Key × D)}, RpK K B vs ds → RpK K B' vs ds
  | _, _, .nil => .nil
  | _, _, .cons h r => .cons (Rp.mono e h) (RpK.mono e r)
theorem RpF.mono {B B' : Hp} (e : Ex B B') : ∀ {vs : List (Str × V)} {ds : List (Str × D)}, RpF K B vs ds → RpF K B' vs ds
  | _, _, .nil => .nil
  | _, _, .cons h r => .cons (Rp.mono e h) (RpF.mono e r)
end

theorem RpA.length {B : Hp} : ∀ {vs : List V} {ds : List D}, RpA K B vs ds → vs.length = ds.length
  | _, _, .nil => rfl
  | _, _, .cons _ r => by rw [List.length_cons, List.length_cons, RpA.length r]
theorem RpA.get {B : Hp} : ∀ {vs : List V} {ds : List D} {i : Nat} {d : D}, RpA K B vs ds → ds[i]? = some d → ∃ v, vs[i]? = some v ∧ Rp K B v d
  | _, _, _, _, .nil, e => by simp at e
  | _, _, 0, _, .cons h _, e => by simp at e; subst e; exact ⟨_, rfl, h⟩
  | _, _, i + 1, d, .cons _ r, e => by
    obtain ⟨v, h1, h2⟩ := RpA.get (i := i) (d := d) r (by simpa using e)
    exact ⟨v, by simpa using h1, h2⟩
theorem RpA.getV {B : Hp} : ∀ {vs : List V} {ds : List D} {i : Nat} {v : V}, RpA K B vs ds → vs[i]? = some v → ∃ d, ds[i]? = some d ∧ Rp K B v d
  | _, _, _, _, .nil, e => by simp at e
  | _, _, 0, _, .cons h _, e => by simp at e; subst e; exact ⟨_, rfl, h⟩
  | _, _, i + 1, d, .cons _ r, e => by
    obtain ⟨v, h1, h2⟩ := RpA.getV (i := i) (v := d) r (by simpa using e)
    exact ⟨v, by simpa using h1, h2⟩
theorem RpA.append {B : Hp} : ∀ {vs ws : List V} {ds es : List D}, RpA K B vs ds → RpA K B ws es → RpA K B (vs ++ ws) (ds ++ es)
  | _, _, _, _, .nil, s => s
  | _, _, _, _, .cons h r, s => .cons h (RpA.append r s)
theorem RpA.take {B : Hp} : ∀ {vs : List V} {ds : List D} (n : Nat), RpA K B vs ds → RpA K B (vs.take n) (ds.take n)
  | _, _, 0, _ => .nil
  | _, _, _ + 1, .nil => .nil
  | _, _, n + 1, .cons h r => .cons h (RpA.take n r)
theorem RpA.drop {B : Hp} : ∀ {vs : List V} {ds : List D} (n : Nat), RpA K B vs ds → RpA K B (vs.drop n) (ds.drop n)
  | _, _, 0, r => r
  | _, _, _ + 1, .nil => .nil
  | _, _, n + 1, .cons _ r => RpA.drop n r
theorem RpA.set {B : Hp} {v : V} {d : D} (h : Rp K B v d) : ∀ {vs : List V} {ds : List D} (i : Nat), RpA K B vs ds → RpA K B (vs.set i v) (ds.set i d)
  | _, _, _, .nil => .nil
  | _, _, 0, .cons _ r => .cons h r
  | _, _, i + 1, .cons q r => .cons q (RpA.set h i r)
theorem RpF.lookup {B : Hp} {f : Str} : ∀ {vs : List (Str × V)} {ds : List (Str × D)} {d : D}, RpF K B vs ds → ds.lookup f = some d → ∃ v, vs.lookup f = some v ∧ Rp K B v d
  | _, _, _, .nil, e => by simp at e
  | _, _, d, .cons (k := k) h r, e => by
    by_cases hk : f = k
    · subst hk
      simp [List.lookup] at e
      subst e
      exact ⟨_, by simp [List.lookup], h⟩
    · have q : (f == k) = false := by simpa using hk
      simp only [List.lookup, q] at e ⊢
      exact RpF.lookup r e
theorem RpK.length {B : Hp} : ∀ {vs : List (Key × V)} {ds : List (Key × D)}, RpK K B vs ds → vs.length = ds.length
  | _, _, .nil => rfl
  | _, _, .cons _ r => by rw [List.length_cons, List.length_cons, RpK.length r]

/-- flat data: no object -/
def D.flat : D → Bool
  | .non => true | .bl _ => true | .int _ => true | .str _ => true | _ => false
theorem Rp.flatAny {B B' : Hp} {v : V} {d : D} (h : Rp K B v d) (f : d.flat = true) : Rp K B' v d := by
  cases h with
  | non => exact .non
  | bl b => exact .bl b
  | int i => exact .int i
  | str x => exact .str x
  | lst _ _ => cases f
  | tup _ _ => cases f
  | dic _ _ => cases f
  | obj _ _ => cases f
  | fro _ _ => cases f
  | nt _ _ _ => cases f

/-- what is known of a slot -/
inductive Sl where
  | any | dat (d : D) | val (v : V)
def RS (K : PySem.W.Frag) (B : Hp) (v : V) : Sl → Prop
  | .any => True
  | .dat d => Rp K B v d
  | .val w => v = w
theorem RS.mono {B B' : Hp} (e : Ex B B') {v : V} : ∀ {r : Sl}, RS K B v r → RS K B' v r
  | .any, _ => True.intro
  | .dat _, h => Rp.mono e h
  | .val _, h => h
def RSs (K : PySem.W.Frag) (B : Hp) : List V → List Sl → Prop
  | [], [] => True
  | v :: vs, r :: rs => RS K B v r ∧ RSs K B vs rs
  | _, _ => False
theorem RSs.mono {B B' : Hp} (e : Ex B B') : ∀ {vs : List V} {rs : List Sl}, RSs K B vs rs → RSs K B' vs rs
  | [], [], _ => True.intro
  | [], _ :: _, h => h
  | _ :: _, [], h => h
  | _ :: _, _ :: _, h => ⟨RS.mono e h.1, RSs.mono e h.2⟩
theorem RSs.length {B : Hp} : ∀ {vs : List V} {rs : List Sl}, RSs K B vs rs → vs.length = rs.length
  | [], [], _ => rfl
  | [], _ :: _, h => h.elim
  | _ :: _, [], h => h.elim
  | _ :: _, _ :: _, h => by rw [List.length_cons, List.length_cons, RSs.length h.2]

structure Slots (K : PySem.W.Frag) (B : Hp) (σ : L2.St) (ss : List Sl) : Prop where
  len : σ.length = ss.length
  get : ∀ (i : Nat) (r : Sl), ss[i]? = some r → r ≠ .any → ∃ v, σ[i]? = some (some v) ∧ RS K B v r
theorem Slots.mono {B B' : Hp} (e : Ex B B') {σ : L2.St} {ss : List Sl} (h : Slots K B σ ss) : Slots K B' σ ss :=
  ⟨h.len, fun i r a b => let ⟨v, h1, h2⟩ := h.get i r a b; ⟨v, h1, h2.mono e⟩⟩
theorem Slots.set {B : Hp} {σ : L2.St} {ss : List Sl} (h : Slots K B σ ss) {i : Nat} {v : V} {r : Sl} (hr : RS K B v r) : Slots K B (σ.set i (some v)) (ss.set i r) := by
  refine ⟨by rw [List.length_set, List.length_set, h.len], fun j q hq hn => ?_⟩
  rw [List.getElem?_set] at hq
  by_cases hj : i = j
  · subst hj
    rw [if_pos rfl] at hq
    by_cases hl : i < ss.length
    · rw [if_pos hl] at hq
      have e := Option.some.inj hq
      subst e
      refine ⟨v, ?_, hr⟩
      rw [List.getElem?_set, if_pos rfl, if_pos (by rw [h.len]; exact hl)]
    · rw [if_neg hl] at hq; cases hq
  · rw [if_neg hj] at hq
    obtain ⟨w, h1, h2⟩ := h.get j q hq hn
    exact ⟨w, by rw [List.getElem?_set, if_neg hj]; exact h1, h2⟩
/-- a slot is emptied -/
theorem Slots.clr {B : Hp} {σ : L2.St} {ss : List Sl} (h : Slots K B σ ss) (i : Nat) (o : Option V) : Slots K B (σ.set i o) (ss.set i .any) := by
  refine ⟨by rw [List.length_set, List.length_set, h.len], fun j q hq hn => ?_⟩
  rw [List.getElem?_set] at hq
  by_cases hj : i = j
  · subst hj
    rw [if_pos rfl] at hq
    by_cases hl : i < ss.length
    · rw [if_pos hl] at hq
      exact absurd (Option.some.inj hq).symm hn
    · rw [if_neg hl] at hq; cases hq
  · rw [if_neg hj] at hq
    obtain ⟨w, h1, h2⟩ := h.get j q hq hn
    exact ⟨w, by rw [List.getElem?_set, if_neg hj]; exact h1, h2⟩
/-- less is known -/
inductive Le : Sl → Sl → Prop
  | rfl (r : Sl) : Le r r
  | any (r : Sl) : Le r .any
def LeS : List Sl → List Sl → Prop
  | [], [] => True
  | r :: rs, q :: qs => Le r q ∧ LeS rs qs
  | _, _ => False
theorem LeS.get : ∀ {rs qs : List Sl} {i : Nat} {q : Sl}, LeS rs qs → qs[i]? = some q → ∃ r, rs[i]? = some r ∧ Le r q
  | [], [], i, q, _, h => by simp at h
  | [], _ :: _, _, _, h, _ => h.elim
  | _ :: _, [], _, _, h, _ => h.elim
  | r :: rs, q' :: qs, 0, q, h, e => by simp at e; subst e; exact ⟨r, rfl, h.1⟩
  | r :: rs, q' :: qs, i + 1, q, h, e => by
    obtain ⟨w, h1, h2⟩ := LeS.get (i := i) h.2 (by simpa using e)
    exact ⟨w, by simpa using h1, h2⟩
theorem LeS.length : ∀ {rs qs : List Sl}, LeS rs qs → rs.length = qs.length
  | [], [], _ => rfl
  | [], _ :: _, h => h.elim
  | _ :: _, [], h => h.elim
  | _ :: _, _ :: _, h => by rw [List.length_cons, List.length_cons, LeS.length h.2]
theorem Slots.le {B : Hp} {σ : L2.St} {ss tt : List Sl} (h : Slots K B σ ss) (l : LeS ss tt) : Slots K B σ tt := by
  refine ⟨h.len.trans l.length, fun i r a hn => ?_⟩
  obtain ⟨q, h1, h2⟩ := l.get a
  cases h2 with
  | rfl => exact h.get i r h1 hn
  | any => exact absurd rfl hn
theorem LeS.refl : ∀ (ss : List Sl), LeS ss ss
  | [] => True.intro
  | r :: rs => ⟨.rfl r, LeS.refl rs⟩

/-- the lists that may change -/
def Mu (K : PySem.W.Frag) (B H : Hp) : List Addr → List (List D) → Prop
  | [], [] => True
  | p :: P, ds :: cs => (∃ vs, H p = some (.lst vs) ∧ RpA K B vs ds) ∧ B p = none ∧ p ∉ P ∧ Mu K B H P cs
  | _, _ => False
theorem Mu.get {B H : Hp} : ∀ {P : List Addr} {cs : List (List D)} {j : Nat} {p : Addr} {ds : List D}, Mu K B H P cs → P[j]? = some p → cs[j]? = some ds → (∃ vs, H p = some (.lst vs) ∧ RpA K B vs ds) ∧ B p = none
  | [], [], _, _, _, _, h, _ => by simp at h
  | [], _ :: _, _, _, _, h, _, _ => h.elim
  | _ :: _, [], _, _, _, h, _, _ => h.elim
  | p :: P, ds :: cs, 0, q, es, h, h1, h2 => by
    simp at h1 h2; subst h1; subst h2
    exact ⟨h.1, h.2.1⟩
  | p :: P, ds :: cs, j + 1, q, es, h, h1, h2 => Mu.get (j := j) h.2.2.2 (by simpa using h1) (by simpa using h2)
theorem Mu.mem {B H : Hp} : ∀ {P : List Addr} {cs : List (List D)} {p : Addr}, Mu K B H P cs → p ∈ P → ∃ o, H p = some o ∧ B p = none
  | [], _, _, _, h => by simp at h
  | _ :: _, [], _, h, _ => h.elim
  | p :: P, ds :: cs, q, h, hm => by
    rcases List.mem_cons.mp hm with e | e
    · subst e
      obtain ⟨⟨vs, a, _⟩, b, _⟩ := h
      exact ⟨_, a, b⟩
    · exact Mu.mem h.2.2.2 e
/-- carried on: the base grows, the lists stand -/
theorem Mu.keep {B B' H H' : Hp} (e : Ex B B') : ∀ {P : List Addr} {cs : List (List D)}, Mu K B H P cs → (∀ p ∈ P, H' p = H p) → (∀ p ∈ P, B' p = none) → Mu K B' H' P cs
  | [], [], _, _, _ => True.intro
  | [], _ :: _, h, _, _ => h.elim
  | _ :: _, [], h, _, _ => h.elim
  | p :: P, ds :: cs, h, k, n => by
    obtain ⟨⟨vs, a, b⟩, c, d, m⟩ := h
    exact ⟨⟨vs, by rw [k p List.mem_cons_self]; exact a, b.mono e⟩, n p List.mem_cons_self, d, m.keep e (fun q hq => k q (List.mem_cons_of_mem _ hq)) fun q hq => n q (List.mem_cons_of_mem _ hq)⟩
/-- one of the lists is written -/
theorem Mu.put {B B' H H' : Hp} (e : Ex B B') {q : Addr} {ws : List V} {es : List D} (hw : H' q = some (.lst ws)) (hr : RpA K B' ws es) :
    ∀ {P : List Addr} {cs : List (List D)} {j : Nat}, Mu K B H P cs → P[j]? = some q → (∀ p ∈ P, p ≠ q → H' p = H p) → (∀ p ∈ P, B' p = none) → Mu K B' H' P (cs.set j es)
  | [], [], _, _, h, _, _ => by simp at h
  | [], _ :: _, _, h, _, _, _ => h.elim
  | _ :: _, [], _, h, _, _, _ => h.elim
  | p :: P, ds :: cs, 0, h, h1, k, n => by
    simp at h1; subst h1
    obtain ⟨_, c, d, m⟩ := h
    exact ⟨⟨ws, hw, hr⟩, n p List.mem_cons_self, d, m.keep e (fun x hx => k x (List.mem_cons_of_mem _ hx) fun z => d (z ▸ hx)) fun x hx => n x (List.mem_cons_of_mem _ hx)⟩
  | p :: P, ds :: cs, j + 1, h, h1, k, n => by
    obtain ⟨⟨vs, a, b⟩, c, d, m⟩ := h
    have hq : q ∈ P := List.mem_of_getElem? (i := j) (by simpa using h1)
    have hne : p ≠ q := fun z => d (z ▸ hq)
    exact ⟨⟨vs, by rw [k p List.mem_cons_self hne]; exact a, b.mono e⟩, n p List.mem_cons_self, d, Mu.put e hw hr (j := j) m (by simpa using h1) (fun x hx => k x (List.mem_cons_of_mem _ hx)) fun x hx => n x (List.mem_cons_of_mem _ hx)⟩

/-- a step: the base grows by new cells; what stood stands, but for the lists of P -/
structure Stp (P : List Addr) (B H B' H' : Hp) : Prop where
  ex : Ex B B'
  fr : ∀ b o, b ∉ P → H b = some o → H' b = some o
  nb : ∀ b o, H b = some o → B' b = B b
  dm : ∀ b o, H b = some o → ∃ o', H' b = some o'
theorem Stp.refl (P : List Addr) (B H : Hp) : Stp P B H B H := ⟨Ex.refl _, fun _ _ _ h => h, fun _ _ _ => rfl, fun _ o h => ⟨o, h⟩⟩
theorem Stp.trans {P : List Addr} {B H B1 H1 B2 H2 : Hp} (a : Stp P B H B1 H1) (b : Stp P B1 H1 B2 H2) : Stp P B H B2 H2 where
  ex := a.ex.trans b.ex
  fr := fun c o n h => b.fr c o n (a.fr c o n h)
  nb := fun c o h => by
    obtain ⟨o', h'⟩ := a.dm c o h
    rw [b.nb c o' h', a.nb c o h]
  dm := fun c o h => let ⟨o', h'⟩ := a.dm c o h; b.dm c o' h'
theorem Stp.mono {P P' : List Addr} {B H B' H' : Hp} (s : Stp P B H B' H') (h : ∀ p ∈ P, p ∈ P') : Stp P' B H B' H' := ⟨s.ex, fun b o n e => s.fr b o (fun z => n (h b z)) e, s.nb, s.dm⟩
theorem Stp.toEx {B H B' H' : Hp} (s : Stp [] B H B' H') : Ex H H' := fun a o e => s.fr a o (by simp) e
theorem Stp.ofNil {P : List Addr} {B H B' H' : Hp} (s : Stp [] B H B' H') : Stp P B H B' H' := s.mono fun _ h => absurd h (by simp)

structure Okk (K : PySem.W.Frag) (P : List Addr) (ss : List Sl) (cs : List (List D)) (B H : Hp) (σ : L2.St) : Prop where
  ex : Ex B H
  sl : Slots K B σ ss
  mu : Mu K B H P cs
theorem Okk.step0 {P : List Addr} {ss : List Sl} {cs : List (List D)} {B H B' H' : Hp} {σ : L2.St} (o : Okk K P ss cs B H σ) (s : Stp [] B H B' H') (e : Ex B' H') : Okk K P ss cs B' H' σ :=
  ⟨e, o.sl.mono s.ex, o.mu.keep s.ex (fun p hp => by
    obtain ⟨u, h1, _⟩ := o.mu.mem hp
    rw [h1, s.toEx p u h1]) fun p hp => by
    obtain ⟨u, h1, h2⟩ := o.mu.mem hp
    rw [s.nb p u h1, h2]⟩

/-- an expression: from the slots' data and the lists' to a value's data, and the lists' -/
def Ev (K : PySem.W.Frag) (P : List Addr) (ss : List Sl) (cs : List (List D)) (te : TE) (r : Sl) (cs' : List (List D)) : Prop :=
  ∀ B H σ, Okk K P ss cs B H σ → ∀ Q : VK, (∀ v B' H', Stp P B H B' H' → Okk K P ss cs' B' H' σ → RS K B' v r → Q v H') → te σ H Q
def EvT (K : PySem.W.Frag) (P : List Addr) (ss : List Sl) (cs : List (List D)) (tt : TT) (b : Bool) (cs' : List (List D)) : Prop :=
  ∀ B H σ, Okk K P ss cs B H σ → ∀ Q : Bool → Hp → Prop, (∀ B' H', Stp P B H B' H' → Okk K P ss cs' B' H' σ → Q b H') → tt σ H Q
def EvA (K : PySem.W.Frag) (P : List Addr) (ss : List Sl) (cs : List (List D)) (ta : TA) (rs : List Sl) (cs' : List (List D)) : Prop :=
  ∀ B H σ, Okk K P ss cs B H σ → ∀ Q : List V → Hp → Prop, (∀ vs B' H', Stp P B H B' H' → Okk K P ss cs' B' H' σ → RSs K B' vs rs → Q vs H') → ta σ H Q
/-- operations on values: they make new cells alone -/
def OpD (K : PySem.W.Frag) (f : R2) (r1 r2 r : Sl) : Prop := ∀ B H x y, Ex B H → RS K B x r1 → RS K B y r2 → ∀ Q : VK, (∀ v B' H', Stp [] B H B' H' → Ex B' H' → RS K B' v r → Q v H') → f x y H Q
def UnD (K : PySem.W.Frag) (f : V → Hp → VK → Prop) (r1 r : Sl) : Prop := ∀ B H x, Ex B H → RS K B x r1 → ∀ Q : VK, (∀ v B' H', Stp [] B H B' H' → Ex B' H' → RS K B' v r → Q v H') → f x H Q
def CbD (K : PySem.W.Frag) (f : List V → Hp → VK → Prop) (rs : List Sl) (r : Sl) : Prop := ∀ B H vs, Ex B H → RSs K B vs rs → ∀ Q : VK, (∀ v B' H', Stp [] B H B' H' → Ex B' H' → RS K B' v r → Q v H') → f vs H Q

section
variable {P : List Addr} {ss : List Sl} {cs cs1 cs2 cs3 : List (List D)} {ta tb tc te : TE} {t u : TT} {r r1 r2 r3 : Sl} {f : R2}
theorem ev_var {i : Nat} (h : ss[i]? = some r) (hn : r ≠ .any := by intro z; cases z) : Ev K P ss cs (tVar i) r cs := fun B H σ o Q q =>
  let ⟨v, h1, h2⟩ := o.sl.get i r h hn
  ⟨v, h1, q v B H (Stp.refl _ _ _) o h2⟩
theorem ev_c {v : V} {d : D} (h : ∀ B, Rp K B v d) : Ev K P ss cs (tC v) (.dat d) cs := fun B H σ o Q q => q v B H (Stp.refl _ _ _) o (h B)
theorem ev_int {i : Int} : Ev K P ss cs (tC (.int i)) (.dat (.int i)) cs := ev_c fun _ => .int i
theorem ev_str {x : Str} : Ev K P ss cs (tC (.str x)) (.dat (.str x)) cs := ev_c fun _ => .str x
theorem ev_bl {b : Bool} : Ev K P ss cs (tC (.bl b)) (.dat (.bl b)) cs := ev_c fun _ => .bl b
theorem ev_non : Ev K P ss cs (tC .non) (.dat .non) cs := ev_c fun _ => .non
theorem ev_val {v : V} : Ev K P ss cs (tC v) (.val v) cs := fun B H σ o Q q => q v B H (Stp.refl _ _ _) o rfl
theorem ev_op (ha : Ev K P ss cs ta r1 cs1) (hb : Ev K P ss cs1 tb r2 cs2) (hf : OpD K f r1 r2 r) : Ev K P ss cs (tOp f ta tb) r cs2 := fun B H σ o Q q =>
  ha B H σ o _ fun x B1 H1 s1 o1 x1 => hb B1 H1 σ o1 _ fun y B2 H2 s2 o2 y2 => hf B2 H2 x y o2.ex (x1.mono s2.ex) y2 Q fun v B3 H3 s3 e3 v3 =>
    q v B3 H3 ((s1.trans s2).trans s3.ofNil) (o2.step0 s3 e3) v3
theorem ev_un {f : V → Hp → VK → Prop} (ha : Ev K P ss cs ta r1 cs1) (hf : UnD K f r1 r) : Ev K P ss cs (tUn f ta) r cs1 := fun B H σ o Q q =>
  ha B H σ o _ fun x B1 H1 s1 o1 x1 => hf B1 H1 x o1.ex x1 Q fun v B3 H3 s3 e3 v3 => q v B3 H3 (s1.trans s3.ofNil) (o1.step0 s3 e3) v3
theorem ev_if {b : Bool} (h : EvT K P ss cs t b cs1) (h1 : b = true → Ev K P ss cs1 ta r cs2) (h2 : b = false → Ev K P ss cs1 tb r cs2) : Ev K P ss cs (tIf t ta tb) r cs2 := fun B H σ o Q q =>
  h B H σ o _ fun B1 H1 s1 o1 => by
    cases b with
    | true =>
      show ta σ H1 Q
      exact h1 rfl B1 H1 σ o1 Q fun v B2 H2 s2 o2 v2 => q v B2 H2 (s1.trans s2) o2 v2
    | false =>
      show tb σ H1 Q
      exact h2 rfl B1 H1 σ o1 Q fun v B2 H2 s2 o2 v2 => q v B2 H2 (s1.trans s2) o2 v2
theorem et_B {b : Bool} (h : Ev K P ss cs te (.dat (.bl b)) cs1) : EvT K P ss cs (tB te) b cs1 := fun B H σ o Q q =>
  h B H σ o _ fun v B1 H1 s1 o1 v1 => by
    have v1' : Rp K B1 v (.bl b) := v1
    cases v1'
    exact ⟨b, rfl, q B1 H1 s1 o1⟩
theorem et_test {b : Bool} (h : Ev K P ss cs te (.dat (.bl b)) cs1) : EvT K P ss cs (tTest te) b cs1 := fun B H σ o Q q =>
  h B H σ o _ fun v B1 H1 s1 o1 v1 => by
    have v1' : Rp K B1 v (.bl b) := v1
    cases v1'
    exact ⟨b, rfl, q B1 H1 s1 o1⟩
theorem et_not {b : Bool} (h : EvT K P ss cs t b cs1) : EvT K P ss cs (tNot t) (!b) cs1 := fun B H σ o Q q => h B H σ o _ fun B1 H1 s1 o1 => q B1 H1 s1 o1
theorem et_and {a b : Bool} (h1 : EvT K P ss cs t a cs) (h2 : a = true → EvT K P ss cs u b cs) : EvT K P ss cs (tAnd t u) (a && b) cs := fun B H σ o Q q => h1 B H σ o _ fun B1 H1 s1 o1 => by
  cases a with
  | true =>
    show u σ H1 Q
    exact h2 rfl B1 H1 σ o1 Q fun B2 H2 s2 o2 => q B2 H2 (s1.trans s2) o2
  | false =>
    show Q false H1
    exact q B1 H1 s1 o1
theorem et_or {a b : Bool} (h1 : EvT K P ss cs t a cs) (h2 : a = false → EvT K P ss cs u b cs) : EvT K P ss cs (tOr t u) (a || b) cs := fun B H σ o Q q => h1 B H σ o _ fun B1 H1 s1 o1 => by
  cases a with
  | true =>
    show Q true H1
    exact q B1 H1 s1 o1
  | false =>
    show u σ H1 Q
    exact h2 rfl B1 H1 σ o1 Q fun B2 H2 s2 o2 => q B2 H2 (s1.trans s2) o2
theorem ev_notV {b : Bool} (h : Ev K P ss cs ta (.dat (.bl b)) cs1) : Ev K P ss cs (tNotV ta) (.dat (.bl (!b))) cs1 := fun B H σ o Q q =>
  h B H σ o _ fun v B1 H1 s1 o1 v1 => by
    have v1' : Rp K B1 v (.bl b) := v1
    cases v1'
    exact ⟨b, rfl, q _ B1 H1 s1 o1 (Rp.bl _)⟩
theorem ev_andV {a b : Bool} (h1 : Ev K P ss cs ta (.dat (.bl a)) cs) (h2 : a = true → Ev K P ss cs tb (.dat (.bl b)) cs) : Ev K P ss cs (tAndV ta tb) (.dat (.bl (a && b))) cs := fun B H σ o Q q =>
  h1 B H σ o _ fun v B1 H1 s1 o1 v1 => by
    have v1' : Rp K B1 v (.bl a) := v1
    cases v1'
    refine ⟨a, rfl, ?_⟩
    cases a with
    | true =>
      show tb σ H1 Q
      exact h2 rfl B1 H1 σ o1 Q fun w B2 H2 s2 o2 w2 => q w B2 H2 (s1.trans s2) o2 w2
    | false =>
      show Q (.bl false) H1
      exact q _ B1 H1 s1 o1 (Rp.bl _)
theorem ev_orV {a b : Bool} (h1 : Ev K P ss cs ta (.dat (.bl a)) cs) (h2 : a = false → Ev K P ss cs tb (.dat (.bl b)) cs) : Ev K P ss cs (tOrV ta tb) (.dat (.bl (a || b))) cs := fun B H σ o Q q =>
  h1 B H σ o _ fun v B1 H1 s1 o1 v1 => by
    have v1' : Rp K B1 v (.bl a) := v1
    cases v1'
    refine ⟨a, rfl, ?_⟩
    cases a with
    | true =>
      show Q (.bl true) H1
      exact q _ B1 H1 s1 o1 (Rp.bl _)
    | false =>
      show tb σ H1 Q
      exact h2 rfl B1 H1 σ o1 Q fun w B2 H2 s2 o2 w2 => q w B2 H2 (s1.trans s2) o2 w2
theorem Ev.eq {d d' : D} (h : Ev K P ss cs te (.dat d) cs1) (e : d = d') : Ev K P ss cs te (.dat d') cs1 := e ▸ h
theorem EvT.eq {a b : Bool} (h : EvT K P ss cs t a cs1) (e : a = b) : EvT K P ss cs t b cs1 := e ▸ h
theorem ea_nil : EvA K P ss cs tNil [] cs := fun B H σ o Q q => q [] B H (Stp.refl _ _ _) o True.intro
theorem ea_cons {tr : TA} {rs : List Sl} (h : Ev K P ss cs te r cs1) (hr : EvA K P ss cs1 tr rs cs2) : EvA K P ss cs (tCons te tr) (r :: rs) cs2 := fun B H σ o Q q =>
  h B H σ o _ fun v B1 H1 s1 o1 v1 => hr B1 H1 σ o1 _ fun vs B2 H2 s2 o2 r2 => q _ B2 H2 (s1.trans s2) o2 ⟨v1.mono s2.ex, r2⟩
theorem ev_cb {rr : List V → Hp → VK → Prop} {tA : TA} {rs : List Sl} (h : EvA K P ss cs tA rs cs1) (hf : CbD K rr rs r) : Ev K P ss cs (tCB rr tA) r cs1 := fun B H σ o Q q =>
  h B H σ o _ fun vs B1 H1 s1 o1 r1 => hf B1 H1 vs o1.ex r1 Q fun v B2 H2 s2 e2 v2 => q v B2 H2 (s1.trans s2.ofNil) (o1.step0 s2 e2) v2

/-! ### new cells -/
theorem stp_new {B H : Hp} {p : Addr} {o : HO} (e : Ex B H) (hp : H p = none) : Stp [] B H (upd B p o) (upd H p o) :=
  ⟨Ex.new (e.free hp), fun b u _ h => Ex.new hp b u h, fun b u h => upd_ne (ne_of_none h hp), fun b u h => ⟨u, Ex.new hp b u h⟩⟩
theorem rsA : ∀ {B : Hp} {vs : List V} {ds : List D}, RSs K B vs (ds.map Sl.dat) → RpA K B vs ds
  | _, [], [], _ => .nil
  | _, [], _ :: _, h => h.elim
  | _, _ :: _, [], h => h.elim
  | _, _ :: _, _ :: _, h => .cons h.1 (rsA h.2)
theorem le_line {n : Nat} (h : n ≤ 1000000) : n ≤ sizeLine := Nat.le_trans h (by decide)
theorem lt_line {n : Nat} (h : n ≤ 1000000) : n < sizeLine := Nat.lt_of_le_of_lt h (by decide)
theorem ev_tup {tA : TA} {ds : List D} (h : EvA K P ss cs tA (ds.map Sl.dat) cs1) (hl : ds.length ≤ 1000000 := by decide) : Ev K P ss cs (tTup tA) (.dat (.tup ds)) cs1 := fun B H σ o Q q =>
  h B H σ o _ fun vs B1 H1 s1 o1 r1 => by
    have ra := rsA r1
    refine ⟨le_line (by rw [ra.length]; exact hl), fun p hp => ?_⟩
    have s2 := stp_new (o := .tup vs) o1.ex hp
    exact q _ _ _ (s1.trans s2.ofNil) (o1.step0 s2 o1.ex.updB) (Rp.tup (.inl upd_same) (ra.mono s2.ex))
theorem ev_lst {tA : TA} {ds : List D} (h : EvA K P ss cs tA (ds.map Sl.dat) cs1) (hl : ds.length ≤ 1000000 := by decide) : Ev K P ss cs (tLst tA) (.dat (.lst ds)) cs1 := fun B H σ o Q q =>
  h B H σ o _ fun vs B1 H1 s1 o1 r1 => by
    have ra := rsA r1
    refine ⟨le_line (by rw [ra.length]; exact hl), fun p hp => ?_⟩
    have s2 := stp_new (o := .lst vs) o1.ex hp
    exact q _ _ _ (s1.trans s2.ofNil) (o1.step0 s2 o1.ex.updB) (Rp.lst upd_same (ra.mono s2.ex))
end

/-! ### calls -/
/-- what a def promises: by a relation of the arguments' data, the lists', to the answer's and the lists' behind it -/
abbrev Pre := List Sl → List Addr → List (List D) → Sl → List (List D) → Prop
def spM (K : PySem.W.Frag) (pre : Pre) : Sp := fun vs H Q _ => ∃ B rs P cs r cs', pre rs P cs r cs' ∧ Ex B H ∧ RSs K B vs rs ∧ Mu K B H P cs ∧
  ∀ v B' H', Stp P B H B' H' → Ex B' H' → Mu K B' H' P cs' → RS K B' v r → Q v H'
section
variable {P : List Addr} {ss : List Sl} {cs cs1 cs2 : List (List D)} {tA : TA} {rs : List Sl} {r : Sl} {pre : Pre} {E : XK}
theorem ev_call0 (ha : EvA K P ss cs tA rs cs1) (hp : pre rs [] [] r []) : Ev K P ss cs (tCall (spM K pre) [] E tA) r cs1 := fun B H σ o Q q =>
  ha B H σ o _ fun vs B1 H1 s1 o1 r1 => by
    show spM K pre (vs ++ []) H1 Q E
    rw [List.append_nil]
    exact ⟨B1, rs, [], [], r, [], hp, o1.ex, r1, True.intro, fun v B2 H2 s2 e2 _ v2 => q v B2 H2 (s1.trans s2.ofNil) (o1.step0 s2 e2) v2⟩
theorem ev_call1 {j : Nat} {p : Addr} {ds ds' : List D} (ha : EvA K P ss cs tA rs cs1) (hP : P[j]? = some p) (hc : cs1[j]? = some ds) (hp : pre rs [p] [ds] r [ds']) : Ev K P ss cs (tCall (spM K pre) [] E tA) r (cs1.set j ds') := fun B H σ o Q q =>
  ha B H σ o _ fun vs B1 H1 s1 o1 r1 => by
    show spM K pre (vs ++ []) H1 Q E
    rw [List.append_nil]
    obtain ⟨hL, hB⟩ := o1.mu.get hP hc
    refine ⟨B1, rs, [p], [ds], r, [ds'], hp, o1.ex, r1, ⟨hL, hB, by simp, True.intro⟩, fun v B2 H2 s2 e2 m2 v2 => ?_⟩
    obtain ⟨⟨ws, hw, hr⟩, _⟩ := m2
    have sp : Stp P B1 H1 B2 H2 := s2.mono fun x hx => by
      have e : x = p := by simpa using hx
      subst e
      exact List.mem_of_getElem? hP
    refine q v B2 H2 (s1.trans sp) ⟨e2, o1.sl.mono s2.ex, o1.mu.put s2.ex hw hr hP (fun x hx hne => ?_) fun x hx => ?_⟩ v2
    · obtain ⟨u, h1, _⟩ := o1.mu.mem hx
      rw [h1, s2.fr x u (by simpa using hne) h1]
    · obtain ⟨u, h1, h2⟩ := o1.mu.mem hx
      rw [s2.nb x u h1, h2]
end

/-! ### statements -/
/-- within a def: (B0, H0) at its entry -/
def Sta (K : PySem.W.Frag) (P : List Addr) (B0 H0 : Hp) (ss : List Sl) (cs : List (List D)) (σ : L2.St) (H : Hp) : Prop := ∃ B, Stp P B0 H0 B H ∧ Okk K P ss cs B H σ
section
variable {P : List Addr} {B0 H0 H : Hp} {ss ss' : List Sl} {cs cs1 : List (List D)} {σ : L2.St} {D : Ends} {te : TE} {tt : TT} {t u : TS} {r : Sl}
theorem Sta.le {tt : List Sl} (h : Sta K P B0 H0 ss cs σ H) (l : LeS ss tt) : Sta K P B0 H0 tt cs σ H := let ⟨B, s, o⟩ := h; ⟨B, s, o.ex, o.sl.le l, o.mu⟩
theorem st_asg {i : Nat} (h : Sta K P B0 H0 ss cs σ H) (he : Ev K P ss cs te r cs1) (k : ∀ σ' H', Sta K P B0 H0 (ss.set i r) cs1 σ' H' → D.nx σ' H') : tAsg te (gName i) D σ H := by
  obtain ⟨B, s, o⟩ := h
  exact he B H σ o _ fun v B1 H1 s1 o1 v1 => k _ _ ⟨B1, s.trans s1, o1.ex, o1.sl.set v1, o1.mu⟩
theorem st_drop (h : Sta K P B0 H0 ss cs σ H) (he : Ev K P ss cs te r cs1) (k : ∀ H', Sta K P B0 H0 ss cs1 σ H' → D.nx σ H') : tDrop te D σ H := by
  obtain ⟨B, s, o⟩ := h
  exact he B H σ o _ fun v B1 H1 s1 o1 v1 => k _ ⟨B1, s.trans s1, o1⟩
/-- what a def's end wants -/
def Done (K : PySem.W.Frag) (P : List Addr) (B0 H0 : Hp) (r : Sl) (cs : List (List DV.D)) (Q : VK) : Prop := ∀ v B' H', Stp P B0 H0 B' H' → Ex B' H' → Mu K B' H' P cs → RS K B' v r → Q v H'
theorem st_ret (h : Sta K P B0 H0 ss cs σ H) (he : Ev K P ss cs te r cs1) (k : Done K P B0 H0 r cs1 D.rt) : tRet te D σ H := by
  obtain ⟨B, s, o⟩ := h
  exact he B H σ o _ fun v B1 H1 s1 o1 v1 => k v B1 H1 (s.trans s1) o1.ex o1.mu v1
theorem st_if {b : Bool} (h : Sta K P B0 H0 ss cs σ H) (he : EvT K P ss cs tt b cs1) (h1 : b = true → ∀ H', Sta K P B0 H0 ss cs1 σ H' → t D σ H') (h2 : b = false → ∀ H', Sta K P B0 H0 ss cs1 σ H' → u D σ H') : tIfS tt t u D σ H := by
  obtain ⟨B, s, o⟩ := h
  refine he B H σ o _ fun B1 H1 s1 o1 => ?_
  cases b with
  | true =>
    show t D σ H1
    exact h1 rfl H1 ⟨B1, s.trans s1, o1⟩
  | false =>
    show u D σ H1
    exact h2 rfl H1 ⟨B1, s.trans s1, o1⟩
/-- x = [] that will change -/
theorem st_new {i : Nat} (h : Sta K P B0 H0 ss cs σ H) (k : ∀ p σ' H', H0 p = none → p ∉ P → Sta K (p :: P) B0 H0 (ss.set i (.val (.ref p))) ([] :: cs) σ' H' → D.nx σ' H') : tAsg (tLst tNil) (gName i) D σ H := by
  obtain ⟨B, s, o⟩ := h
  refine ⟨Nat.zero_le _, fun p hp => ?_⟩
  have hp0 : H0 p = none := by
    cases e : H0 p with
    | none => rfl
    | some u =>
      obtain ⟨u', h'⟩ := s.dm p u e
      rw [hp] at h'; cases h'
  have hpP : p ∉ P := fun z => by
    obtain ⟨u, h1, _⟩ := o.mu.mem z
    rw [hp] at h1; cases h1
  have hpB : B p = none := o.ex.free hp
  refine k p _ _ hp0 hpP ⟨B, ⟨s.ex, fun b u n e => ?_, s.nb, fun b u e => ?_⟩, ⟨fun b u e => Ex.new hp b u (o.ex b u e), o.sl.set rfl, ⟨⟨[], upd_same, .nil⟩, hpB, hpP, o.mu.keep (Ex.refl _) (fun x hx => upd_ne fun z => hpP (z ▸ hx)) fun x hx => ?_⟩⟩⟩
  · rw [upd_ne (fun (z : b = p) => n (z ▸ List.mem_cons_self))]
    exact s.fr b u (fun z => n (List.mem_cons_of_mem _ z)) e
  · obtain ⟨u', h'⟩ := s.dm b u e
    exact ⟨u', Ex.new hp b u' h'⟩
  · exact (o.mu.mem hx).choose_spec.2
/-- a list that has changed is data from here on -/
theorem Sta.pub {i : Nat} {p : Addr} {ds : List DV.D} (h : Sta K (p :: P) B0 H0 ss (ds :: cs) σ H) (hp : H0 p = none) (hi : ss[i]? = some (.val (.ref p))) : Sta K P B0 H0 (ss.set i (.dat (.lst ds))) cs σ H := by
  obtain ⟨B, s, o⟩ := h
  obtain ⟨⟨vs, hv, rv⟩, hB, hn, mu⟩ := o.mu
  have eB : Ex B (upd B p (.lst vs)) := Ex.new hB
  obtain ⟨w, hw, ew⟩ := o.sl.get i _ hi (by intro z; cases z)
  have ew' : w = .ref p := ew
  subst ew'
  have hσ : σ.set i (some (.ref p)) = σ := by
    apply List.ext_getElem?
    intro j
    rw [List.getElem?_set]
    by_cases hj : i = j
    · subst hj
      have hl : i < σ.length := (List.getElem?_eq_some_iff.mp hw).1
      rw [if_pos rfl, if_pos hl, hw]
    · rw [if_neg hj]
  refine ⟨upd B p (.lst vs), ⟨s.ex.trans eB, fun b u n e => ?_, fun b u e => ?_, s.dm⟩, ⟨fun b u e => ?_, ?_, mu.keep eB (fun _ _ => rfl) fun x hx => ?_⟩⟩
  · exact s.fr b u (fun z => by
      rcases List.mem_cons.mp z with z | z
      · subst z; rw [hp] at e; cases e
      · exact n z) e
  · rw [upd_ne (ne_of_none e hp)]
    exact s.nb b u e
  · by_cases hb : b = p
    · subst hb; rw [upd_same] at e; cases e; exact hv
    · rw [upd_ne hb] at e; exact o.ex b u e
  · have q := (o.sl.mono eB).set (i := i) (v := .ref p) (r := .dat (.lst ds)) (Rp.lst upd_same (rv.mono eB))
    rw [hσ] at q
    exact q
  · obtain ⟨u, _, h2⟩ := mu.mem hx
    rw [upd_ne (fun (z : x = p) => hn (z ▸ hx))]
    exact h2
end

/-! ### targets -/
/-- the slots W alone are other ones -/
def Only (W : List Nat) (σ σ' : L2.St) : Prop := σ'.length = σ.length ∧ ∀ k, k ∉ W → σ'[k]? = σ[k]?
theorem Only.refl (W : List Nat) (σ : L2.St) : Only W σ σ := ⟨rfl, fun _ _ => rfl⟩
theorem Only.trans {W W' : List Nat} {σ σ1 σ2 : L2.St} (a : Only W σ σ1) (b : Only W' σ1 σ2) : Only (W ++ W') σ σ2 :=
  ⟨b.1.trans a.1, fun k n => (b.2 k fun h => n (List.mem_append_right _ h)).trans (a.2 k fun h => n (List.mem_append_left _ h))⟩
theorem Only.set (σ : L2.St) (i : Nat) (o : Option V) : Only [i] σ (σ.set i o) :=
  ⟨List.length_set, fun k n => by rw [List.getElem?_set, if_neg (fun e => n (by simp [e]))]⟩
theorem wipe_get (σ : L2.St) : ∀ (vs : List Nat) (k : Nat), (wipe σ vs)[k]? = if k ∈ vs then (if k < σ.length then some none else none) else σ[k]?
  | [], k => by simp [wipe]
  | v :: vs, k => by
    unfold wipe
    rw [List.getElem?_set, wipe_length]
    by_cases h : v = k
    · subst h
      rw [if_pos rfl, if_pos List.mem_cons_self]
    · rw [if_neg h, wipe_get σ vs k]
      by_cases hk : k ∈ vs
      · rw [if_pos hk, if_pos (List.mem_cons_of_mem _ hk)]
      · rw [if_neg hk, if_neg (fun z => by
          rcases List.mem_cons.mp z with z | z
          · exact h z.symm
          · exact hk z)]
theorem Only.wipe {W vs : List Nat} {σ σ' : L2.St} (o : Only W (L2.wipe σ vs) σ') (h : ∀ k ∈ W, k ∈ vs) : L2.wipe σ' vs = L2.wipe σ vs := by
  have hl : σ'.length = σ.length := o.1.trans (wipe_length σ vs)
  apply List.ext_getElem?
  intro k
  rw [wipe_get, wipe_get, hl]
  by_cases hk : k ∈ vs
  · rw [if_pos hk, if_pos hk]
  · rw [if_neg hk, if_neg hk, o.2 k (fun z => hk (h k z)), wipe_get, if_neg hk]
def wipeS (ss : List Sl) : List Nat → List Sl
  | [] => ss
  | v :: vs => (wipeS ss vs).set v .any
theorem Slots.wipe {B : Hp} {σ : L2.St} {ss : List Sl} (h : Slots K B σ ss) : ∀ vs : List Nat, Slots K B (L2.wipe σ vs) (wipeS ss vs)
  | [] => h
  | v :: vs => (Slots.wipe h vs).clr v none
def GR (K : PySem.W.Frag) (ss : List Sl) (g : TG) (d : D) (ss' : List Sl) (W : List Nat) : Prop := ∀ B H σ v, Ex B H → Slots K B σ ss → Rp K B v d → ∀ Q : L2.St → Hp → Prop, (∀ σ', Slots K B σ' ss' → Only W σ σ' → Q σ' H) → g v σ H Q
def GRs (K : PySem.W.Frag) (ss : List Sl) (g : TGs) (ds : List D) (ss' : List Sl) (W : List Nat) : Prop := ∀ B H σ vs, Ex B H → Slots K B σ ss → RpA K B vs ds → ∀ Q : L2.St → Hp → Prop, (∀ σ', Slots K B σ' ss' → Only W σ σ' → Q σ' H) → g vs σ H Q
section
variable {ss ss1 ss2 : List Sl} {d : D} {ds : List D} {W W' : List Nat}
theorem g_name {i : Nat} : GR K ss (gName i) d (ss.set i (.dat d)) [i] := fun B H σ v _ s r Q q => q _ (s.set r) (Only.set _ _ _)
theorem g_nil : GRs K ss gNil [] ss [] := fun B H σ vs _ s r Q q => by
  cases r
  exact ⟨rfl, q σ s (Only.refl _ _)⟩
theorem g_cons {g : TG} {gs : TGs} (h : GR K ss g d ss1 W) (hs : GRs K ss1 gs ds ss2 W') : GRs K ss (gCons g gs) (d :: ds) ss2 (W ++ W') := fun B H σ vs e s r Q q => by
  cases r with
  | cons r1 r2 => exact ⟨_, _, rfl, h B H σ _ e s r1 _ fun σ1 s1 o1 => hs B H σ1 _ e s1 r2 Q fun σ2 s2 o2 => q σ2 s2 (o1.trans o2)⟩
theorem g_tup {n : Nat} {gs : TGs} (hs : GRs K ss gs ds ss2 W) (hn : ds.length = n := by rfl) : GR K ss (gTup K n gs) (.tup ds) ss2 W := fun B H σ v e s r Q q => by
  cases r with
  | tup h ra => exact ⟨_, _, rfl, .inl (RdEx e h), by rw [ra.length]; exact hn, hs B H σ _ e s ra Q q⟩
end
end DV
/-! DV2: operations over plain data. -/
namespace DV
open PySem L2
variable {K : PySem.W.Frag}

/-! ### data as the library's data -/
mutual
def D.py : D → PyData
  | .non => .none
  | .bl b => .bool b
  | .int i => .int i
  | .str x => .str x
  | .lst ds => .list (D.pyA ds)
  | .tup ds => .tuple (D.pyA ds)
  | .fro ds => .list (D.pyA ds)
  | .nt _ => .none
  | .dic _ => .none
  | .obj _ _ => .none
def D.pyA : List D → List PyData
  | [] => []
  | d :: ds => d.py :: D.pyA ds
end
mutual
/-- no dict, no instance, no frozen list -/
def D.pl : D → Bool
  | .non => true
  | .bl _ => true
  | .int _ => true
  | .str _ => true
  | .lst ds => D.plA ds
  | .tup ds => D.plA ds
  | .fro _ => false
  | .nt _ => false
  | .dic _ => false
  | .obj _ _ => false
def D.plA : List D → Bool
  | [] => true
  | d :: ds => d.pl && D.plA ds
end
mutual
/-- .. and no bool -/
def D.nb : D → Bool
  | .non => true
  | .bl _ => false
  | .int _ => true
  | .str _ => true
  | .lst ds => D.nbA ds
  | .tup ds => D.nbA ds
  | .fro _ => false
  | .nt _ => false
  | .dic _ => false
  | .obj _ _ => false
def D.nbA : List D → Bool
  | [] => true
  | d :: ds => d.nb && D.nbA ds
end
mutual
theorem D.pl_of_nb : ∀ d : D, d.nb = true → d.pl = true
  | .non, _ => rfl
  | .bl _, _ => rfl
  | .int _, _ => rfl
  | .str _, _ => rfl
  | .lst ds, h => D.plA_of_nb ds (by simpa [D.nb] using h)
  | .tup ds, h => D.plA_of_nb ds (by simpa [D.nb] using h)
  | .fro _, h => by simp [D.nb] at h
  | .nt _, h => by simp [D.nb] at h
  | .dic _, h => by simp [D.nb] at h
  | .obj _ _, h => by simp [D.nb] at h
theorem D.plA_of_nb : ∀ ds : List D, D.nbA ds = true → D.plA ds = true
  | [], _ => rfl
  | d :: ds, h => by
    have h' : d.nb = true ∧ D.nbA ds = true := by simpa [D.nbA] using h
    simp [D.plA, D.pl_of_nb d h'.1, D.plA_of_nb ds h'.2]
end
mutual
theorem Rp.dp {B H : Hp} (e : Ex B H) : ∀ {v : V} {d : D}, Rp K B v d → d.pl = true → Dp K H v d.py
  | _, _, .non, _ => .non
  | _, _, .bl b, _ => .bl b
  | _, _, .int i, _ => .int i
  | _, _, .str x, _ => .str x
  | _, _, .lst h r, p => .lst (.inl (.inl (e _ _ h))) (RpA.dp e r (by simpa [D.pl] using p))
  | _, _, .tup h r, p => .tup (.inl (RdEx e h)) (RpA.dp e r (by simpa [D.pl] using p))
  | _, _, .fro _ _, p => by simp [D.pl] at p
  | _, _, .nt _ _ _, p => by simp [D.pl] at p
  | _, _, .dic _ _, p => by simp [D.pl] at p
  | _, _, .obj _ _, p => by simp [D.pl] at p
theorem RpA.dp {B H : Hp} (e : Ex B H) : ∀ {vs : List V} {ds : List D}, RpA K B vs ds → D.plA ds = true → DpAll K H vs (D.pyA ds)
  | _, _, .nil, _ => .nil
  | _, _, .cons h r, p => by
    have p' := p
    simp [D.plA] at p'
    exact .cons (Rp.dp e h p'.1) (RpA.dp e r p'.2)
end
/-! equal data -/
mutual
theorem D.eqv_iff : ∀ d e : D, d.nb = true → e.nb = true → (PyData.eqv d.py e.py = true ↔ d = e)
  | .non, e, _, he => by cases e <;> simp [D.py, PyData.eqv, D.nb] at he ⊢
  | .bl _, _, hd, _ => by simp [D.nb] at hd
  | .int i, e, _, he => by cases e <;> simp [D.py, PyData.eqv, D.nb] at he ⊢
  | .str x, e, _, he => by cases e <;> simp [D.py, PyData.eqv, D.nb] at he ⊢
  | .lst ds, e, hd, he => by
    cases e with
    | lst es =>
      have := D.eqvA_iff ds es (by simpa [D.nb] using hd) (by simpa [D.nb] using he)
      simp only [D.py, PyData.eqv, this, D.lst.injEq]
    | non => simp [D.py, PyData.eqv]
    | bl b => simp [D.nb] at he
    | int i => simp [D.py, PyData.eqv]
    | str x => simp [D.py, PyData.eqv]
    | tup x => simp [D.py, PyData.eqv]
    | dic x => simp [D.nb] at he
    | obj C x => simp [D.nb] at he
    | fro x => simp [D.nb] at he
    | nt x => simp [D.nb] at he
  | .tup ds, e, hd, he => by
    cases e with
    | tup es =>
      have := D.eqvA_iff ds es (by simpa [D.nb] using hd) (by simpa [D.nb] using he)
      simp only [D.py, PyData.eqv, this, D.tup.injEq]
    | non => simp [D.py, PyData.eqv]
    | bl b => simp [D.nb] at he
    | int i => simp [D.py, PyData.eqv]
    | str x => simp [D.py, PyData.eqv]
    | lst x => simp [D.py, PyData.eqv]
    | dic x => simp [D.nb] at he
    | obj C x => simp [D.nb] at he
    | fro x => simp [D.nb] at he
    | nt x => simp [D.nb] at he
  | .fro _, _, hd, _ => by simp [D.nb] at hd
  | .nt _, _, hd, _ => by simp [D.nb] at hd
  | .dic _, _, hd, _ => by simp [D.nb] at hd
  | .obj _ _, _, hd, _ => by simp [D.nb] at hd
theorem D.eqvA_iff : ∀ ds es : List D, D.nbA ds = true → D.nbA es = true → (PyData.eqvAll (D.pyA ds) (D.pyA es) = true ↔ ds = es)
  | [], [], _, _ => by simp [D.pyA, PyData.eqvAll]
  | [], e :: es, _, _ => by simp [D.pyA, PyData.eqvAll]
  | d :: ds, [], _, _ => by simp [D.pyA, PyData.eqvAll]
  | d :: ds, e :: es, hd, he => by
    have hd' : d.nb = true ∧ D.nbA ds = true := by simpa [D.nbA] using hd
    have he' : e.nb = true ∧ D.nbA es = true := by simpa [D.nbA] using he
    have i1 := D.eqv_iff d e hd'.1 he'.1
    have i2 := D.eqvA_iff ds es hd'.2 he'.2
    simp only [D.pyA, PyData.eqvAll, Bool.and_eq_true, i1, i2, List.cons.injEq]
end
mutual
/-- data that may be compared: texts of real signs, at most n deep -/
def D.sh : Nat → D → Bool
  | _, .non => true
  | _, .bl _ => true
  | _, .int _ => true
  | _, .str x => PyData.strOk x
  | 0, .lst _ => false
  | 0, .tup _ => false
  | n + 1, .lst ds => D.shA n ds
  | n + 1, .tup ds => D.shA n ds
  | _, .fro _ => false
  | _, .nt _ => false
  | _, .dic _ => false
  | _, .obj _ _ => false
def D.shA : Nat → List D → Bool
  | _, [] => true
  | n, d :: ds => D.sh n d && D.shA n ds
end
mutual
theorem D.sh_lay : ∀ (n : Nat) (d : D), D.sh n d = true → d.py.canLay0 = true ∧ d.py.depth ≤ n
  | _, .non, _ => by simp [D.py, PyData.canLay0, PyData.depth]
  | _, .bl _, _ => by simp [D.py, PyData.canLay0, PyData.depth]
  | _, .int _, _ => by simp [D.py, PyData.canLay0, PyData.depth]
  | n, .str x, h => by
    have h' : PyData.strOk x = true := by cases n <;> simpa [D.sh] using h
    simp [D.py, PyData.canLay0, PyData.depth, h']
  | 0, .lst _, h => by simp [D.sh] at h
  | 0, .tup _, h => by simp [D.sh] at h
  | n + 1, .lst ds, h => by
    have := D.shA_lay n ds (by simpa [D.sh] using h)
    simp [D.py, PyData.canLay0, PyData.depth, this.1, this.2]
  | n + 1, .tup ds, h => by
    have := D.shA_lay n ds (by simpa [D.sh] using h)
    simp [D.py, PyData.canLay0, PyData.depth, this.1, this.2]
  | n, .fro _, h => by cases n <;> simp [D.sh] at h
  | n, .nt _, h => by cases n <;> simp [D.sh] at h
  | n, .dic _, h => by cases n <;> simp [D.sh] at h
  | n, .obj _ _, h => by cases n <;> simp [D.sh] at h
theorem D.shA_lay : ∀ (n : Nat) (ds : List D), D.shA n ds = true → PyData.canLayAll0 (D.pyA ds) = true ∧ PyData.depthAll (D.pyA ds) ≤ n
  | _, [], _ => by simp [D.pyA, PyData.canLayAll0, PyData.depthAll]
  | n, d :: ds, h => by
    have h' : D.sh n d = true ∧ D.shA n ds = true := by simpa [D.shA] using h
    have i1 := D.sh_lay n d h'.1
    have i2 := D.shA_lay n ds h'.2
    simp [D.pyA, PyData.canLayAll0, PyData.depthAll, i1.1, i2.1]
    omega
end
mutual
theorem D.sh_pl : ∀ (n : Nat) (d : D), D.sh n d = true → d.pl = true
  | _, .non, _ => rfl
  | _, .bl _, _ => rfl
  | _, .int _, _ => rfl
  | _, .str _, _ => rfl
  | 0, .lst _, h => by simp [D.sh] at h
  | 0, .tup _, h => by simp [D.sh] at h
  | n + 1, .lst ds, h => D.shA_pl n ds (by simpa [D.sh] using h)
  | n + 1, .tup ds, h => D.shA_pl n ds (by simpa [D.sh] using h)
  | n, .fro _, h => by cases n <;> simp [D.sh] at h
  | n, .nt _, h => by cases n <;> simp [D.sh] at h
  | n, .dic _, h => by cases n <;> simp [D.sh] at h
  | n, .obj _ _, h => by cases n <;> simp [D.sh] at h
theorem D.shA_pl : ∀ (n : Nat) (ds : List D), D.shA n ds = true → D.plA ds = true
  | _, [], _ => rfl
  | n, d :: ds, h => by
    have h' : D.sh n d = true ∧ D.shA n ds = true := by simpa [D.shA] using h
    simp [D.plA, D.sh_pl n d h'.1, D.shA_pl n ds h'.2]
end
theorem D.shaped {d : D} {n : Nat} (h : D.sh n d = true) (hn : n ≤ 64 := by decide) : SeqAt.shaped d.py = true := by
  obtain ⟨h1, h2⟩ := D.sh_lay n d h
  unfold SeqAt.shaped
  simp [h1]
  omega
theorem D.shA_all {n : Nat} : ∀ {ds : List D}, (∀ d ∈ ds, D.sh n d = true) → D.shA n ds = true
  | [], _ => rfl
  | d :: ds, h => by simp [D.shA, h d List.mem_cons_self, D.shA_all fun e he => h e (List.mem_cons_of_mem _ he)]
theorem D.nbA_all : ∀ {ds : List D}, (∀ d ∈ ds, d.nb = true) → D.nbA ds = true
  | [], _ => rfl
  | d :: ds, h => by simp [D.nbA, h d List.mem_cons_self, D.nbA_all fun e he => h e (List.mem_cons_of_mem _ he)]

/-! ### operators -/
def rOr (f g : R2) : R2 := fun x y H Q => f x y H Q ∨ g x y H Q
theorem op_or {X : Cx} {F : Value → Value → Sem Value} {f g : R2} (hf : OpR X F f) (hg : OpR X F g) : OpR X F (rOr f g) := fun pins s σ H x y v u Q I rx ry h =>
  h.elim (hf pins s σ H x y v u Q I rx ry) (hg pins s σ H x y v u Q I rx ry)
section
variable {f g : R2} {r1 r2 r : Sl}
theorem od_l (h : OpD K f r1 r2 r) : OpD K (rOr f g) r1 r2 r := fun B H x y e a b Q q => .inl (h B H x y e a b Q q)
theorem od_r (h : OpD K g r1 r2 r) : OpD K (rOr f g) r1 r2 r := fun B H x y e a b Q q => .inr (h B H x y e a b Q q)
end
theorem od_I0 {g : Int → Int → V} {i j : Int} {d : D} (h : ∀ B, Rp K B (g i j) d) : OpD K (rI0 g) (.dat (.int i)) (.dat (.int j)) (.dat d) := fun B H x y e a b Q q => by
  have a' : Rp K B x (.int i) := a
  have b' : Rp K B y (.int j) := b
  cases a'; cases b'
  exact ⟨i, j, rfl, rfl, q _ B H (Stp.refl _ _ _) e (h B)⟩
theorem od_I {C : Int → Int → Prop} {g : Int → Int → V} {i j : Int} {d : D} (hc : C i j) (h : ∀ B, Rp K B (g i j) d) : OpD K (rI C g) (.dat (.int i)) (.dat (.int j)) (.dat d) := fun B H x y e a b Q q => by
  have a' : Rp K B x (.int i) := a
  have b' : Rp K B y (.int j) := b
  cases a'; cases b'
  exact ⟨i, j, rfl, rfl, hc, q _ B H (Stp.refl _ _ _) e (h B)⟩
def rAddS : R2 := fun x y H Q => ∃ i j, x = .str i ∧ y = .str j ∧ i.length + j.length ≤ sizeLine ∧ Q (.str (i ++ j)) H
def addA (K : PySem.W.Frag) : R2 := rOr (rI0 fun i j => .int (i + j)) (rOr rAddS (rOr rCat (rCatA K)))
theorem op_addA {X : Cx} : OpR X (binaryOp .Add) (addA X.K) := op_or op_add (op_or op_add_str (op_or op_cat op_catA))
theorem od_addI {i j : Int} : OpD K (addA K) (.dat (.int i)) (.dat (.int j)) (.dat (.int (i + j))) := od_l (od_I0 fun _ => .int _)
theorem od_subI {i j : Int} : OpD K (rI0 fun i j => .int (i - j)) (.dat (.int i)) (.dat (.int j)) (.dat (.int (i - j))) := od_I0 fun _ => .int _
theorem od_mulI {i j : Int} (h : CMul i j) : OpD K (rI CMul fun i j => .int (i * j)) (.dat (.int i)) (.dat (.int j)) (.dat (.int (i * j))) := od_I h fun _ => .int _
theorem od_addS {a b : Str} (hz : a.length + b.length ≤ 1000000) : OpD K (addA K) (.dat (.str a)) (.dat (.str b)) (.dat (.str (a ++ b))) := od_r (od_l fun B H x y e h1 h2 Q q => by
  have a' : Rp K B x (.str a) := h1
  have b' : Rp K B y (.str b) := h2
  cases a'; cases b'
  exact ⟨a, b, rfl, rfl, le_line hz, q _ B H (Stp.refl _ _ _) e (.str _)⟩)
theorem od_addL {as bs : List D} (hz : as.length + bs.length ≤ 1000000) : OpD K (addA K) (.dat (.lst as)) (.dat (.lst bs)) (.dat (.lst (as ++ bs))) := od_r (od_r (od_l fun B H x y e h1 h2 Q q => by
  have a' : Rp K B x (.lst as) := h1
  have b' : Rp K B y (.lst bs) := h2
  cases a' with
  | @lst _ xs _ ha ra => cases b' with
    | @lst _ ys _ hb rb =>
      refine ⟨_, _, _, _, rfl, rfl, e _ _ ha, e _ _ hb, le_line (by rw [ra.length, rb.length]; exact hz), fun p hp => ?_⟩
      have s := stp_new (o := .lst (xs ++ ys)) e hp
      exact q _ _ _ s e.updB (Rp.lst upd_same ((ra.append rb).mono s.ex))))
theorem od_addT {as bs : List D} (hz : as.length + bs.length ≤ 1000000) : OpD K (addA K) (.dat (.tup as)) (.dat (.tup bs)) (.dat (.tup (as ++ bs))) := od_r (od_r (od_r fun B H x y e h1 h2 Q q => by
  have a' : Rp K B x (.tup as) := h1
  have b' : Rp K B y (.tup bs) := h2
  cases a' with
  | @tup a xs _ ha ra => cases b' with
    | @tup b ys _ hb rb =>
      refine ⟨_, _, xs, ys, rfl, rfl, .inl (RdEx e ha), .inl (RdEx e hb), le_line (by rw [ra.length, rb.length]; exact hz), fun z => ?_, fun _ z => ?_, fun _ _ p hp => ?_⟩
      · subst z
        cases ra
        exact q _ B H (Stp.refl _ _ _) e (Rp.tup hb rb)
      · subst z
        cases rb
        rw [List.append_nil] at q
        exact q _ B H (Stp.refl _ _ _) e (Rp.tup ha ra)
      · have s := stp_new (o := .tup (xs ++ ys)) e hp
        exact q _ _ _ s e.updB (Rp.tup (.inl upd_same) ((ra.append rb).mono s.ex))))
/-- == and != -/
theorem od_eq {d e : D} {b : Bool} (n m : Nat) (hd : D.sh n d = true) (he : D.sh m e = true) (nd : d.nb = true) (ne : e.nb = true) (hb : b = true ↔ d = e) (hn : n ≤ 64 := by decide) (hm : m ≤ 64 := by decide) :
    OpD K (rEqD K) (.dat d) (.dat e) (.dat (.bl b)) := fun B H x y ex h1 h2 Q q => by
  refine ⟨d.py, e.py, Rp.dp ex h1 (D.sh_pl _ _ hd), Rp.dp ex h2 (D.sh_pl _ _ he), D.shaped hd hn, D.shaped he hm, ?_⟩
  have hq : PyData.eqv d.py e.py = b := Bool.eq_iff_iff.mpr ((D.eqv_iff d e nd ne).trans hb.symm)
  rw [hq]
  exact q _ B H (Stp.refl _ _ _) ex (.bl b)
theorem od_ne {d e : D} {b : Bool} (n m : Nat) (hd : D.sh n d = true) (he : D.sh m e = true) (nd : d.nb = true) (ne : e.nb = true) (hb : b = true ↔ d = e) (hn : n ≤ 64 := by decide) (hm : m ≤ 64 := by decide) :
    OpD K (rNeD K) (.dat d) (.dat e) (.dat (.bl (!b))) := fun B H x y ex h1 h2 Q q => by
  refine ⟨d.py, e.py, Rp.dp ex h1 (D.sh_pl _ _ hd), Rp.dp ex h2 (D.sh_pl _ _ he), D.shaped hd hn, D.shaped he hm, ?_⟩
  have hq : PyData.eqv d.py e.py = b := Bool.eq_iff_iff.mpr ((D.eqv_iff d e nd ne).trans hb.symm)
  rw [hq]
  exact q _ B H (Stp.refl _ _ _) ex (.bl _)
/-- two ints, two texts, two bools: by the operators for flat values -/
def eqA (K : PySem.W.Frag) : R2 := rOr rEq (rEqD K)
def neA (K : PySem.W.Frag) : R2 := rOr rNe (rNeD K)
theorem op_eqA {X : Cx} (hu : X.A.units + 64 < cLine) : OpR X (compareOp .Eq) (eqA X.K) := op_or op_eq (op_eqD hu)
theorem op_neA {X : Cx} (hu : X.A.units + 64 < cLine) : OpR X (compareOp .NotEq) (neA X.K) := op_or op_ne (op_neD hu)
theorem od_eqI {i j : Int} : OpD K (eqA K) (.dat (.int i)) (.dat (.int j)) (.dat (.bl (decide (i = j)))) := od_l fun B H x y e h1 h2 Q q => by
  have a' : Rp K B x (.int i) := h1
  have b' : Rp K B y (.int j) := h2
  cases a'; cases b'
  have z : decide (V.int i = V.int j) = decide (i = j) := by simp
  exact ⟨rfl, by rw [z]; exact q _ B H (Stp.refl _ _ _) e (.bl _)⟩
theorem od_neI {i j : Int} : OpD K (neA K) (.dat (.int i)) (.dat (.int j)) (.dat (.bl (!decide (i = j)))) := od_l fun B H x y e h1 h2 Q q => by
  have a' : Rp K B x (.int i) := h1
  have b' : Rp K B y (.int j) := h2
  cases a'; cases b'
  have z : decide (V.int i = V.int j) = decide (i = j) := by simp
  exact ⟨rfl, by rw [z]; exact q _ B H (Stp.refl _ _ _) e (.bl _)⟩
theorem od_eqS {i j : Str} : OpD K (eqA K) (.dat (.str i)) (.dat (.str j)) (.dat (.bl (decide (i = j)))) := od_l fun B H x y e h1 h2 Q q => by
  have a' : Rp K B x (.str i) := h1
  have b' : Rp K B y (.str j) := h2
  cases a'; cases b'
  have z : decide (V.str i = V.str j) = decide (i = j) := by simp
  exact ⟨rfl, by rw [z]; exact q _ B H (Stp.refl _ _ _) e (.bl _)⟩
theorem od_neS {i j : Str} : OpD K (neA K) (.dat (.str i)) (.dat (.str j)) (.dat (.bl (!decide (i = j)))) := od_l fun B H x y e h1 h2 Q q => by
  have a' : Rp K B x (.str i) := h1
  have b' : Rp K B y (.str j) := h2
  cases a'; cases b'
  have z : decide (V.str i = V.str j) = decide (i = j) := by simp
  exact ⟨rfl, by rw [z]; exact q _ B H (Stp.refl _ _ _) e (.bl _)⟩
theorem od_eqB {i j : Bool} : OpD K (eqA K) (.dat (.bl i)) (.dat (.bl j)) (.dat (.bl (decide (i = j)))) := od_l fun B H x y e h1 h2 Q q => by
  have a' : Rp K B x (.bl i) := h1
  have b' : Rp K B y (.bl j) := h2
  cases a'; cases b'
  have z : decide (V.bl i = V.bl j) = decide (i = j) := by simp
  exact ⟨rfl, by rw [z]; exact q _ B H (Stp.refl _ _ _) e (.bl _)⟩
theorem od_neB {i j : Bool} : OpD K (neA K) (.dat (.bl i)) (.dat (.bl j)) (.dat (.bl (!decide (i = j)))) := od_l fun B H x y e h1 h2 Q q => by
  have a' : Rp K B x (.bl i) := h1
  have b' : Rp K B y (.bl j) := h2
  cases a'; cases b'
  have z : decide (V.bl i = V.bl j) = decide (i = j) := by simp
  exact ⟨rfl, by rw [z]; exact q _ B H (Stp.refl _ _ _) e (.bl _)⟩
/-- x is None -/
def D.isN : D → Bool
  | .non => true | _ => false
theorem Rp.isN {B : Hp} {v : V} {d : D} (h : Rp K B v d) : decide (v = .non) = d.isN := by
  cases h <;> simp [D.isN]
def rIsN : R2 := fun x y H Q => y = .non ∧ Q (.bl (decide (x = .non))) H
def rNotN : R2 := fun x y H Q => y = .non ∧ Q (.bl (!decide (x = .non))) H
theorem op_isN' {X : Cx} : OpR X (compareOp .Is) rIsN := op_isN
theorem op_notN' {X : Cx} : OpR X (compareOp .IsNot) rNotN := op_notN
theorem od_isN {d : D} : OpD K rIsN (.dat d) (.dat .non) (.dat (.bl d.isN)) := fun B H x y e h1 h2 Q q => by
  have b' : Rp K B y .non := h2
  cases b'
  exact ⟨rfl, by rw [Rp.isN (K := K) (B := B) (d := d) h1]; exact q _ B H (Stp.refl _ _ _) e (.bl _)⟩
theorem od_notN {d : D} : OpD K rNotN (.dat d) (.dat .non) (.dat (.bl (!d.isN))) := fun B H x y e h1 h2 Q q => by
  have b' : Rp K B y .non := h2
  cases b'
  exact ⟨rfl, by rw [Rp.isN (K := K) (B := B) (d := d) h1]; exact q _ B H (Stp.refl _ _ _) e (.bl _)⟩
/-- a text in a list of texts -/
theorem RpA.strs {B : Hp} : ∀ {vs : List V} {ss : List Str}, RpA K B vs (ss.map D.str) → vs = ss.map V.str
  | [], [], _ => rfl
  | _ :: _, [], h => by cases h
  | [], _ :: _, h => by cases h
  | _ :: _, _ :: _, .cons h r => by
    cases h
    rw [RpA.strs r]
    rfl
theorem RpA.ofStrs {B : Hp} : ∀ {ss : List Str}, RpA K B (ss.map V.str) (ss.map D.str)
  | [] => .nil
  | _ :: _ => .cons (.str _) RpA.ofStrs
theorem RpA.ofInts {B : Hp} : ∀ {ss : List Int}, RpA K B (ss.map V.int) (ss.map D.int)
  | [] => .nil
  | _ :: _ => .cons (.int _) RpA.ofInts
theorem RpA.ints {B : Hp} : ∀ {vs : List V} {ss : List Int}, RpA K B vs (ss.map D.int) → vs = ss.map V.int
  | [], [], _ => rfl
  | _ :: _, [], h => by cases h
  | [], _ :: _, h => by cases h
  | _ :: _, _ :: _, .cons h r => by
    cases h
    rw [RpA.ints r]
    rfl
theorem RpA.bools {B : Hp} : ∀ {vs : List V} {ss : List Bool}, RpA K B vs (ss.map D.bl) → vs = ss.map V.bl
  | [], [], _ => rfl
  | _ :: _, [], h => by cases h
  | [], _ :: _, h => by cases h
  | _ :: _, _ :: _, .cons h r => by
    cases h
    rw [RpA.bools r]
    rfl
theorem inV_strs (x : Str) (ss : List Str) : inV (.str x) (ss.map V.str) = decide (x ∈ ss) := by
  rw [Bool.eq_iff_iff]
  unfold inV
  rw [List.any_eq_true, decide_eq_true_eq]
  constructor
  · rintro ⟨y, hy, e⟩
    obtain ⟨z, hz, rfl⟩ := List.mem_map.mp hy
    have e' : (z == x) = true := e
    rw [← beq_iff_eq.mp e']
    exact hz
  · intro h
    exact ⟨.str x, List.mem_map.mpr ⟨x, h, rfl⟩, (show (x == x) = true from beq_iff_eq.mpr rfl)⟩
theorem flat_strs : ∀ ss : List Str, (ss.map V.str).all flatV = true
  | [] => rfl
  | _ :: ss => by rw [List.map_cons, List.all_cons, flat_strs ss]; rfl
theorem od_inS {x : Str} {ss : List Str} : OpD K (rIn K false) (.dat (.str x)) (.dat (.lst (ss.map D.str))) (.dat (.bl (decide (x ∈ ss)))) := fun B H v y e h1 h2 Q q => by
  have a' : Rp K B v (.str x) := h1
  have b' : Rp K B y (.lst (ss.map D.str)) := h2
  cases a'
  cases b' with
  | lst h r =>
    have z := RpA.strs r
    subst z
    refine ⟨_, _, rfl, .inl (.inl (.inl (e _ _ h))), rfl, flat_strs ss, ?_⟩
    rw [if_neg Bool.false_ne_true, inV_strs]
    exact q _ B H (Stp.refl _ _ _) e (.bl _)
theorem od_niS {x : Str} {ss : List Str} : OpD K (rIn K true) (.dat (.str x)) (.dat (.lst (ss.map D.str))) (.dat (.bl (!decide (x ∈ ss)))) := fun B H v y e h1 h2 Q q => by
  have a' : Rp K B v (.str x) := h1
  have b' : Rp K B y (.lst (ss.map D.str)) := h2
  cases a'
  cases b' with
  | lst h r =>
    have z := RpA.strs r
    subst z
    refine ⟨_, _, rfl, .inl (.inl (.inl (e _ _ h))), rfl, flat_strs ss, ?_⟩
    rw [if_pos rfl, inV_strs]
    exact q _ B H (Stp.refl _ _ _) e (.bl _)

/-! ### subscripts, slices -/
theorem RpA.atI {B : Hp} {vs : List V} {ds : List D} {i : Int} {d : D} (r : RpA K B vs ds) (h : L2.atI ds i = some d) : ∃ v, L2.atI vs i = some v ∧ Rp K B v d := by
  unfold L2.atI at h ⊢
  rw [r.length]
  cases e : ixN ds.length i with
  | none => rw [e] at h; cases h
  | some j =>
    rw [e] at h
    exact r.get h
theorem od_ixL {ds : List D} {i : Int} {d : D} (h : atI ds i = some d) : OpD K (rIx K) (.dat (.lst ds)) (.dat (.int i)) (.dat d) := fun B H x y e h1 h2 Q q => by
  have a' : Rp K B x (.lst ds) := h1
  have b' : Rp K B y (.int i) := h2
  cases b'
  cases a' with
  | lst h r =>
    obtain ⟨v, h3, h4⟩ := r.atI ‹L2.atI ds i = some d›
    exact .inl ⟨_, _, i, v, rfl, rfl, .inl (.inl (e _ _ h)), h3, q v B H (Stp.refl _ _ _) e h4⟩
theorem od_ixT {ds : List D} {i : Int} {d : D} (h : atI ds i = some d) : OpD K (rIx K) (.dat (.tup ds)) (.dat (.int i)) (.dat d) := fun B H x y e h1 h2 Q q => by
  have a' : Rp K B x (.tup ds) := h1
  have b' : Rp K B y (.int i) := h2
  cases b'
  cases a' with
  | tup h r =>
    obtain ⟨v, h3, h4⟩ := r.atI ‹L2.atI ds i = some d›
    exact .inr (.inl ⟨_, _, i, v, rfl, rfl, .inl (RdEx e h), h3, q v B H (Stp.refl _ _ _) e h4⟩)
theorem SqL.ex {B H : Hp} {a : Addr} {xs : List V} (e : Ex B H) (h : SqL K B a xs) : SqL K H a xs := h.elim (fun h => .inl (h.elim (fun h => .inl (e _ _ h)) fun ⟨o, h⟩ => .inr ⟨o, e _ _ h⟩)) .inr
theorem od_ixF {ds : List D} {i : Int} {d : D} (h : atI ds i = some d) : OpD K (rIx K) (.dat (.fro ds)) (.dat (.int i)) (.dat d) := fun B H x y e h1 h2 Q q => by
  have a' : Rp K B x (.fro ds) := h1
  have b' : Rp K B y (.int i) := h2
  cases b'
  cases a' with
  | fro h r =>
    obtain ⟨v, h3, h4⟩ := r.atI ‹L2.atI ds i = some d›
    exact .inl ⟨_, _, i, v, rfl, rfl, SqL.ex e h, h3, q v B H (Stp.refl _ _ _) e h4⟩
def cutD (xs : List D) (lo hi : Option Int) : List D := (xs.drop (HT.sIx xs.length 0 lo)).take (HT.sIx xs.length xs.length hi - HT.sIx xs.length 0 lo)
theorem RpA.cut {B : Hp} {vs : List V} {ds : List D} (r : RpA K B vs ds) (lo hi : Option Int) : RpA K B (cutV vs lo hi) (cutD ds lo hi) := by
  unfold cutV cutD
  rw [r.length]
  exact (r.drop _).take _
def EvO (K : PySem.W.Frag) (P : List Addr) (ss : List Sl) (cs : List (List D)) (to : TO) (o : Option Int) (cs' : List (List D)) : Prop :=
  ∀ B H σ, Okk K P ss cs B H σ → ∀ Q : Option Int → Hp → Prop, (∀ B' H', Stp P B H B' H' → Okk K P ss cs' B' H' σ → Q o H') → to σ H Q
def SlD (K : PySem.W.Frag) (f : V → Option Int → Option Int → Hp → VK → Prop) (r1 : Sl) (lo hi : Option Int) (r : Sl) : Prop :=
  ∀ B H x, Ex B H → RS K B x r1 → ∀ Q : VK, (∀ v B' H', Stp [] B H B' H' → Ex B' H' → RS K B' v r → Q v H') → f x lo hi H Q
section
variable {P : List Addr} {ss : List Sl} {cs cs1 cs2 cs3 : List (List D)} {te : TE} {r r1 : Sl}
theorem eo_none : EvO K P ss cs tNoPart none cs := fun B H σ o Q q => q B H (Stp.refl _ _ _) o
theorem eo_some {i : Int} (h : Ev K P ss cs te (.dat (.int i)) cs1) : EvO K P ss cs (tPart te) (some i) cs1 := fun B H σ o Q q =>
  h B H σ o _ fun v B1 H1 s1 o1 v1 => by
    have a' : Rp K B1 v (.int i) := v1
    cases a'
    exact ⟨i, rfl, q B1 H1 s1 o1⟩
theorem ev_sl {f : V → Option Int → Option Int → Hp → VK → Prop} {tl th : TO} {lo hi : Option Int} (h : Ev K P ss cs te r1 cs1) (hl : EvO K P ss cs1 tl lo cs2) (hh : EvO K P ss cs2 th hi cs3) (hf : SlD K f r1 lo hi r) :
    Ev K P ss cs (tSl f te tl th) r cs3 := fun B H σ o Q q =>
  h B H σ o _ fun x B1 H1 s1 o1 x1 => hl B1 H1 σ o1 _ fun B2 H2 s2 o2 => hh B2 H2 σ o2 _ fun B3 H3 s3 o3 => hf B3 H3 x o3.ex (x1.mono (s2.ex.trans s3.ex)) Q fun v B4 H4 s4 e4 v4 =>
    q v B4 H4 (((s1.trans s2).trans s3).trans s4.ofNil) (o3.step0 s4 e4) v4
end
def rSl3 (K : PySem.W.Frag) : V → Option Int → Option Int → Hp → VK → Prop := fun x lo hi H Q => rSlL K x lo hi H Q ∨ rSlA K x lo hi H Q ∨ rSlS x lo hi H Q
theorem sl_3 {X : Cx} : SlR X (rSl3 X.K) := by
  intro pins s σ H x v vl vu lo hi sl Q I rx hs pl pu h
  rcases h with h | h | h
  · exact sl_list pins s σ H x v vl vu lo hi sl Q I rx hs pl pu h
  · exact sl_tupA pins s σ H x v vl vu lo hi sl Q I rx hs pl pu h
  · exact sl_str pins s σ H x v vl vu lo hi sl Q I rx hs pl pu h
theorem sd_L {ds : List D} {lo hi : Option Int} : SlD K (rSl3 K) (.dat (.lst ds)) lo hi (.dat (.lst (cutD ds lo hi))) := fun B H x e h1 Q q => by
  have a' : Rp K B x (.lst ds) := h1
  cases a' with
  | @lst _ xs _ h r =>
    refine .inl ⟨_, _, rfl, .inl (.inl (e _ _ h)), fun p hp => ?_⟩
    have s := stp_new (o := .lst (cutV xs lo hi)) e hp
    exact q _ _ _ s e.updB (Rp.lst upd_same ((r.cut lo hi).mono s.ex))
theorem sd_T {ds : List D} {lo hi : Option Int} : SlD K (rSl3 K) (.dat (.tup ds)) lo hi (.dat (.tup (cutD ds lo hi))) := fun B H x e h1 Q q => by
  have a' : Rp K B x (.tup ds) := h1
  cases a' with
  | @tup a xs _ h r =>
    refine .inr (.inl ⟨_, xs, rfl, .inl (RdEx e h), fun w => ?_, fun _ p hp => ?_⟩)
    · have z : cutD ds lo hi = ds := by
        unfold cutD
        rw [r.length] at w
        rw [w.1, w.2, Nat.sub_zero, List.drop_zero, List.take_length]
      rw [z] at q
      exact q _ B H (Stp.refl _ _ _) e (Rp.tup h r)
    · have s := stp_new (o := .tup (cutV xs lo hi)) e hp
      exact q _ _ _ s e.updB (Rp.tup (.inl upd_same) ((r.cut lo hi).mono s.ex))
theorem sd_S {z : Str} {lo hi : Option Int} (hz : z.length ≤ 1000000) : SlD K (rSl3 K) (.dat (.str z)) lo hi (.dat (.str (cutS z lo hi))) := fun B H x e h1 Q q => by
  have a' : Rp K B x (.str z) := h1
  cases a'
  exact .inr (.inr ⟨z, rfl, le_line hz, q _ B H (Stp.refl _ _ _) e (.str _)⟩)

/-! ### calls of built-ins -/
def rLen1 (K : PySem.W.Frag) : List V → Hp → VK → Prop := fun xs H Q => ∃ x n, xs = [x] ∧ LenV K x H n ∧ Q (.int n) H
theorem call_len1 {X : Cx} : CallR X (.builtin "len") (rLen1 X.K) := call_len
theorem rs1 {B : Hp} {vs : List V} {r : Sl} (h : RSs K B vs [r]) : ∃ v, vs = [v] ∧ RS K B v r := by
  match vs, h with
  | [v], h => exact ⟨v, rfl, h.1⟩
theorem rs2 {B : Hp} {vs : List V} {r r' : Sl} (h : RSs K B vs [r, r']) : ∃ v v', vs = [v, v'] ∧ RS K B v r ∧ RS K B v' r' := by
  match vs, h with
  | [v, v'], h => exact ⟨v, v', rfl, h.1, h.2.1⟩
theorem cb_lenL {ds : List D} : CbD K (rLen1 K) [.dat (.lst ds)] (.dat (.int (ds.length : Int))) := fun B H vs e h Q q => by
  obtain ⟨v, rfl, h1⟩ := rs1 h
  have a' : Rp K B v (.lst ds) := h1
  cases a' with
  | lst h5 r => exact ⟨_, ds.length, rfl, .inl ⟨_, .inl (.inl (e _ _ h5)), r.length.symm⟩, q _ B H (Stp.refl _ _ _) e (.int _)⟩
theorem cb_lenT {ds : List D} : CbD K (rLen1 K) [.dat (.tup ds)] (.dat (.int (ds.length : Int))) := fun B H vs e h Q q => by
  obtain ⟨v, rfl, h1⟩ := rs1 h
  have a' : Rp K B v (.tup ds) := h1
  cases a' with
  | tup h5 r => exact ⟨_, ds.length, rfl, .inr ⟨_, .inl (RdEx e h5), r.length.symm⟩, q _ B H (Stp.refl _ _ _) e (.int _)⟩
theorem cb_lenF {ds : List D} : CbD K (rLen1 K) [.dat (.fro ds)] (.dat (.int (ds.length : Int))) := fun B H vs e h Q q => by
  obtain ⟨v, rfl, h1⟩ := rs1 h
  have a' : Rp K B v (.fro ds) := h1
  cases a' with
  | fro h5 r => exact ⟨_, ds.length, rfl, .inl ⟨_, SqL.ex e h5, r.length.symm⟩, q _ B H (Stp.refl _ _ _) e (.int _)⟩
theorem cb_lenS {z : Str} (hz : z.length ≤ 1000000) : CbD K (rLen1 K) [.dat (.str z)] (.dat (.int (z.length : Int))) := fun B H vs e h Q q => by
  obtain ⟨v, rfl, h1⟩ := rs1 h
  have a' : Rp K B v (.str z) := h1
  cases a'
  exact ⟨_, z.length, rfl, ⟨le_line hz, rfl⟩, q _ B H (Stp.refl _ _ _) e (.int _)⟩
def rTuple1 (K : PySem.W.Frag) : List V → Hp → VK → Prop := fun xs H Q => ∃ p ys, xs = [.ref p] ∧ ((SqL K H p ys ∧ ∀ l, H l = none → Q (.ref l) (upd H l (.tup ys))) ∨ (SqT K H p ys ∧ Q (.ref p) H))
theorem call_tuple1 {X : Cx} : CallR X (.type "tuple") (rTuple1 X.K) := call_tuple_of
theorem cb_tupleL {ds : List D} : CbD K (rTuple1 K) [.dat (.lst ds)] (.dat (.tup ds)) := fun B H vs e h Q q => by
  obtain ⟨v, rfl, h1⟩ := rs1 h
  have a' : Rp K B v (.lst ds) := h1
  cases a' with
  | @lst _ xs _ h5 r =>
    refine ⟨_, _, rfl, .inl ⟨.inl (.inl (e _ _ h5)), fun p hp => ?_⟩⟩
    have s := stp_new (o := .tup xs) e hp
    exact q _ _ _ s e.updB (Rp.tup (.inl upd_same) (r.mono s.ex))
def rList1 (K : PySem.W.Frag) : List V → Hp → VK → Prop := fun xs H Q => ∃ p ys, xs = [.ref p] ∧ (SqL K H p ys ∨ SqT K H p ys) ∧ ∀ l, H l = none → Q (.ref l) (upd H l (.lst ys))
theorem call_list1 {X : Cx} : CallR X (.type "list") (rList1 X.K) := call_list_of
/-- tuple(list), and no dict at it -/
def rTupleF (K : PySem.W.Frag) : List V → Hp → VK → Prop := fun xs H Q => ∃ p ys, xs = [.ref p] ∧ SqL K H p ys ∧ ∀ l o, H l = none → o.dict = none → Q (.ref l) (upd H l (.frz o (.tup ys)))
open PySem.Spec PyProof.Rows in
theorem call_tupleF {X : Cx} : CallR X (.type "tuple") (rTupleF X.K) := by
  intro pins s σ H xs us Q I r h
  obtain ⟨p, ys, rfl, hq, q⟩ := h
  obtain ⟨u, rfl, rx⟩ := vals1 r
  cases rx
  obtain ⟨its, r', pl, hz⟩ := I.list hq
  have hlen := r'.length
  refine call_tuple_list pl.isList (fun h' kp => ?_) (by simp only [List.size_toArray] <;> omega)
  have I1 : Inv X pins σ H { s with heap := h' } := I.kept (t' := s.toks) kp
  have I2 : Inv X pins σ (upd H h'.objs.size (.frz { cls := .type "tuple", data := .seq its.toArray } (.tup ys))) { s with heap := h'.push { cls := .type "tuple", data := .seq its.toArray } } :=
    I1.laid (t' := s.toks) (fun b o e => Heap.get?_push_of_some _ e) (Nat.le_refl _) (show ObjOk X.prog X.w _ _ _ (.frz _ (.tup ys)) from ⟨Heap.get?_push_size _ rfl, hz, its, r', IsTup.new _ _⟩)
  exact ⟨.ref h'.objs.size, _, I2, rfl, q _ _ (I1.hok.fresh (Nat.le_refl _)) rfl⟩
theorem cb_tupleF {ds : List D} : CbD K (rTupleF K) [.dat (.lst ds)] (.dat (.nt ds)) := fun B H vs e h Q q => by
  obtain ⟨v, rfl, h1⟩ := rs1 h
  have a' : Rp K B v (.lst ds) := h1
  cases a' with
  | @lst _ xs _ h5 r =>
    refine ⟨_, _, rfl, .inl (.inl (e _ _ h5)), fun p o hp ho => ?_⟩
    have s := stp_new (o := .frz o (.tup xs)) e hp
    exact q _ _ _ s e.updB (Rp.nt upd_same ho (r.mono s.ex))
theorem Rp.ntT {B : Hp} {v : V} {ds : List D} (h : Rp K B v (.nt ds)) : Rp K B v (.tup ds) := by
  cases h with
  | nt h n r => exact .tup (.inr ⟨_, h⟩) r
theorem ev_nt {P : List Addr} {ss : List Sl} {cs cs1 : List (List D)} {te : TE} {ds : List D} (h : Ev K P ss cs te (.dat (.nt ds)) cs1) : Ev K P ss cs te (.dat (.tup ds)) cs1 := fun B H σ o Q q =>
  h B H σ o Q fun v B1 H1 s1 o1 v1 => q v B1 H1 s1 o1 (Rp.ntT v1)
theorem cb_listT {ds : List D} : CbD K (rList1 K) [.dat (.tup ds)] (.dat (.lst ds)) := fun B H vs e h Q q => by
  obtain ⟨v, rfl, h1⟩ := rs1 h
  have a' : Rp K B v (.tup ds) := h1
  cases a' with
  | @tup _ xs _ h5 r =>
    refine ⟨_, _, rfl, .inr (.inl (RdEx e h5)), fun p hp => ?_⟩
    have s := stp_new (o := .lst xs) e hp
    exact q _ _ _ s e.updB (Rp.lst upd_same (r.mono s.ex))
theorem cb_listL {ds : List D} : CbD K (rList1 K) [.dat (.lst ds)] (.dat (.lst ds)) := fun B H vs e h Q q => by
  obtain ⟨v, rfl, h1⟩ := rs1 h
  have a' : Rp K B v (.lst ds) := h1
  cases a' with
  | @lst _ xs _ h5 r =>
    refine ⟨_, _, rfl, .inl (.inl (.inl (e _ _ h5))), fun p hp => ?_⟩
    have s := stp_new (o := .lst xs) e hp
    exact q _ _ _ s e.updB (Rp.lst upd_same (r.mono s.ex))
theorem cb_sum {ns : List Int} : CbD K (rSum K) [.dat (.lst (ns.map D.int))] (.dat (.int ns.sum)) := fun B H vs e h Q q => by
  obtain ⟨v, rfl, h1⟩ := rs1 h
  have a' : Rp K B v (.lst (ns.map D.int)) := h1
  cases a' with
  | lst h5 r =>
    have z := RpA.ints r
    subst z
    exact ⟨_, ns, rfl, .inl (.inl (e _ _ h5)), q _ B H (Stp.refl _ _ _) e (.int _)⟩
theorem cb_all {bs : List Bool} : CbD K (rAll K) [.dat (.lst (bs.map D.bl))] (.dat (.bl (bs.all id))) := fun B H vs e h Q q => by
  obtain ⟨v, rfl, h1⟩ := rs1 h
  have a' : Rp K B v (.lst (bs.map D.bl)) := h1
  cases a' with
  | lst h5 r =>
    have z := RpA.bools r
    subst z
    exact ⟨_, bs, rfl, .inl (.inl (e _ _ h5)), q _ B H (Stp.refl _ _ _) e (.bl _)⟩
def rAbs1 : List V → Hp → VK → Prop := fun xs H Q => ∃ i, xs = [.int i] ∧ Q (.int (if i < 0 then -i else i)) H
theorem call_abs1 {X : Cx} : CallR X (.builtin "abs") rAbs1 := call_abs
theorem cb_abs {i : Int} : CbD K rAbs1 [.dat (.int i)] (.dat (.int (if i < 0 then -i else i))) := fun B H vs e h Q q => by
  obtain ⟨v, rfl, h1⟩ := rs1 h
  have a' : Rp K B v (.int i) := h1
  cases a'
  exact ⟨i, rfl, q _ B H (Stp.refl _ _ _) e (.int _)⟩
def rMax2' : List V → Hp → VK → Prop := fun xs H Q => ∃ i j, xs = [.int i, .int j] ∧ Q (.int (if j > i then j else i)) H
def rMin2' : List V → Hp → VK → Prop := fun xs H Q => ∃ i j, xs = [.int i, .int j] ∧ Q (.int (if j < i then j else i)) H
theorem call_max2' {X : Cx} (hc : X.calm = true) : CallR X (.builtin "max") rMax2' := call_max2 hc
theorem call_min2' {X : Cx} (hc : X.calm = true) : CallR X (.builtin "min") rMin2' := call_min2 hc
theorem cb_max2 {i j : Int} : CbD K rMax2' [.dat (.int i), .dat (.int j)] (.dat (.int (if j > i then j else i))) := fun B H vs e h Q q => by
  obtain ⟨v, v', rfl, h1, h2⟩ := rs2 h
  have a' : Rp K B v (.int i) := h1
  have b' : Rp K B v' (.int j) := h2
  cases a'; cases b'
  exact ⟨i, j, rfl, q _ B H (Stp.refl _ _ _) e (.int _)⟩
theorem cb_min2 {i j : Int} : CbD K rMin2' [.dat (.int i), .dat (.int j)] (.dat (.int (if j < i then j else i))) := fun B H vs e h Q q => by
  obtain ⟨v, v', rfl, h1, h2⟩ := rs2 h
  have a' : Rp K B v (.int i) := h1
  have b' : Rp K B v' (.int j) := h2
  cases a'; cases b'
  exact ⟨i, j, rfl, q _ B H (Stp.refl _ _ _) e (.int _)⟩
def rInt1 : List V → Hp → VK → Prop := fun xs H Q => (∃ i, xs = [.int i] ∧ Q (.int i) H) ∨ ∃ k, xs = [.bl k] ∧ Q (.int (if k then 1 else 0)) H
theorem call_int1' {X : Cx} : CallR X (.type "int") rInt1 := call_int1
theorem cb_int {i : Int} : CbD K rInt1 [.dat (.int i)] (.dat (.int i)) := fun B H vs e h Q q => by
  obtain ⟨v, rfl, h1⟩ := rs1 h
  have a' : Rp K B v (.int i) := h1
  cases a'
  exact .inl ⟨i, rfl, q _ B H (Stp.refl _ _ _) e (.int _)⟩
theorem cb_intB {k : Bool} : CbD K rInt1 [.dat (.bl k)] (.dat (.int (if k then 1 else 0))) := fun B H vs e h Q q => by
  obtain ⟨v, rfl, h1⟩ := rs1 h
  have a' : Rp K B v (.bl k) := h1
  cases a'
  exact .inr ⟨k, rfl, q _ B H (Stp.refl _ _ _) e (.int _)⟩
end DV
/-! DV3: walks, loops, comprehensions over plain data. -/
namespace DV
open PySem L2
variable {K : PySem.W.Frag}

/-! ### what is walked -/
/-- J yields values that read as the items of ds, one by one -/
def Walks (K : PySem.W.Frag) (B1 : Hp) (J : It) (ds : List D) : Prop := ∀ (i : Nat) B H, Ex B1 B → Ex B H →
  (∀ d, ds[i]? = some d → J.go i H ∧ ∀ x H', J.yld i H x H' → ∃ B', Stp [] B H B' H' ∧ Ex B' H' ∧ Rp K B' x d) ∧ (ds.length ≤ i → J.stop i H)
def WD (K : PySem.W.Frag) (P : List Addr) (ss : List Sl) (cs : List (List D)) (wi : TI) (ds : List D) (cs' : List (List D)) : Prop :=
  ∀ B H σ, Okk K P ss cs B H σ → ∀ R : It → Hp → Prop, (∀ J B1 H1, Stp P B H B1 H1 → Okk K P ss cs' B1 H1 σ → Walks K B1 J ds → R J H1) → wi σ H R
section
variable {P : List Addr} {ss : List Sl} {cs cs1 : List (List D)} {te : TE} {ta : TA} {ds es : List D}
theorem wk_seqL {B1 : Hp} {a : Addr} {xs : List V} (h : ∀ H, Ex B1 H → SqL K H a xs) (r : RpA K B1 xs ds) : Walks K B1 (Itl K a) ds := fun i B H e1 e2 => by
  have q := h H (e1.trans e2)
  refine ⟨fun d hd => ?_, fun hl => ⟨xs, q, by rw [r.length]; exact hl⟩⟩
  obtain ⟨v, h1, h2⟩ := r.get hd
  refine ⟨⟨xs, v, q, h1⟩, fun x H' y => ?_⟩
  obtain ⟨rfl, f⟩ := y
  have e := f xs q
  rw [h1] at e
  cases e
  exact ⟨B, Stp.refl _ _ _, e2, h2.mono e1⟩
theorem wd_lst (h : Ev K P ss cs te (.dat (.lst ds)) cs1) : WD K P ss cs (iList K te) ds cs1 := fun B H σ o R q =>
  h B H σ o _ fun v B1 H1 s1 o1 v1 => by
    have a' : Rp K B1 v (.lst ds) := v1
    cases a' with
    | lst h5 r => exact ⟨_, rfl, ⟨_, .inl (.inl (o1.ex _ _ h5))⟩, q _ B1 H1 s1 o1 (wk_seqL (fun H e => .inl (.inl (e _ _ h5))) r)⟩
theorem wd_tup (h : Ev K P ss cs te (.dat (.tup ds)) cs1) : WD K P ss cs (iTup K te) ds cs1 := fun B H σ o R q =>
  h B H σ o _ fun v B1 H1 s1 o1 v1 => by
    have a' : Rp K B1 v (.tup ds) := v1
    cases a' with
    | @tup a xs _ h5 r =>
      refine ⟨_, rfl, ⟨_, .inl (RdEx o1.ex h5)⟩, q _ B1 H1 s1 o1 fun i B2 H2 e1 e2 => ?_⟩
      have z : SqT K H2 a xs := .inl (RdEx e2 (RdEx e1 h5))
      refine ⟨fun d hd => ?_, fun hl => ⟨xs, z, by rw [r.length]; exact hl⟩⟩
      obtain ⟨v, h1, h2⟩ := r.get hd
      refine ⟨⟨xs, v, z, h1⟩, fun x H' y => ?_⟩
      obtain ⟨rfl, f⟩ := y
      have e := f xs z
      rw [h1] at e
      cases e
      exact ⟨B2, Stp.refl _ _ _, e2, h2.mono e1⟩
def rangeD (lo : Int) (n : Nat) : List D := (List.range n).map fun i => D.int (lo + (i : Nat))
theorem rangeD_get {lo : Int} {n i : Nat} {d : D} (h : (rangeD lo n)[i]? = some d) : i < n ∧ d = .int (lo + (i : Nat)) := by
  unfold rangeD at h
  rw [List.getElem?_map] at h
  by_cases hi : i < n
  · rw [List.getElem?_range hi] at h
    exact ⟨hi, (Option.some.inj h).symm⟩
  · rw [List.getElem?_eq_none (by rw [List.length_range]; omega)] at h
    cases h
theorem rangeD_len {lo : Int} {n : Nat} : (rangeD lo n).length = n := by simp [rangeD]
theorem wk_rng {B1 : Hp} {lo : Int} {n : Nat} : Walks K B1 (Itr lo n) (rangeD lo n) := fun i B H e1 e2 => by
  refine ⟨fun d hd => ?_, fun hl => by rw [rangeD_len] at hl; exact hl⟩
  obtain ⟨hi, rfl⟩ := rangeD_get hd
  refine ⟨hi, fun x H' y => ?_⟩
  obtain ⟨rfl, rfl⟩ := y
  exact ⟨B, Stp.refl _ _ _, e2, .int _⟩
theorem wd_rng1 {n : Int} (h : EvA K P ss cs ta [.dat (.int n)] cs1) (hn : n ≤ 1000000 ∧ -1000000 ≤ n) : WD K P ss cs (iRng1 ta) (rangeD 0 n.toNat) cs1 := fun B H σ o R q =>
  h B H σ o _ fun vs B1 H1 s1 o1 r1 => by
    obtain ⟨v, rfl, h1⟩ := rs1 r1
    have a' : Rp K B1 v (.int n) := h1
    cases a'
    exact ⟨n, rfl, by omega, by omega, q _ B1 H1 s1 o1 wk_rng⟩
theorem wd_rng2 {m n : Int} (h : EvA K P ss cs ta [.dat (.int m), .dat (.int n)] cs1) (hn : n ≤ 1000000 ∧ -1000000 ≤ n) (hm : m ≤ 1000000 ∧ -1000000 ≤ m) : WD K P ss cs (iRng2 ta) (rangeD m (n - m).toNat) cs1 := fun B H σ o R q =>
  h B H σ o _ fun vs B1 H1 s1 o1 r1 => by
    obtain ⟨v, v', rfl, h1, h2⟩ := rs2 r1
    have a' : Rp K B1 v (.int m) := h1
    have b' : Rp K B1 v' (.int n) := h2
    cases a'; cases b'
    exact ⟨m, n, rfl, ⟨by omega, by omega, by omega, by omega⟩, q _ B1 H1 s1 o1 wk_rng⟩
def enumD (ds : List D) : List D := (ds.zipIdx 0).map fun p => D.tup [.int (p.2 : Nat), p.1]
theorem enumD_get {i : Nat} {d : D} (h : (enumD ds)[i]? = some d) : ∃ e, ds[i]? = some e ∧ d = .tup [.int (i : Nat), e] := by
  unfold enumD at h
  rw [List.getElem?_map, List.getElem?_zipIdx] at h
  cases e : ds[i]? with
  | none => rw [e] at h; cases h
  | some x =>
    rw [e] at h
    refine ⟨x, rfl, ?_⟩
    have h' := Option.some.inj h
    rw [← h']
    simp
theorem enumD_len : (enumD ds).length = ds.length := by simp [enumD]
theorem wd_enum (h : EvA K P ss cs ta [.dat (.lst ds)] cs1) : WD K P ss cs (iEnum K ta) (enumD ds) cs1 := fun B H σ o R q =>
  h B H σ o _ fun vs B1 H1 s1 o1 r1 => by
    obtain ⟨v, rfl, h1⟩ := rs1 r1
    have a' : Rp K B1 v (.lst ds) := h1
    cases a' with
    | @lst a xs _ h5 r =>
      refine ⟨_, xs, rfl, .inl (.inl (o1.ex _ _ h5)), q _ B1 H1 s1 o1 fun i B2 H2 e1 e2 => ?_⟩
      have z : SqL K H2 a xs := .inl (.inl (e2 _ _ (e1 _ _ h5)))
      refine ⟨fun d hd => ?_, fun hl => ⟨xs, z, by rw [r.length]; rw [enumD_len] at hl; exact hl⟩⟩
      obtain ⟨e, he, rfl⟩ := enumD_get hd
      obtain ⟨v, h1, h2⟩ := r.get he
      refine ⟨⟨xs, v, z, h1⟩, fun x H' y => ?_⟩
      obtain ⟨T, x', rfl, hT, rfl, f⟩ := y
      have e := f xs z
      rw [h1] at e
      cases e
      have s := stp_new (o := .tup [.int (i : Nat), v]) e2 hT
      exact ⟨_, s, e2.updB, .tup (.inl upd_same) (.cons (.int _) (.cons (h2.mono (e1.trans s.ex)) .nil))⟩
def zipD (ds es : List D) : List D := List.zipWith (fun d e => D.tup [d, e]) ds es
theorem zipD_get {i : Nat} {d : D} (h : (zipD ds es)[i]? = some d) : ∃ x y, ds[i]? = some x ∧ es[i]? = some y ∧ d = .tup [x, y] := by
  unfold zipD at h
  rw [List.getElem?_zipWith] at h
  cases e1 : ds[i]? with
  | none => rw [e1] at h; simp at h
  | some x =>
    cases e2 : es[i]? with
    | none => rw [e1, e2] at h; simp at h
    | some y =>
      rw [e1, e2] at h
      exact ⟨x, y, rfl, rfl, (Option.some.inj h).symm⟩
theorem wd_zipLL (h : EvA K P ss cs ta [.dat (.lst ds), .dat (.lst es)] cs1) : WD K P ss cs (RZ.iZipA K ta) (zipD ds es) cs1 := fun B H σ o R q =>
  h B H σ o _ fun vs B1 H1 s1 o1 r1 => by
    obtain ⟨v, v', rfl, h1, h2⟩ := rs2 r1
    have a' : Rp K B1 v (.lst ds) := h1
    have b' : Rp K B1 v' (.lst es) := h2
    cases a' with
    | @lst a xs _ h5 r => cases b' with
      | @lst b ys _ h6 r' =>
        refine ⟨_, _, xs, ys, rfl, .inl ⟨.inl (.inl (o1.ex _ _ h5)), .inl (.inl (o1.ex _ _ h6)), q _ B1 H1 s1 o1 fun i B2 H2 e1 e2 => ?_⟩⟩
        have z : SqL K H2 a xs := .inl (.inl (e2 _ _ (e1 _ _ h5)))
        have z' : SqL K H2 b ys := .inl (.inl (e2 _ _ (e1 _ _ h6)))
        refine ⟨fun d hd => ?_, fun hl => ⟨xs, ys, z, z', ?_⟩⟩
        · obtain ⟨e, e', he, he', rfl⟩ := zipD_get hd
          obtain ⟨v, h1, h2⟩ := r.get he
          obtain ⟨v', h1', h2'⟩ := r'.get he'
          refine ⟨⟨xs, ys, v, v', z, z', h1, h1'⟩, fun x H' y => ?_⟩
          obtain ⟨T, x', y', rfl, hT, rfl, f, f'⟩ := y
          have q1 := f xs z
          have q2 := f' ys z'
          rw [h1] at q1; rw [h1'] at q2
          cases q1; cases q2
          have s := stp_new (o := .tup [v, v']) e2 hT
          exact ⟨_, s, e2.updB, .tup (.inl upd_same) (.cons (h2.mono (e1.trans s.ex)) (.cons (h2'.mono (e1.trans s.ex)) .nil))⟩
        · rw [r.length, r'.length]
          have : (zipD ds es).length = min ds.length es.length := by simp [zipD]
          rw [this] at hl
          omega
theorem wd_zipTT (h : EvA K P ss cs ta [.dat (.tup ds), .dat (.tup es)] cs1) : WD K P ss cs (RZ.iZipA K ta) (zipD ds es) cs1 := fun B H σ o R q =>
  h B H σ o _ fun vs B1 H1 s1 o1 r1 => by
    obtain ⟨v, v', rfl, h1, h2⟩ := rs2 r1
    have a' : Rp K B1 v (.tup ds) := h1
    have b' : Rp K B1 v' (.tup es) := h2
    cases a' with
    | @tup a xs _ h5 r => cases b' with
      | @tup b ys _ h6 r' =>
        refine ⟨_, _, xs, ys, rfl, .inr ⟨.inl (RdEx o1.ex h5), .inl (RdEx o1.ex h6), q _ B1 H1 s1 o1 fun i B2 H2 e1 e2 => ?_⟩⟩
        have z : SqT K H2 a xs := .inl (RdEx e2 (RdEx e1 h5))
        have z' : SqT K H2 b ys := .inl (RdEx e2 (RdEx e1 h6))
        refine ⟨fun d hd => ?_, fun hl => ⟨xs, ys, z, z', ?_⟩⟩
        · obtain ⟨e, e', he, he', rfl⟩ := zipD_get hd
          obtain ⟨v, h1, h2⟩ := r.get he
          obtain ⟨v', h1', h2'⟩ := r'.get he'
          refine ⟨⟨xs, ys, v, v', z, z', h1, h1'⟩, fun x H' y => ?_⟩
          obtain ⟨T, x', y', rfl, hT, rfl, f, f'⟩ := y
          have q1 := f xs z
          have q2 := f' ys z'
          rw [h1] at q1; rw [h1'] at q2
          cases q1; cases q2
          have s := stp_new (o := .tup [v, v']) e2 hT
          exact ⟨_, s, e2.updB, .tup (.inl upd_same) (.cons (h2.mono (e1.trans s.ex)) (.cons (h2'.mono (e1.trans s.ex)) .nil))⟩
        · rw [r.length, r'.length]
          have : (zipD ds es).length = min ds.length es.length := by simp [zipD]
          rw [this] at hl
          omega
end

/-! ### for -/
theorem Sta.base {P : List Addr} {B0 H0 B1 H1 H : Hp} {ss : List Sl} {cs : List (List D)} {σ : L2.St} (h : Sta K P B1 H1 ss cs σ H) (s : Stp P B0 H0 B1 H1) : Sta K P B0 H0 ss cs σ H := by
  obtain ⟨B, s1, o⟩ := h
  exact ⟨B, s.trans s1, o⟩
theorem Done.base {P : List Addr} {B0 H0 B1 H1 : Hp} {r : Sl} {cs : List (List D)} {Q : VK} (h : Done K P B0 H0 r cs Q) (s : Stp P B0 H0 B1 H1) : Done K P B1 H1 r cs Q := fun v B' H' s1 e m x => h v B' H' (s.trans s1) e m x
/-- what holds between two turns: z is what the loop has gathered -/
def Turn' (K : PySem.W.Frag) {α : Type} (P : List Addr) (B1 H1 : Hp) (J : Nat → α → Prop) (S : Nat → α → List Sl) (C : Nat → α → List (List D)) (i : Nat) (σ : L2.St) (H : Hp) : Prop := ∃ z, J i z ∧ Sta K P B1 H1 (S i z) (C i z) σ H
theorem st_for {α : Type} {P : List Addr} {B0 H0 H : Hp} {ss : List Sl} {cs cs1 : List (List D)} {σ : L2.St} {D : Ends} {wi : TI} {g : TG} {tb : TS} {ds : List DV.D} (h : Sta K P B0 H0 ss cs σ H) (hw : WD K P ss cs wi ds cs1)
    (J : Nat → α → Prop) (S : Nat → α → List Sl) (C : Nat → α → List (List DV.D)) (z0 : α) (j0 : J 0 z0) (l0 : LeS ss (S 0 z0)) (c0 : cs1 = C 0 z0)
    (hs : ∀ B1 H1, Stp P B0 H0 B1 H1 → ∀ i d z, ds[i]? = some d → J i z → ∃ G W, GR K (S i z) g d G W ∧
      ∀ σ' H', Sta K P B1 H1 G (C i z) σ' H' → tb { D with nx := Turn' K P B1 H1 J S C (i + 1), ct := Turn' K P B1 H1 J S C (i + 1), bk := D.nx } σ' H')
    (hd : ∀ z σ' H', J ds.length z → Sta K P B0 H0 (S ds.length z) (C ds.length z) σ' H' → D.nx σ' H') : tFor wi g tb D σ H := by
  obtain ⟨B, s, o⟩ := h
  refine hw B H σ o _ fun It B1 H1 s1 o1 wk => ?_
  have sB : Stp P B0 H0 B1 H1 := s.trans s1
  refine ⟨fun i m σ H => m = ds.length - i ∧ i ≤ ds.length ∧ Turn' K P B1 H1 J S C i σ H, ⟨ds.length, by simp, Nat.zero_le _, z0, j0, B1, Stp.refl _ _ _, ?_⟩, ?_⟩
  · rw [← c0]
    exact ⟨o1.ex, o1.sl.le l0, o1.mu⟩
  rintro i m σ' H' ⟨rfl, hi, z, jz, hst⟩
  obtain ⟨B2, s2, o2⟩ := id hst
  obtain ⟨w1, w2⟩ := wk i B2 H' s2.ex o2.ex
  by_cases hlt : i < ds.length
  · have hd' : ds[i]? = some ds[i] := List.getElem?_eq_getElem hlt
    obtain ⟨go, yl⟩ := w1 _ hd'
    obtain ⟨G, W, hg, body⟩ := hs B1 H1 sB i _ z hd' jz
    refine .inr ⟨go, Turn' K P B1 H1 J S C (i + 1), fun σ3 H3 q => ⟨ds.length - (i + 1), by omega, rfl, hlt, q⟩, fun x H3 y => ?_⟩
    obtain ⟨B3, s3, e3, x3⟩ := yl x H3 y
    have o3 := o2.step0 s3 e3
    exact hg B3 H3 σ' x o3.ex o3.sl x3 _ fun σ4 s4 _ => body σ4 H3 ⟨B3, s2.trans s3.ofNil, o3.ex, s4, o3.mu⟩
  · have e : i = ds.length := by omega
    subst e
    exact .inl ⟨w2 (Nat.le_refl _), hd z σ' H' jz (hst.base sB)⟩

/-! ### comprehensions -/
/-- a new list, and nothing else holds it -/
def EvF (K : PySem.W.Frag) (P : List Addr) (ss : List Sl) (cs : List (List D)) (te : TE) (ds : List D) (cs' : List (List D)) : Prop :=
  ∀ B H σ, Okk K P ss cs B H σ → ∀ Q : VK, (∀ p vs B' H', H p = none → Stp P B H B' H' → Okk K P ss cs' B' H' σ → H' p = some (.lst vs) → B' p = none → RpA K B' vs ds → Q (.ref p) H') → te σ H Q
section
variable {P : List Addr} {ss : List Sl} {cs cs1 : List (List D)} {te : TE} {ds : List D}
theorem EvF.ev (h : EvF K P ss cs te ds cs1) : Ev K P ss cs te (.dat (.lst ds)) cs1 := fun B H σ o Q q =>
  h B H σ o Q fun p vs B1 H1 hp s1 o1 hv hB r => by
    have eB : Ex B1 (upd B1 p (.lst vs)) := Ex.new hB
    refine q _ (upd B1 p (.lst vs)) H1 ⟨s1.ex.trans eB, s1.fr, fun b u e => ?_, s1.dm⟩ ⟨fun b u e => ?_, o1.sl.mono eB, o1.mu.keep eB (fun _ _ => rfl) fun x hx => ?_⟩ (Rp.lst upd_same (r.mono eB))
    · rw [upd_ne (ne_of_none e hp)]
      exact s1.nb b u e
    · by_cases hb : b = p
      · subst hb; rw [upd_same] at e; cases e; exact hv
      · rw [upd_ne hb] at e; exact o1.ex b u e
    · obtain ⟨u, h1, h2⟩ := o.mu.mem hx
      have hne : x ≠ p := fun z => by rw [z, hp] at h1; cases h1
      rw [upd_ne hne]
      exact (o1.mu.mem hx).choose_spec.2
/-- x = [..], x will change -/
theorem st_asgF {B0 H0 H : Hp} {σ : L2.St} {D : Ends} {i : Nat} (h : Sta K P B0 H0 ss cs σ H) (he : EvF K P ss cs te ds cs1) (k : ∀ p σ' H', H0 p = none → p ∉ P → Sta K (p :: P) B0 H0 (ss.set i (.val (.ref p))) (ds :: cs1) σ' H' → D.nx σ' H') :
    tAsg te (gName i) D σ H := by
  obtain ⟨B, s, o⟩ := h
  refine he B H σ o _ fun p vs B1 H1 hp s1 o1 hv hB r => ?_
  have hp0 : H0 p = none := by
    cases e : H0 p with
    | none => rfl
    | some u =>
      obtain ⟨u', h'⟩ := s.dm p u e
      rw [hp] at h'; cases h'
  have hpP : p ∉ P := fun z => by
    obtain ⟨u, h1, _⟩ := o.mu.mem z
    rw [hp] at h1; cases h1
  have s2 := s.trans s1
  exact k p _ _ hp0 hpP ⟨B1, s2.mono fun x hx => List.mem_cons_of_mem _ hx, o1.ex, o1.sl.set rfl, ⟨⟨vs, hv, r⟩, hB, hpP, o1.mu⟩⟩
/-- the comprehension: out i what is made behind i items, C i the other lists -/
theorem ef_lc {wi : TI} {g : TG} {tt : TT} {vs : List Nat} {es : List D} (hw : WD K P ss cs wi es cs1) (out : Nat → List D) (C : Nat → List (List D)) (o0 : out 0 = []) (c0 : C 0 = cs1) (hz : es.length ≤ 1000000)
    (hs : ∀ p i d, p ∉ P → es[i]? = some d → (out i).length ≤ i ∧ ∃ G W b, GR K (wipeS ss vs) g d G W ∧ (∀ k ∈ W, k ∈ vs) ∧ EvT K (p :: P) G (out i :: C i) tt b (out i :: C i) ∧
      (b = true → ∃ e, Ev K (p :: P) G (out i :: C i) te (.dat e) (out i :: C (i + 1)) ∧ out (i + 1) = out i ++ [e]) ∧ (b = false → out (i + 1) = out i ∧ C (i + 1) = C i)) :
    EvF K P ss cs (tLc wi g tt te vs) (out es.length) (C es.length) := fun B H σ o Q q => by
  refine hw B H σ o _ fun It B1 H1 s1 o1 wk Dp hDp => ?_
  have hDP : Dp ∉ P := fun z => by
    obtain ⟨u, h1, _⟩ := o1.mu.mem z
    rw [hDp] at h1; cases h1
  have hD0 : H Dp = none := by
    cases e : H Dp with
    | none => rfl
    | some u =>
      obtain ⟨u', h'⟩ := s1.dm Dp u e
      rw [hDp] at h'; cases h'
  -- between two turns
  let I : Nat → Hp → Prop := fun i H' => ∃ B', Stp (Dp :: P) B1 H1 B' H' ∧ Okk K (Dp :: P) ss (out i :: C i) B' H' σ
  have i0 : I 0 (upd H1 Dp (.lst [])) := by
    refine ⟨B1, ⟨Ex.refl _, fun b u n e => ?_, fun _ _ _ => rfl, fun b u e => ⟨u, Ex.new hDp b u e⟩⟩, fun b u e => Ex.new hDp b u (o1.ex b u e), o1.sl, ⟨⟨[], upd_same, by rw [o0]; exact .nil⟩, o1.ex.free hDp, hDP, ?_⟩⟩
    · rw [upd_ne (fun (z : b = Dp) => n (z ▸ List.mem_cons_self))]; exact e
    · rw [c0]
      exact o1.mu.keep (Ex.refl _) (fun x hx => upd_ne fun (z : x = Dp) => hDP (z ▸ hx)) fun x hx => (o1.mu.mem hx).choose_spec.2
  refine ⟨fun i m H' => m = es.length - i ∧ i ≤ es.length ∧ I i H', ⟨es.length, by simp, Nat.zero_le _, i0⟩, ?_⟩
  rintro i m H' ⟨rfl, hi, B2, s2, o2⟩
  obtain ⟨w1, w2⟩ := wk i B2 H' s2.ex o2.ex
  by_cases hlt : i < es.length
  · have hd' : es[i]? = some es[i] := List.getElem?_eq_getElem hlt
    obtain ⟨go, yl⟩ := w1 _ hd'
    obtain ⟨hol, G, W, b, hg, hW, htt, hyes, hno⟩ := hs Dp i _ hDP hd'
    refine .inr ⟨go, I (i + 1), fun H3 q => ⟨es.length - (i + 1), by omega, rfl, hlt, q⟩, fun x H3 y => ?_⟩
    obtain ⟨B3, s3, e3, x3⟩ := yl x H3 y
    have o3 := o2.step0 s3 e3
    refine hg B3 H3 (wipe σ vs) x o3.ex (o3.sl.wipe vs) x3 _ fun σ4 s4 on => ⟨on.wipe hW, ?_⟩
    refine htt B3 H3 σ4 ⟨o3.ex, s4, o3.mu⟩ _ fun B5 H5 s5 o5 => ?_
    have s35 : Stp (Dp :: P) B2 H' B5 H5 := s3.ofNil.trans s5
    have s15 := s2.trans s35
    cases b with
    | true =>
      obtain ⟨e, hev, ho⟩ := hyes rfl
      show te σ4 H5 _
      refine hev B5 H5 σ4 o5 _ fun v B6 H6 s6 o6 v6 => ?_
      obtain ⟨⟨ws, hw6, r6⟩, hB6, hn6, m6⟩ := o6.mu
      have s16 := s15.trans s6
      refine ⟨ws, hw6, lt_line (by rw [r6.length]; omega), B6, ⟨s16.ex, fun c u n ec => ?_, s16.nb, fun c u ec => ?_⟩, fun c u ec => ?_, ?_, ⟨⟨ws ++ [v], upd_same, by rw [ho]; exact r6.append (.cons v6 .nil)⟩, hB6, hn6, ?_⟩⟩
      · rw [upd_ne (fun (z : c = Dp) => n (z ▸ List.mem_cons_self))]
        exact s16.fr c u n ec
      · obtain ⟨u', h'⟩ := s16.dm c u ec
        by_cases hc : c = Dp
        · subst hc; exact ⟨_, upd_same⟩
        · exact ⟨u', by rw [upd_ne hc]; exact h'⟩
      · rw [upd_ne (fun (z : c = Dp) => by rw [z, hB6] at ec; cases ec)]
        exact o6.ex c u ec
      · exact o2.sl.mono (s35.trans s6).ex
      · exact m6.keep (Ex.refl _) (fun x hx => upd_ne fun (z : x = Dp) => hn6 (z ▸ hx)) fun x hx => (m6.mem hx).choose_spec.2
    | false =>
      obtain ⟨ho, hc⟩ := hno rfl
      show I (i + 1) H5
      refine ⟨B5, s15, o5.ex, o2.sl.mono s35.ex, ?_⟩
      rw [ho, hc]
      exact o5.mu
  · have e : i = es.length := by omega
    subst e
    obtain ⟨⟨ws, hw2, r2⟩, hB2, hn2, m2⟩ := o2.mu
    refine .inl ⟨w2 (Nat.le_refl _), q Dp ws B2 H' hD0 (s1.trans ⟨s2.ex, fun b u n eb => ?_, s2.nb, s2.dm⟩) ⟨o2.ex, o2.sl, m2⟩ hw2 hB2 r2⟩
    exact s2.fr b u (fun z => by
      rcases List.mem_cons.mp z with z | z
      · rw [z, hDp] at eb; cases eb
      · exact n z) eb
/-- [f(x) for x in ..] -/
theorem ef_map {wi : TI} {g : TG} {vs : List Nat} {es : List D} (hw : WD K P ss cs wi es cs1) (f : D → D) (hz : es.length ≤ 1000000)
    (hs : ∀ (p : Addr) (i : Nat) (d : D) (acc : List D), es[i]? = some d → ∃ G W, GR K (wipeS ss vs) g d G W ∧ (∀ k ∈ W, k ∈ vs) ∧ Ev K (p :: P) G (acc :: cs1) te (.dat (f d)) (acc :: cs1)) :
    EvF K P ss cs (tLc wi g tYes te vs) (es.map f) cs1 := by
  have h := ef_lc (tt := tYes) (te := te) (g := g) (vs := vs) hw (fun i => (es.take i).map f) (fun _ => cs1) rfl rfl hz (fun p i d hp hd => by
    obtain ⟨G, W, hg, hW, he⟩ := hs p i d ((es.take i).map f) hd
    have hi : i < es.length := (List.getElem?_eq_some_iff.mp hd).1
    refine ⟨by rw [List.length_map, List.length_take]; omega, G, W, true, hg, hW, fun B H σ o Q q => q B H (Stp.refl _ _ _) o, fun _ => ⟨f d, he, ?_⟩, fun z => by cases z⟩
    show (es.take (i + 1)).map f = (es.take i).map f ++ [f d]
    rw [List.take_add_one, hd, List.map_append]
    rfl)
  rw [List.take_length] at h
  exact h
/-- [f(x) for x in .. if t(x)] -/
theorem ef_filter {wi : TI} {g : TG} {tt : TT} {vs : List Nat} {es : List D} (hw : WD K P ss cs wi es cs1) (f : D → D) (t : D → Bool) (hz : es.length ≤ 1000000)
    (hs : ∀ (p : Addr) (i : Nat) (d : D) (acc : List D), es[i]? = some d → ∃ G W, GR K (wipeS ss vs) g d G W ∧ (∀ k ∈ W, k ∈ vs) ∧ EvT K (p :: P) G (acc :: cs1) tt (t d) (acc :: cs1) ∧ (t d = true → Ev K (p :: P) G (acc :: cs1) te (.dat (f d)) (acc :: cs1))) :
    EvF K P ss cs (tLc wi g tt te vs) ((es.filter t).map f) cs1 := by
  have h := ef_lc (tt := tt) (te := te) (g := g) (vs := vs) hw (fun i => ((es.take i).filter t).map f) (fun _ => cs1) rfl rfl hz (fun p i d hp hd => by
    obtain ⟨G, W, hg, hW, ht, he⟩ := hs p i d (((es.take i).filter t).map f) hd
    have hi : i < es.length := (List.getElem?_eq_some_iff.mp hd).1
    refine ⟨by
      rw [List.length_map]
      refine Nat.le_trans (List.length_filter_le _ _) ?_
      rw [List.length_take]; omega, G, W, t d, hg, hW, ht, fun z => ⟨f d, he z, ?_⟩, fun z => ⟨?_, rfl⟩⟩
    · show ((es.take (i + 1)).filter t).map f = ((es.take i).filter t).map f ++ [f d]
      rw [List.take_add_one, hd, List.filter_append, List.map_append]
      simp [z]
    · show ((es.take (i + 1)).filter t).map f = ((es.take i).filter t).map f
      rw [List.take_add_one, hd, List.filter_append]
      simp [z])
  rw [List.take_length] at h
  exact h
/-- the same over a list that is told otherwise -/
theorem ef_mapE {β : Type} {wi : TI} {g : TG} {vs : List Nat} {l : List β} {enc : β → D} (hw : WD K P ss cs wi (l.map enc) cs1) (f : β → D) (hz : l.length ≤ 1000000)
    (hs : ∀ (p : Addr) (i : Nat) (x : β) (acc : List D), l[i]? = some x → ∃ G W, GR K (wipeS ss vs) g (enc x) G W ∧ (∀ k ∈ W, k ∈ vs) ∧ Ev K (p :: P) G (acc :: cs1) te (.dat (f x)) (acc :: cs1)) :
    EvF K P ss cs (tLc wi g tYes te vs) (l.map f) cs1 := by
  have h := ef_lc (tt := tYes) (te := te) (g := g) (vs := vs) hw (fun i => (l.take i).map f) (fun _ => cs1) rfl rfl (by rw [List.length_map]; exact hz) (fun p i d hp hd => by
    rw [List.getElem?_map] at hd
    cases hx : l[i]? with
    | none => rw [hx] at hd; cases hd
    | some x =>
      rw [hx] at hd
      have e : enc x = d := Option.some.inj hd
      subst e
      obtain ⟨G, W, hg, hW, he⟩ := hs p i x ((l.take i).map f) hx
      have hi : i < l.length := (List.getElem?_eq_some_iff.mp hx).1
      refine ⟨by rw [List.length_map, List.length_take]; omega, G, W, true, hg, hW, fun B H σ o Q q => q B H (Stp.refl _ _ _) o, fun _ => ⟨f x, he, ?_⟩, fun z => by cases z⟩
      show (l.take (i + 1)).map f = (l.take i).map f ++ [f x]
      rw [List.take_add_one, hx, List.map_append]
      rfl)
  simp only [List.length_map, List.take_length] at h
  exact h
theorem ef_filterE {β : Type} {wi : TI} {g : TG} {tt : TT} {vs : List Nat} {l : List β} {enc : β → D} (hw : WD K P ss cs wi (l.map enc) cs1) (f : β → D) (t : β → Bool) (hz : l.length ≤ 1000000)
    (hs : ∀ (p : Addr) (i : Nat) (x : β) (acc : List D), l[i]? = some x → ∃ G W, GR K (wipeS ss vs) g (enc x) G W ∧ (∀ k ∈ W, k ∈ vs) ∧ EvT K (p :: P) G (acc :: cs1) tt (t x) (acc :: cs1) ∧ (t x = true → Ev K (p :: P) G (acc :: cs1) te (.dat (f x)) (acc :: cs1))) :
    EvF K P ss cs (tLc wi g tt te vs) ((l.filter t).map f) cs1 := by
  have h := ef_lc (tt := tt) (te := te) (g := g) (vs := vs) hw (fun i => ((l.take i).filter t).map f) (fun _ => cs1) rfl rfl (by rw [List.length_map]; exact hz) (fun p i d hp hd => by
    rw [List.getElem?_map] at hd
    cases hx : l[i]? with
    | none => rw [hx] at hd; cases hd
    | some x =>
      rw [hx] at hd
      have e : enc x = d := Option.some.inj hd
      subst e
      obtain ⟨G, W, hg, hW, ht, he⟩ := hs p i x (((l.take i).filter t).map f) hx
      refine ⟨by
        rw [List.length_map]
        refine Nat.le_trans (List.length_filter_le _ _) ?_
        rw [List.length_take]; omega, G, W, t x, hg, hW, ht, fun z => ⟨f x, he z, ?_⟩, fun z => ⟨?_, rfl⟩⟩
      · show ((l.take (i + 1)).filter t).map f = ((l.take i).filter t).map f ++ [f x]
        rw [List.take_add_one, hx, List.filter_append, List.map_append]
        simp [z]
      · show ((l.take (i + 1)).filter t).map f = ((l.take i).filter t).map f
        rw [List.take_add_one, hx, List.filter_append]
        simp [z])
  simp only [List.length_map, List.take_length] at h
  exact h
end

/-! ### append, extend -/
section
variable {P : List Addr} {B0 H0 H : Hp} {ss : List Sl} {cs cs1 : List (List D)} {σ : L2.St} {D : Ends} {te : TE}
theorem Okk.putL {P : List Addr} {ss : List Sl} {cs : List (List DV.D)} {B H : Hp} {σ : L2.St} {j : Nat} {p : Addr} {ws : List V} {es : List DV.D} (o : Okk K P ss cs B H σ) (hP : P[j]? = some p) (hB : B p = none) (hr : RpA K B ws es) :
    Okk K P ss (cs.set j es) B (upd H p (.lst ws)) σ ∧ Stp P B H B (upd H p (.lst ws)) := by
  have hm : p ∈ P := List.mem_of_getElem? hP
  refine ⟨⟨fun b u e => ?_, o.sl, o.mu.put (Ex.refl _) upd_same hr hP (fun x _ hne => upd_ne hne) fun x hx => (o.mu.mem hx).choose_spec.2⟩, ⟨Ex.refl _, fun b u n e => ?_, fun _ _ _ => rfl, fun b u e => ?_⟩⟩
  · rw [upd_ne (fun (z : b = p) => by rw [z, hB] at e; cases e)]
    exact o.ex b u e
  · rw [upd_ne (fun (z : b = p) => n (z ▸ hm))]
    exact e
  · by_cases hb : b = p
    · subst hb; exact ⟨_, upd_same⟩
    · exact ⟨u, by rw [upd_ne hb]; exact e⟩
theorem st_app {i j : Nat} {p : Addr} {ds : List DV.D} {d : DV.D} (h : Sta K P B0 H0 ss cs σ H) (hi : ss[i]? = some (.val (.ref p))) (he : Ev K P ss cs te (.dat d) cs1) (hP : P[j]? = some p) (hc0 : ∃ ds0, cs[j]? = some ds0) (hc : cs1[j]? = some ds)
    (hz : ds.length ≤ 1000000) (k : ∀ H', Sta K P B0 H0 ss (cs1.set j (ds ++ [d])) σ H' → D.nx σ H') : tDrop (tBM K "list" rAppend (tVar i) (tCons te tNil)) D σ H := by
  obtain ⟨B, s, o⟩ := h
  obtain ⟨ds0, hc0⟩ := hc0
  obtain ⟨⟨vs0, hv0, _⟩, _⟩ := o.mu.get hP hc0
  obtain ⟨w, hw, ew⟩ := o.sl.get i _ hi (by intro z; cases z)
  have ew' : w = .ref p := ew
  subst ew'
  refine ⟨.ref p, hw, .inl ⟨rfl, vs0, .inl (.inl hv0)⟩, ?_⟩
  refine he B H σ o _ fun v B1 H1 s1 o1 v1 => ?_
  obtain ⟨⟨vs, hv, rv⟩, hB⟩ := o1.mu.get hP hc
  obtain ⟨o2, s2⟩ := o1.putL hP hB (rv.append (.cons v1 .nil))
  exact ⟨p, vs, v, rfl, rfl, hv, lt_line (by rw [rv.length]; exact hz), k _ ⟨B1, (s.trans s1).trans s2, o2⟩⟩
theorem st_ext {i j : Nat} {p : Addr} {ds es : List DV.D} (h : Sta K P B0 H0 ss cs σ H) (hi : ss[i]? = some (.val (.ref p))) (he : Ev K P ss cs te (.dat (.lst es)) cs1) (hP : P[j]? = some p) (hc0 : ∃ ds0, cs[j]? = some ds0) (hc : cs1[j]? = some ds)
    (hz : ds.length + es.length ≤ 1000000) (k : ∀ H', Sta K P B0 H0 ss (cs1.set j (ds ++ es)) σ H' → D.nx σ H') : tDrop (tBM K "list" rExtend (tVar i) (tCons te tNil)) D σ H := by
  obtain ⟨B, s, o⟩ := h
  obtain ⟨ds0, hc0⟩ := hc0
  obtain ⟨⟨vs0, hv0, _⟩, _⟩ := o.mu.get hP hc0
  obtain ⟨w, hw, ew⟩ := o.sl.get i _ hi (by intro z; cases z)
  have ew' : w = .ref p := ew
  subst ew'
  refine ⟨.ref p, hw, .inl ⟨rfl, vs0, .inl (.inl hv0)⟩, ?_⟩
  refine he B H σ o _ fun v B1 H1 s1 o1 v1 => ?_
  have a' : Rp K B1 v (.lst es) := v1
  cases a' with
  | @lst b xs _ h5 r =>
    obtain ⟨⟨vs, hv, rv⟩, hB⟩ := o1.mu.get hP hc
    obtain ⟨o2, s2⟩ := o1.putL hP hB (rv.append r)
    exact ⟨p, b, vs, xs, rfl, rfl, hv, o1.ex _ _ h5, le_line (by rw [rv.length, r.length]; exact hz), k _ ⟨B1, (s.trans s1).trans s2, o2⟩⟩
/-- xs[k] = e -/
theorem st_setL {i j m : Nat} {p : Addr} {ds : List DV.D} {d : DV.D} {cs2 : List (List DV.D)} {ti : TE} (h : Sta K P B0 H0 ss cs σ H) (hi : ss[i]? = some (.val (.ref p))) (he : Ev K P ss cs te (.dat d) cs1) (hix : Ev K P ss cs1 ti (.dat (.int (m : Nat))) cs2) (hP : P[j]? = some p) (hc : cs2[j]? = some ds)
    (hm : m < ds.length) (k : ∀ H', Sta K P B0 H0 ss (cs2.set j (ds.set m d)) σ H' → D.nx σ H') : tAsg te (gSub (tVar i) ti rSetL) D σ H := by
  obtain ⟨B, s, o⟩ := h
  refine he B H σ o _ fun v B1 H1 s1 o1 v1 => ?_
  obtain ⟨w, hw, ew⟩ := o1.sl.get i _ hi (by intro z; cases z)
  have ew' : w = .ref p := ew
  subst ew'
  refine ⟨.ref p, hw, ?_⟩
  refine hix B1 H1 σ o1 _ fun u B2 H2 s2 o2 u2 => ?_
  have b' : Rp K B2 u (.int (m : Nat)) := u2
  cases b'
  obtain ⟨⟨vs, hv, rv⟩, hB⟩ := o2.mu.get hP hc
  obtain ⟨o3, s3⟩ := o2.putL hP hB (rv.set (v1.mono s2.ex) m)
  refine ⟨p, vs, _, m, rfl, rfl, hv, ?_, k _ ⟨B2, ((s.trans s1).trans s2).trans s3, o3⟩⟩
  unfold ixN
  rw [rv.length, if_pos (by omega), if_pos (by omega)]
  simp
end

/-! ### a list that may change, read -/
section
variable {P : List Addr} {ss : List Sl} {cs cs1 : List (List D)} {te : TE}
theorem ev_ixM {i j : Nat} {p : Addr} {ds : List D} {m : Int} {d : D} (hi : ss[i]? = some (.val (.ref p))) (he : Ev K P ss cs te (.dat (.int m)) cs1) (hP : P[j]? = some p) (hc : cs1[j]? = some ds) (hm : atI ds m = some d) :
    Ev K P ss cs (tOp (rIx K) (tVar i) te) (.dat d) cs1 := fun B H σ o Q q => by
  obtain ⟨w, hw, ew⟩ := o.sl.get i _ hi (by intro z; cases z)
  have ew' : w = .ref p := ew
  subst ew'
  refine ⟨.ref p, hw, he B H σ o _ fun u B2 H2 s2 o2 u2 => ?_⟩
  have b' : Rp K B2 u (.int m) := u2
  cases b'
  obtain ⟨⟨vs, hv, rv⟩, hB⟩ := o2.mu.get hP hc
  obtain ⟨v, h1, h2⟩ := rv.atI hm
  exact .inl ⟨p, vs, m, v, rfl, rfl, .inl (.inl hv), h1, q v B2 H2 s2 o2 h2⟩
theorem ev_lenM {i j : Nat} {p : Addr} {ds : List D} (hi : ss[i]? = some (.val (.ref p))) (hP : P[j]? = some p) (hc : cs[j]? = some ds) : Ev K P ss cs (tCB (rLen1 K) (tCons (tVar i) tNil)) (.dat (.int (ds.length : Int))) cs := fun B H σ o Q q => by
  obtain ⟨w, hw, ew⟩ := o.sl.get i _ hi (by intro z; cases z)
  have ew' : w = .ref p := ew
  subst ew'
  obtain ⟨⟨vs, hv, rv⟩, hB⟩ := o.mu.get hP hc
  exact ⟨.ref p, hw, .ref p, ds.length, rfl, .inl ⟨vs, .inl (.inl hv), rv.length.symm⟩, q _ B H (Stp.refl _ _ _) o (.int _)⟩
end

/-! ### fields, methods of texts, dicts, f-strings, truth -/
section
variable {P : List Addr} {ss : List Sl} {cs cs1 cs2 : List (List D)} {te tk : TE}
theorem ev_fld {C : Addr} {fs : List (Str × D)} {f : Str} {d : D} (h : Ev K P ss cs te (.dat (.obj C fs)) cs1) (hc : Cls K C) (hn : NoAttr K C f) (hl : fs.lookup f = some d) : Ev K P ss cs (tFld K te f) (.dat d) cs1 := fun B H σ o Q q =>
  h B H σ o _ fun v B1 H1 s1 o1 v1 => by
    have a' : Rp K B1 v (.obj C fs) := v1
    cases a' with
    | obj h5 r =>
      obtain ⟨w, h1, h2⟩ := r.lookup hl
      exact ⟨_, C, _, _, w, rfl, o1.ex _ _ h5, hc, hn, h1, q w B1 H1 s1 o1 h2⟩
theorem ev_m0 {rr : V → List V → Hp → VK → Prop} {a : Str} {d : D} (h : Ev K P ss cs te (.dat (.str a)) cs1) (hr : ∀ H (Q : VK), (∀ v, Rp K (fun _ => none) v d → Q v H) → rr (.str a) [] H Q) (hd : d.flat = true := by rfl) : Ev K P ss cs (tM0 rr te) (.dat d) cs1 := fun B H σ o Q q =>
  h B H σ o _ fun v B1 H1 s1 o1 v1 => by
    have a' : Rp K B1 v (.str a) := v1
    cases a'
    exact ⟨⟨a, rfl⟩, hr H1 Q fun w hw => q w B1 H1 s1 o1 (hw.flatAny hd)⟩
/-- x.split(sep) -/
theorem ev_split {a b : Str} (h : Ev K P ss cs te (.dat (.str a)) cs1) (hk : Ev K P ss cs1 tk (.dat (.str b)) cs2) (hb : (b.length == 0) = false) (ha : a.length + 2 ≤ 1000000) :
    EvF K P ss cs (tM1 (fun x xs H Q => ∃ a b, x = .str a ∧ xs = [.str b] ∧ (b.length == 0) = false ∧ a.length + 2 ≤ sizeLine ∧ rNewStrs (Txt.split a b) H Q) te tk) ((Txt.split a b).map D.str) cs2 := fun B H σ o Q q =>
  h B H σ o _ fun v B1 H1 s1 o1 v1 => by
    have a' : Rp K B1 v (.str a) := v1
    cases a'
    refine ⟨⟨a, rfl⟩, hk B1 H1 σ o1 _ fun u B2 H2 s2 o2 u2 => ?_⟩
    have b' : Rp K B2 u (.str b) := u2
    cases b'
    refine ⟨a, b, rfl, rfl, hb, le_line ha, fun p hp => ?_⟩
    have s12 := s1.trans s2
    have hp0 : H p = none := by
      cases e : H p with
      | none => rfl
      | some u => obtain ⟨u', h'⟩ := s12.dm p u e; rw [hp] at h'; cases h'
    have hpP : p ∉ P := fun z => by obtain ⟨u, h1, _⟩ := o2.mu.mem z; rw [hp] at h1; cases h1
    refine q p _ B2 _ hp0 (s12.trans ⟨Ex.refl _, fun b u _ e => Ex.new hp b u e, fun _ _ _ => rfl, fun b u e => ⟨u, Ex.new hp b u e⟩⟩) ⟨fun b u e => Ex.new hp b u (o2.ex b u e), o2.sl, o2.mu.keep (Ex.refl _) (fun x hx => upd_ne fun (z : x = p) => hpP (z ▸ hx)) fun x hx => (o2.mu.mem hx).choose_spec.2⟩ upd_same (o2.ex.free hp) RpA.ofStrs
theorem ev_join {a : Str} {ys : List Str} (h : Ev K P ss cs te (.dat (.str a)) cs1) (hk : Ev K P ss cs1 tk (.dat (.lst (ys.map D.str))) cs2) (hz : (ys.map (·.length)).sum + ys.length * a.length ≤ 1000000) :
    Ev K P ss cs (tM1 (fun x xs H Q => ∃ a p, ∃ ys : List Str, x = .str a ∧ xs = [.ref p] ∧ (SqL K H p (ys.map V.str) ∨ SqT K H p (ys.map V.str)) ∧ (ys.map (·.length)).sum + ys.length * a.length ≤ 16777216 ∧ Q (.str (Txt.join a ys)) H) te tk) (.dat (.str (Txt.join a ys))) cs2 := fun B H σ o Q q =>
  h B H σ o _ fun v B1 H1 s1 o1 v1 => by
    have a' : Rp K B1 v (.str a) := v1
    cases a'
    refine ⟨⟨a, rfl⟩, hk B1 H1 σ o1 _ fun u B2 H2 s2 o2 u2 => ?_⟩
    have b' : Rp K B2 u (.lst (ys.map D.str)) := u2
    cases b' with
    | lst h5 r =>
      have z := RpA.strs r
      subst z
      exact ⟨a, _, ys, rfl, rfl, .inl (.inl (.inl (o2.ex _ _ h5))), by omega, q _ B2 H2 (s1.trans s2) o2 (.str _)⟩
def valD (ks : List (Key × D)) (k : Key) : Option D := (ks.find? fun kv => decide (kv.1 = k)).map (·.2)
theorem RpK.val {B : Hp} {k : Key} : ∀ {vs : List (Key × V)} {ds : List (Key × D)} {d : D}, RpK K B vs ds → valD ds k = some d → ∃ v, valV vs k = some v ∧ Rp K B v d
  | _, _, _, .nil, e => by simp [valD] at e
  | _, _ :: ds, d, .cons (k := k') h r, e => by
    by_cases hk : k' = k
    · subst hk
      simp [valD] at e
      subst e
      exact ⟨_, by simp [valV], h⟩
    · have e' : valD ds k = some d := by simpa [valD, List.find?_cons, hk] using e
      obtain ⟨v, h1, h2⟩ := RpK.val r e'
      exact ⟨v, by simpa [valV, List.find?_cons, hk] using h1, h2⟩
theorem ev_dgetS {ks : List (Key × D)} {s : Str} {d : D} (h : Ev K P ss cs te (.dat (.dic ks)) cs1) (hk : Ev K P ss cs1 tk (.dat (.str s)) cs2) (hv : valD ks (.inr s) = some d) : Ev K P ss cs (tDGet te tk) (.dat d) cs2 := fun B H σ o Q q =>
  h B H σ o _ fun v B1 H1 s1 o1 v1 => hk B1 H1 σ o1 _ fun u B2 H2 s2 o2 u2 => by
    have a' : Rp K B2 v (.dic ks) := Rp.mono s2.ex v1
    have b' : Rp K B2 u (.str s) := u2
    cases b'
    cases a' with
    | @dic a kvs _ h5 r =>
      obtain ⟨w, h1, h2⟩ := r.val hv
      exact ⟨_, w, rfl, .inl ⟨kvs, .inr s, .inl (o2.ex _ _ h5), rfl, h1.symm⟩, q w B2 H2 (s1.trans s2) o2 h2⟩
/-- f-strings -/
def EvJ (K : PySem.W.Frag) (P : List Addr) (ss : List Sl) (cs : List (List D)) (ts : List TE) (acc out : Str) : Prop :=
  ∀ B H σ, Okk K P ss cs B H σ → ∀ Q : Str → Hp → Prop, (∀ B' H', Stp P B H B' H' → Okk K P ss cs B' H' σ → Q out H') → tJs ts acc σ H Q
theorem ej_nil {acc : Str} : EvJ K P ss cs [] acc acc := fun B H σ o Q q => q B H (Stp.refl _ _ _) o
theorem ej_cons {ts : List TE} {acc y out : Str} (h : Ev K P ss cs te (.dat (.str y)) cs) (hz : (acc ++ y).length ≤ 1000000) (hr : EvJ K P ss cs ts (acc ++ y) out) : EvJ K P ss cs (te :: ts) acc out := fun B H σ o Q q =>
  h B H σ o _ fun v B1 H1 s1 o1 v1 => by
    have a' : Rp K B1 v (.str y) := v1
    cases a'
    exact ⟨y, rfl, le_line hz, hr B1 H1 σ o1 Q fun B2 H2 s2 o2 => q B2 H2 (s1.trans s2) o2⟩
theorem ev_joined {ts : List TE} {out : Str} (h : EvJ K P ss cs ts Str.empty out) : Ev K P ss cs (fun σ H Q => tJs ts Str.empty σ H fun out H1 => Q (.str out) H1) (.dat (.str out)) cs := fun B H σ o Q q =>
  h B H σ o _ fun B1 H1 s1 o1 => q _ B1 H1 s1 o1 (Rp.str out)
theorem ev_fmt {y : Str} (h : Ev K P ss cs te (.dat (.str y)) cs1) (hz : y.length ≤ 1000000) : Ev K P ss cs (tFmt te) (.dat (.str y)) cs1 := fun B H σ o Q q =>
  h B H σ o _ fun v B1 H1 s1 o1 v1 => by
    have a' : Rp K B1 v (.str y) := v1
    cases a'
    exact .inl ⟨y, rfl, le_line hz, q _ B1 H1 s1 o1 (Rp.str y)⟩
theorem et_truL {ds : List D} (h : Ev K P ss cs te (.dat (.lst ds)) cs1) : EvT K P ss cs (fun σ H Q => te σ H fun x H' => ∃ k, TruV K x H' k ∧ Q k H') (!ds.isEmpty) cs1 := fun B H σ o Q q =>
  h B H σ o _ fun v B1 H1 s1 o1 v1 => by
    have a' : Rp K B1 v (.lst ds) := v1
    cases a' with
    | @lst a xs _ h5 r =>
      refine ⟨!ds.isEmpty, .inl ⟨xs, .inl (.inl (o1.ex _ _ h5)), ?_⟩, q B1 H1 s1 o1⟩
      cases r <;> rfl
/-- a < b < c over ints -/
theorem ev_chain {p p' : Int → Int → Bool} {i j k : Int} {ta tb tc : TE} {cs3 : List (List D)} (ha : Ev K P ss cs ta (.dat (.int i)) cs) (hb : Ev K P ss cs tb (.dat (.int j)) cs) (hc : p i j = true → Ev K P ss cs tc (.dat (.int k)) cs) :
    Ev K P ss cs (tChain (rI0 fun i j => .bl (p i j)) (rI0 fun i j => .bl (p' i j)) ta tb tc) (.dat (.bl (p i j && p' j k))) cs := fun B H σ o Q q =>
  ha B H σ o _ fun x B1 H1 s1 o1 x1 => hb B1 H1 σ o1 _ fun y B2 H2 s2 o2 y2 => by
    have a' : Rp K B1 x (.int i) := x1
    have b' : Rp K B2 y (.int j) := y2
    cases a'; cases b'
    refine ⟨i, j, rfl, rfl, p i j, rfl, ?_⟩
    cases hp : p i j with
    | false =>
      rw [hp] at q
      rw [if_neg Bool.false_ne_true]
      exact q _ B2 H2 (s1.trans s2) o2 (Rp.bl _)
    | true =>
      rw [hp] at q
      rw [if_pos rfl]
      refine hc hp B2 H2 σ o2 _ fun z B3 H3 s3 o3 z3 => ?_
      have c' : Rp K B3 z (.int k) := z3
      cases c'
      exact ⟨j, k, rfl, rfl, q _ B3 H3 ((s1.trans s2).trans s3) o3 (Rp.bl _)⟩
end

/-! ### a def's body -/
theorem sta_start {B H : Hp} {vs : List V} {rs : List Sl} {P : List Addr} {cs : List (List D)} {N : List Str} (e : Ex B H) (r : RSs K B vs rs) (m : Mu K B H P cs) : Sta K P B H (rs ++ List.replicate (N.length - rs.length) .any) cs (L2.start N vs) H := by
  refine ⟨B, Stp.refl _ _ _, e, ⟨?_, fun i q hq hn => ?_⟩, m⟩
  · unfold L2.start
    rw [List.length_append, List.length_append, List.length_map, List.length_replicate, List.length_replicate, r.length]
  · by_cases hi : i < rs.length
    · rw [List.getElem?_append_left hi] at hq
      have hv : i < vs.length := by rw [r.length]; exact hi
      have gen : ∀ (vs : List V) (rs : List Sl) (i : Nat), RSs K B vs rs → rs[i]? = some q → ∃ v, vs[i]? = some v ∧ RS K B v q := by
        intro vs
        induction vs with
        | nil => intro rs i h hq; cases rs with | nil => simp at hq | cons _ _ => exact h.elim
        | cons v vs ih =>
          intro rs i h hq
          cases rs with
          | nil => exact h.elim
          | cons r rs =>
            cases i with
            | zero => simp at hq; subst hq; exact ⟨v, rfl, h.1⟩
            | succ i => exact ih rs i h.2 (by simpa using hq)
      obtain ⟨v, h1, h2⟩ := gen vs rs i r hq
      refine ⟨v, ?_, h2⟩
      unfold L2.start
      rw [List.getElem?_append_left (by rw [List.length_map]; exact hv), List.getElem?_map, h1]
      rfl
    · rw [List.getElem?_append_right (by omega)] at hq
      rw [List.getElem?_replicate] at hq
      split at hq
      · exact absurd (Option.some.inj hq).symm hn
      · cases hq
end DV
/-! DV4: defs by their relation. -/
namespace DV
open PySem L2
/-- a def of the module, and what it promises -/
structure Def (P : Program) (w : World) (K : PySem.W.Frag) (mg : Str → Option Value) (base : Heap) (k : Nat) (x : Str) (f : Addr) (fd : FuncData) (ps : List Str) (sp : Sp) : Prop where
  ok : FnOk P w K mg base CX0 k f fd ps sp
  g : mg x = some (.ref f)
  kp : PySem.W.keepIn K (.ref f) = true
  b : Binds K fd ps []
theorem pe_def {X : Cx} {k j : Nat} {x : Str} {f : Addr} {fd : FuncData} {ps : List Str} {sp : Sp} {p pos : Pos} {e : Expr} {es : List Expr} {t : TA} (d : Def X.prog X.w X.K X.mg X.base k x f fd ps sp) (hr : Room j X.A) (hk : k ≤ j) (hg : Gl X x) (ha : PA X (e :: es) t)
    (hdb : (x == ("__debug__" : Str)) = false := by decide) (he : starEach (e :: es) X.env = (false, eval e X.env) :: starEach es X.env := by rfl) (hpl : (backTo pos (starEach es X.env)).any (·.1) = false := by rfl) :
    PE X (.Call (.Name x p) (e :: es) [] pos) (tCall sp [] E0 t) := pe_call d.ok (hr.mono hk) hg d.g d.kp d.b .nil pass0 ha hdb he hpl
/-- a def's body, by the slots' data -/
theorem spM_len {pre : Pre} {n : Nat} {K : PySem.W.Frag} (h : ∀ rs P cs r cs', pre rs P cs r cs' → rs.length = n) : ∀ vs H Q E, spM K pre vs H Q E → vs.length = n := fun vs H Q E z => by
  obtain ⟨B, rs, P, cs, r, cs', hp, _, hr, _⟩ := z
  rw [hr.length]
  exact h _ _ _ _ _ hp
theorem ok_body {P : Program} {w : World} {K : PySem.W.Frag} {mg : Str → Option Value} {base : Heap} {x qual : Str} {st : Stmt} {f : Addr} {fd : FuncData} {N ps : List Str} {k : Nat} {pre : Pre} (F : Fun K x qual st f fd) (S : FnScope N ps (defScope st))
    (len : ∀ rs P cs r cs', pre rs P cs r cs' → rs.length = ps.length)
    (hb : ∀ X : Cx, ∀ (hX : ∃ (cdv : Value) (A : Around) (outer : List Env) (s : Shared) (H : Hp) (E : XK), X = (cxOf CX0 P w K mg base N qual (defScope st) f cdv A outer s H E).nox), Room k X.A → ∃ t, PSs X (defBody st) t ∧
      ∀ rs Pl cs r cs', pre rs Pl cs r cs' → ∀ B0 H0 σ (D : Ends), Sta K Pl B0 H0 (rs ++ List.replicate (N.length - rs.length) .any) cs σ H0 → (∀ p ∈ Pl, ∃ o, H0 p = some o) → Done K Pl B0 H0 r cs' D.rt → (r = .dat .non → ∀ ss σ' H', Sta K Pl B0 H0 ss cs' σ' H' → D.nx σ' H') → t D σ H0) :
    FnOk P w K mg base CX0 (k + 1) f fd ps (spM K pre) := by
  refine F.ok S (spM_len len) (fun cdv A outer s H vs Q E hr h => ?_)
  obtain ⟨t, h1, h2⟩ := hb _ ⟨cdv, A, outer, s, H, E, rfl⟩ hr
  obtain ⟨B, rs, Pl, cs, r, cs', hp, e, hrs, mu, q⟩ := h
  refine ⟨t, h1, h2 rs Pl cs r cs' hp B H _ _ (sta_start e hrs mu) (fun p hm => (mu.mem hm).imp fun _ z => z.1) q (fun hr' ss' σ' H' st => ?_)⟩
  obtain ⟨B', s', o'⟩ := st
  subst hr'
  exact q .non B' H' s' o'.ex o'.mu .non
theorem st_next {D : Ends} {σ : L2.St} {H : Hp} (h : D.nx σ H) : tNext D σ H := h
theorem st_seq {D : Ends} {t u : TS} {σ : L2.St} {H : Hp} (h : t { D with nx := u D } σ H) : tSeq t u D σ H := h
theorem st_ns {D : Ends} {t u : TS} {σ : L2.St} {H : Hp} (h : t { D with nx := u D } σ H) : tNext { D with nx := tSeq t u D } σ H := h
theorem for_of {wi : TI} {g : TG} {tb : TS} {D : Ends} {σ : L2.St} {H : Hp} (h : wi σ H fun J H1 => ∃ W : Nat → Nat → L2.St → Hp → Prop, (∃ m, W 0 m σ H1) ∧ ∀ i m σ H, W i m σ H →
    (J.stop i H ∧ D.nx σ H) ∨ (J.go i H ∧ ∃ N : L2.St → Hp → Prop, (∀ σ' H', N σ' H' → ∃ m', m' < m ∧ W (i + 1) m' σ' H') ∧ ∀ x H', J.yld i H x H' → g x σ H' fun σ2 H2 => tb { D with nx := N, ct := N, bk := D.nx } σ2 H2)) : tFor wi g tb D σ H := h
theorem st_raw0 {D : Ends} {i : Nat} {σ : L2.St} {H : Hp} (k : ∀ p, H p = none → D.nx (σ.set i (some (.ref p))) (upd H p (.lst []))) : tAsg (tLst tNil) (gName i) D σ H := ⟨Nat.zero_le _, fun p hp => k p hp⟩
end DV
/-! PM: texts of schemas, in plain Lean. -/
namespace PM
open PySem L2
abbrev Col := Str × Option Str
abbrev Tab := Str × List Col

/-! ### signs -/
abbrev nl : Str := "\n"
abbrev sp : Str := " "
theorem nl_is : nl = ⟨#[10]⟩ := by decide +kernel
theorem sp_is : sp = ⟨#[32]⟩ := by decide +kernel
def free (c : Nat) (x : Str) : Prop := c ∉ x.cps.toList
instance (c : Nat) (x : Str) : Decidable (free c x) := inferInstanceAs (Decidable (¬ c ∈ x.cps.toList))
def fineB (w : Str) : Bool := decide (1 ≤ w.length) && decide (w.length ≤ 8) && w.cps.toList.all fun c => decide (97 ≤ c) && decide (c ≤ 122)

/-! ### joining and splitting -/
theorem join_nil (c : Str) : Txt.join c [] = Str.empty := rfl
theorem join_one (c x : Str) : Txt.join c [x] = x := rfl
theorem join_cons (c x y : Str) (r : List Str) : Txt.join c (x :: y :: r) = x ++ c ++ Txt.join c (y :: r) := by
  show Builtin.Str.glued c (x :: y :: r) = x ++ c ++ Builtin.Str.glued c (y :: r)
  rw [StrLaws.glued_eq_join, StrLaws.glued_eq_join]
  rfl
theorem lst_eq {a b : Str} (h : a.cps.toList = b.cps.toList) : a = b := Str.ext' (Array.toList_inj.mp h)
theorem app_list (a b : Str) : (a ++ b).cps.toList = a.cps.toList ++ b.cps.toList := by rw [Str.cps_append, Array.toList_append]
/-- what stands between two cuts is told -/
theorem cut_uniq {α : Type} [DecidableEq α] (c : α) : ∀ {a a' b b' : List α}, c ∉ a → c ∉ a' → a ++ c :: b = a' ++ c :: b' → a = a' ∧ b = b'
  | [], [], b, b', _, _, h => ⟨rfl, by simpa using h⟩
  | [], x :: a', _, _, _, h', h => by
    have e : c = x := by simpa using (List.cons.inj h).1
    exact absurd (by rw [e]; exact List.mem_cons_self) h'
  | x :: a, [], _, _, h', _, h => by
    have e : x = c := by simpa using (List.cons.inj h).1
    exact absurd (by rw [e]; exact List.mem_cons_self) h'
  | x :: a, y :: a', b, b', h1, h2, h => by
    obtain ⟨e1, e2⟩ := List.cons.inj h
    obtain ⟨e3, e4⟩ := cut_uniq c (fun z => h1 (List.mem_cons_of_mem _ z)) (fun z => h2 (List.mem_cons_of_mem _ z)) e2
    exact ⟨by rw [e1, e3], e4⟩
theorem join_list (k : Nat) (x y : Str) (r : List Str) : (Txt.join ⟨#[k]⟩ (x :: y :: r)).cps.toList = x.cps.toList ++ k :: (Txt.join ⟨#[k]⟩ (y :: r)).cps.toList := by
  rw [join_cons, app_list, app_list]
  simp
theorem free_join (k : Nat) : ∀ {ls : List Str} {x : Str}, x.cps.toList = (Txt.join ⟨#[k]⟩ ls).cps.toList → free k x → (∀ l ∈ ls, free k l) → ls.length ≤ 1
  | [], _, _, _, _ => Nat.zero_le _
  | [_], _, _, _, _ => Nat.le_refl _
  | y :: z :: r, x, h, hx, _ => by
    rw [join_list] at h
    exact absurd (by rw [h]; simp) hx
theorem join_inj (k : Nat) : ∀ {ls ms : List Str}, ls ≠ [] → ms ≠ [] → (∀ l ∈ ls, free k l) → (∀ l ∈ ms, free k l) → Txt.join ⟨#[k]⟩ ls = Txt.join ⟨#[k]⟩ ms → ls = ms
  | [], _, h, _, _, _, _ => absurd rfl h
  | _, [], _, h, _, _, _ => absurd rfl h
  | [x], [y], _, _, _, _, h => by
    have e : x = y := h
    rw [e]
  | [x], y :: z :: r, _, _, hx, _, h => by
    have e : x.cps.toList = (Txt.join ⟨#[k]⟩ (y :: z :: r)).cps.toList := by rw [← h]; rfl
    rw [join_list] at e
    exact absurd (by rw [e]; simp) (hx x List.mem_cons_self)
  | x :: w :: r, [y], _, _, _, hy, h => by
    have e : y.cps.toList = (Txt.join ⟨#[k]⟩ (x :: w :: r)).cps.toList := by rw [h]; rfl
    rw [join_list] at e
    exact absurd (by rw [e]; simp) (hy y List.mem_cons_self)
  | x :: w :: r, y :: z :: r', _, _, hx, hy, h => by
    have e : (Txt.join ⟨#[k]⟩ (x :: w :: r)).cps.toList = (Txt.join ⟨#[k]⟩ (y :: z :: r')).cps.toList := by rw [h]
    rw [join_list, join_list] at e
    obtain ⟨e1, e2⟩ := cut_uniq k (hx x List.mem_cons_self) (hy y List.mem_cons_self) e
    have i := join_inj k (List.cons_ne_nil w r) (List.cons_ne_nil z r') (fun l hl => hx l (List.mem_cons_of_mem _ hl)) (fun l hl => hy l (List.mem_cons_of_mem _ hl)) (lst_eq e2)
    rw [lst_eq e1, i]
theorem split_join (k : Nat) {ls : List Str} (h : ls ≠ []) (hf : ∀ l ∈ ls, free k l) : Txt.split (Txt.join ⟨#[k]⟩ ls) ⟨#[k]⟩ = ls := by
  refine join_inj k (fun z => ?_) h (StrLaws.split_free _ k) hf (by
    have e := StrLaws.join_split (Txt.join ⟨#[k]⟩ ls) ⟨#[k]⟩
    rw [← StrLaws.glued_eq_join] at e
    exact e)
  have := PyProof.Rows.split_pos (Txt.join ⟨#[k]⟩ ls) ⟨#[k]⟩
  rw [z] at this
  exact absurd this (by decide)

/-! ### names -/
def isName (w : Str) : Bool := decide ((w.length : Int) ≤ 8) && (Txt.isascii w && (Txt.isalpha w && Txt.islower w))
theorem low_alpha : ∀ c : Fin 128, (97 ≤ c.val ∧ c.val ≤ 122) → Unicode.isAlpha c.val = true ∧ Unicode.isLower c.val = true ∧ Unicode.isUpper c.val = false ∧ Unicode.isTitle c.val = false := by decide +kernel
theorem alpha_low : ∀ c : Fin 128, Unicode.isAlpha c.val = true → Unicode.isUpper c.val = false → (97 ≤ c.val ∧ c.val ≤ 122) := by decide +kernel
theorem fine_sign {w : Str} (h : fineB w = true) : ∀ c ∈ w.cps.toList, 97 ≤ c ∧ c ≤ 122 := by
  unfold fineB at h
  simp only [Bool.and_eq_true, List.all_eq_true, decide_eq_true_eq] at h
  exact h.2
theorem fine_len {w : Str} (h : fineB w = true) : 1 ≤ w.length ∧ w.length ≤ 8 := by
  unfold fineB at h
  simp only [Bool.and_eq_true, decide_eq_true_eq] at h
  exact h.1
theorem all_list (a : Array Nat) (p : Nat → Bool) : a.all p = a.toList.all p := by rw [Array.all_toList]
theorem any_list (a : Array Nat) (p : Nat → Bool) : a.any p = a.toList.any p := by rw [Array.any_toList]
theorem isName_fine {w : Str} (h : fineB w = true) : isName w = true := by
  have hs := fine_sign h
  obtain ⟨h1, h2⟩ := fine_len h
  have hc : ∀ c ∈ w.cps.toList, Unicode.isAlpha c = true ∧ Unicode.isLower c = true ∧ Unicode.isUpper c = false ∧ Unicode.isTitle c = false := fun c hc => low_alpha ⟨c, by have := hs c hc; omega⟩ (hs c hc)
  unfold isName Txt.isascii Txt.isalpha Txt.islower
  rw [all_list, all_list, any_list, any_list]
  have e1 : (w.cps.toList.all fun x => decide (x < 128)) = true := List.all_eq_true.mpr fun c hc' => decide_eq_true (by have := hs c hc'; omega)
  have e2 : (w.cps.toList.all Unicode.isAlpha) = true := List.all_eq_true.mpr fun c hc' => (hc c hc').1
  have e3 : (w.cps.toList.any Unicode.isLower) = true := by
    have hl : 0 < w.cps.toList.length := h1
    exact List.any_eq_true.mpr ⟨w.cps.toList[0], List.getElem_mem hl, (hc _ (List.getElem_mem hl)).2.1⟩
  have e4 : (w.cps.toList.any fun c => Unicode.isUpper c || Unicode.isTitle c) = false := by
    rw [List.any_eq_false]
    intro c hc'
    rw [(hc c hc').2.2.1, (hc c hc').2.2.2]
    decide
  rw [e1, e2, e3, e4]
  have e5 : decide ((w.length : Int) ≤ 8) = true := decide_eq_true (by omega)
  have e6 : decide (w.length > 0) = true := decide_eq_true (by omega)
  rw [e5, e6]
  rfl
theorem fine_free {w : Str} (h : fineB w = true) {k : Nat} (hk : k < 97) : free k w := fun z => by
  have := fine_sign h k z
  omega
theorem fine_ok {w : Str} (h : fineB w = true) : PyData.strOk w = true := by
  unfold PyData.strOk
  rw [all_list]
  exact List.all_eq_true.mpr fun c hc => decide_eq_true (by have := fine_sign h c hc; omega)

/-! ### reading rows of words -/
def refsN (cs : List Col) : Nat := (cs.filter fun c => c.2.isSome).length
def sumRefs (T : List Tab) : Nat := (T.map fun t => refsN t.2).sum
def isNew (w : Str) (ns : List Str) : Bool := isName w && !decide (w ∈ ns)
def beginsT (T : List Tab) (ws : List Str) : Bool := match ws with
  | [a, b] => decide (a = "table") && (decide ((T.length : Int) < 3) && isNew b (T.map Prod.fst))
  | _ => false
def addsP (T : List Tab) (ws : List Str) : Bool := match ws, T.getLast? with
  | [a, b, c, d], some t => decide ([a, b, c] = (["", "", "plain"] : List Str)) && (!(decide (0 < (refsN t.2 : Int)) || decide ((t.2.length : Int) = 2)) && isNew d (t.2.map Prod.fst))
  | _, _ => false
def addsR (T : List Tab) (ws : List Str) : Bool := match ws, T.getLast? with
  | [a, b, c, d, e], some t => decide ([a, b, c] = (["", "", "ref"] : List Str)) && (!decide ((refsN t.2 : Int) = 2) && (!decide ((sumRefs T : Int) = 3) && (isNew d (t.2.map Prod.fst) && decide (e ∈ T.dropLast.map Prod.fst))))
  | _, _ => false
def addCol (T : List Tab) (c : Col) : List Tab := match T.getLast? with
  | some t => T.dropLast ++ [(t.1, t.2 ++ [c])]
  | none => T
def step (T : List Tab) (ws : List Str) : Option (List Tab) :=
  if beginsT T ws then some (T ++ [(ws.getD 1 "", [])]) else if addsP T ws then some (addCol T (ws.getD 3 "", none)) else if addsR T ws then some (addCol T (ws.getD 3 "", some (ws.getD 4 ""))) else none
def readFrom (T : List Tab) : List (List Str) → Option (List Tab)
  | [] => some T
  | ws :: r => (step T ws).bind fun T' => readFrom T' r
theorem readFrom_append : ∀ (T : List Tab) (a b : List (List Str)), readFrom T (a ++ b) = (readFrom T a).bind fun T' => readFrom T' b
  | T, [], b => rfl
  | T, ws :: a, b => by
    show (step T ws).bind (fun T' => readFrom T' (a ++ b)) = ((step T ws).bind fun T' => readFrom T' a).bind fun T' => readFrom T' b
    cases e : step T ws with
    | none => rfl
    | some T' => exact readFrom_append T' a b
def colWords : Col → List Str
  | (n, none) => ["", "", "plain", n]
  | (n, some t) => ["", "", "ref", n, t]
def tabWords (t : Tab) : List (List Str) := ["table", t.1] :: t.2.map colWords
def words (T : List Tab) : List (List Str) := T.flatMap tabWords
def rowOf (ws : List Str) : Str := Txt.join sp ws
def textOf (T : List Tab) : Str := Txt.join nl ((words T).map rowOf)
theorem last_snoc (T : List Tab) (t : Tab) : (T ++ [t]).getLast? = some t := by simp
theorem drop_snoc (T : List Tab) (t : Tab) : (T ++ [t]).dropLast = T := by simp
/-- the next column may stand there -/
def okCol (T : List Tab) (done : List Col) : Col → Prop
  | (m, none) => refsN done = 0 ∧ done.length < 2 ∧ fineB m = true ∧ m ∉ done.map Prod.fst
  | (m, some e) => refsN done < 2 ∧ sumRefs T + refsN done < 3 ∧ fineB m = true ∧ m ∉ done.map Prod.fst ∧ e ∈ T.map Prod.fst
def okCols (T : List Tab) (done : List Col) : List Col → Prop
  | [] => True
  | c :: r => okCol T done c ∧ okCols T (done ++ [c]) r
theorem sumRefs_snoc (T : List Tab) (n : Str) (cs : List Col) : sumRefs (T ++ [(n, cs)]) = sumRefs T + refsN cs := by simp [sumRefs]
theorem step_col (T : List Tab) (n : Str) (done : List Col) (c : Col) (h : okCol T done c) : step (T ++ [(n, done)]) (colWords c) = some (T ++ [(n, done ++ [c])]) := by
  obtain ⟨m, e⟩ := c
  cases e with
  | none =>
    obtain ⟨h1, h2, h3, h4⟩ := h
    have ha : addsP (T ++ [(n, done)]) ["", "", "plain", m] = true := by
      unfold addsP
      rw [last_snoc]
      simp only [isNew, isName_fine h3, decide_eq_false h4, h1]
      have e2 : decide ((done.length : Int) = 2) = false := decide_eq_false (by omega)
      rw [e2]
      decide
    unfold step
    have hb : beginsT (T ++ [(n, done)]) (colWords (m, none)) = false := rfl
    rw [hb, show addsP (T ++ [(n, done)]) (colWords (m, none)) = true from ha]
    simp only [Bool.false_eq_true, if_false, if_true]
    unfold addCol
    rw [last_snoc, drop_snoc]
    rfl
  | some e =>
    obtain ⟨h1, h2, h3, h4, h5⟩ := h
    have ha : addsR (T ++ [(n, done)]) ["", "", "ref", m, e] = true := by
      unfold addsR
      rw [last_snoc, drop_snoc, sumRefs_snoc]
      simp only [isNew, isName_fine h3, decide_eq_false h4, decide_eq_true h5]
      have e2 : decide ((refsN done : Int) = 2) = false := decide_eq_false (by omega)
      have e3 : decide (((sumRefs T + refsN done : Nat) : Int) = 3) = false := decide_eq_false (by omega)
      rw [e2, e3]
      decide
    unfold step
    have hb : beginsT (T ++ [(n, done)]) (colWords (m, some e)) = false := rfl
    have hp : addsP (T ++ [(n, done)]) (colWords (m, some e)) = false := rfl
    rw [hb, hp, show addsR (T ++ [(n, done)]) (colWords (m, some e)) = true from ha]
    simp only [Bool.false_eq_true, if_false, if_true]
    unfold addCol
    rw [last_snoc, drop_snoc]
    rfl
theorem read_cols (T : List Tab) (n : Str) : ∀ (rest done : List Col), okCols T done rest → readFrom (T ++ [(n, done)]) (rest.map colWords) = some (T ++ [(n, done ++ rest)])
  | [], done, _ => by simp [readFrom]
  | c :: r, done, h => by
    show (step (T ++ [(n, done)]) (colWords c)).bind (fun T' => readFrom T' (r.map colWords)) = _
    rw [step_col T n done c h.1]
    have := read_cols T n r (done ++ [c]) h.2
    rw [List.append_assoc] at this
    exact this
def okTab (T : List Tab) (t : Tab) : Prop := fineB t.1 = true ∧ t.1 ∉ T.map Prod.fst ∧ T.length < 3 ∧ okCols T [] t.2
theorem read_tab (T : List Tab) (t : Tab) (h : okTab T t) : readFrom T (tabWords t) = some (T ++ [t]) := by
  obtain ⟨h1, h2, h3, h4⟩ := h
  have hb : beginsT T ["table", t.1] = true := by
    unfold beginsT
    simp only [isNew, isName_fine h1, decide_eq_false h2]
    have e2 : decide ((T.length : Int) < 3) = true := decide_eq_true (by omega)
    rw [e2]
    decide
  show (step T ["table", t.1]).bind (fun T' => readFrom T' (t.2.map colWords)) = _
  unfold step
  rw [if_pos hb]
  exact read_cols T t.1 t.2 [] h4
def okTabs (T : List Tab) : List Tab → Prop
  | [] => True
  | t :: r => okTab T t ∧ okTabs (T ++ [t]) r
theorem read_tabs : ∀ (r T : List Tab), okTabs T r → readFrom T (words r) = some (T ++ r)
  | [], T, _ => by simp [words, readFrom]
  | t :: r, T, h => by
    show readFrom T (tabWords t ++ words r) = _
    rw [readFrom_append, read_tab T t h.1]
    have := read_tabs r (T ++ [t]) h.2
    rw [List.append_assoc] at this
    exact this
theorem okTabs_snoc : ∀ (r T : List Tab) (t : Tab), okTabs T r → okTab (T ++ r) t → okTabs T (r ++ [t])
  | [], T, t, _, h => ⟨by simpa using h, True.intro⟩
  | x :: r, T, t, h, ht => ⟨h.1, okTabs_snoc r (T ++ [x]) t h.2 (by simpa using ht)⟩
/-! ### the words of drawn tables -/
def wordOk (w : Str) : Prop := free 10 w ∧ free 32 w ∧ w.length ≤ 8 ∧ PyData.strOk w = true
theorem wordOk_fine {w : Str} (h : fineB w = true) : wordOk w := ⟨fine_free h (by decide), fine_free h (by decide), (fine_len h).2, fine_ok h⟩
theorem wordOk_empty : wordOk "" := ⟨by decide +kernel, by decide +kernel, by decide +kernel, by decide +kernel⟩
theorem wordOk_table : wordOk "table" := ⟨by decide +kernel, by decide +kernel, by decide +kernel, by decide +kernel⟩
theorem wordOk_plain : wordOk "plain" := ⟨by decide +kernel, by decide +kernel, by decide +kernel, by decide +kernel⟩
theorem wordOk_ref : wordOk "ref" := ⟨by decide +kernel, by decide +kernel, by decide +kernel, by decide +kernel⟩
end PM
/-! SP: what the defs of the program promise, over plain data. -/
namespace SP
open PySem L2 DV PM
def encC : Col → D
  | (n, none) => .tup [.str n, .non]
  | (n, some t) => .tup [.str n, .str t]
def encT (t : Tab) : D := .tup [.str t.1, .lst (t.2.map encC)]
def encTs (T : List Tab) : D := .lst (T.map encT)
theorem map_get {α β : Type} {f : α → β} {l : List α} {i : Nat} {y : β} (h : (l.map f)[i]? = some y) : ∃ x, l[i]? = some x ∧ y = f x := by
  rw [List.getElem?_map] at h
  cases e : l[i]? with
  | none => rw [e] at h; cases h
  | some x => rw [e] at h; exact ⟨x, rfl, (Option.some.inj h).symm⟩
/-- one digit: it, the feed behind it -/
def takeN (g m size : Int) : Int × Int × Int :=
  if 0 < g then (g.fmod size, g.fdiv size, m) else (((m * 742938285 + 1013904223).fmod 2305843009213693951).fdiv 16777216 |>.fmod size, g, (m * 742938285 + 1013904223).fmod 2305843009213693951)
theorem takeN_lt {g m size : Int} (h : 0 < size) : 0 ≤ (takeN g m size).1 ∧ (takeN g m size).1 < size := by
  unfold takeN
  split
  · exact ⟨Int.fmod_nonneg_of_pos _ h, Int.fmod_lt_of_pos _ h⟩
  · exact ⟨Int.fmod_nonneg_of_pos _ h, Int.fmod_lt_of_pos _ h⟩
abbrev Fd := Int × Int
def fdD (s : Fd) : List D := [.int s.1, .int s.2]
def fdT (s : Fd) (n : Nat) : Fd := ((takeN s.1 s.2 n).2.1, (takeN s.1 s.2 n).2.2)
def fdI (s : Fd) (n : Nat) : Nat := (takeN s.1 s.2 n).1.toNat
theorem fdI_lt {s : Fd} {n : Nat} (h : 0 < n) : fdI s n < n := by
  have := takeN_lt (g := s.1) (m := s.2) (size := (n : Int)) (by omega)
  unfold fdI
  omega
theorem fdI_eq {s : Fd} {n : Nat} (h : 0 < n) : (takeN s.1 s.2 n).1 = (fdI s n : Int) := by
  have := takeN_lt (g := s.1) (m := s.2) (size := (n : Int)) (by omega)
  unfold fdI
  omega
def preTake : Pre := fun rs Pl cs r cs' => ∃ p s n, rs = [.val (.ref p), .dat (.int (n : Nat))] ∧ Pl = [p] ∧ cs = [fdD s] ∧ 0 < n ∧ n ≤ 100000 ∧ r = .dat (.int (fdI s n : Nat)) ∧ cs' = [fdD (fdT s n)]
def prePick : Pre := fun rs Pl cs r cs' => ∃ p s ds d, rs = [.val (.ref p), .dat (.lst ds)] ∧ Pl = [p] ∧ cs = [fdD s] ∧ 0 < ds.length ∧ ds.length ≤ 100000 ∧ ds[fdI s ds.length]? = some d ∧ r = .dat d ∧ cs' = [fdD (fdT s ds.length)]
def preFeed : Pre := fun rs Pl cs r cs' => ∃ ns i s, rs = [.dat (.fro (ns.map D.int)), .dat (.int (i : Nat))] ∧ ns.length ≤ 63 ∧ i < 60 ∧ Pl = [] ∧ cs = [] ∧ r = .dat (.lst (fdD s)) ∧ cs' = [] ∧
  s = feedOf ns i
where feedOf (ns : List Int) (i : Nat) : Fd :=
  let cell := if i < ns.length then ns.getD i 0 else 59 * (i : Int) + 23
  let great := (if cell < 0 then -cell else cell) - 10 ^ 18
  (if great > 0 then great else 0, (cell * 2862933555777941757 + 3935559000370003845 * ((i : Int) + 1)).fmod 2305843009213693951)
/-! the program's own -/
def preCount : Pre := fun rs Pl cs r cs' => ∃ cols : List Col, rs = [.dat (.lst (cols.map encC))] ∧ cols.length ≤ 1000 ∧ Pl = [] ∧ cs = [] ∧ r = .dat (.int (refsN cols : Nat)) ∧ cs' = []
def colOk (c : Col) : Prop := wordOk c.1 ∧ ∀ t, c.2 = some t → wordOk t
def preColRow : Pre := fun rs Pl cs r cs' => ∃ c d, rs = [.dat (.str c.1), .dat d] ∧ d = (match c.2 with | none => D.non | some t => .str t) ∧ colOk c ∧ Pl = [] ∧ cs = [] ∧ r = .dat (.str (rowOf (colWords c))) ∧ cs' = []
theorem emp_cps : (Str.ofString "").cps = #[] := by decide +kernel
theorem lit1 : ("  plain " : Str) = rowOf ["", "", "plain", ""] := by decide +kernel
theorem lit2 : ("  ref " : Str) = rowOf ["", "", "ref", ""] := by decide +kernel
theorem lit3 : ("table " : Str) = rowOf ["table", ""] := by decide +kernel
theorem row_table (n : Str) : Str.empty ++ ("table " : Str) ++ n = rowOf ["table", n] := by
  rw [Str.empty_append, lit3]
  unfold rowOf
  rw [join_cons, join_one, join_cons, join_one]
  apply lst_eq
  simp [app_list, emp_cps]
theorem row_plain (n : Str) : Str.empty ++ ("  plain " : Str) ++ n = rowOf (colWords (n, none)) := by
  rw [Str.empty_append, lit1]
  show _ = rowOf ["", "", "plain", n]
  unfold rowOf
  rw [join_cons, join_cons, join_cons, join_one, join_cons, join_cons, join_cons, join_one]
  apply lst_eq
  simp [app_list, emp_cps]
theorem row_ref (n t : Str) : Str.empty ++ ("  ref " : Str) ++ n ++ (" " : Str) ++ t = rowOf (colWords (n, some t)) := by
  rw [Str.empty_append, lit2]
  show _ = rowOf ["", "", "ref", n, t]
  unfold rowOf
  rw [join_cons, join_cons, join_cons, join_one, join_cons, join_cons, join_cons, join_cons, join_one]
  apply lst_eq
  simp [app_list, emp_cps]
theorem len_app (a b : Str) : (a ++ b).length = a.length + b.length := Str.length_append a b
theorem row_len_col {c : Col} (h : colOk c) : (rowOf (colWords c)).length ≤ 30 := by
  obtain ⟨n, t⟩ := c
  obtain ⟨h1, h2⟩ := h
  have hn : n.length ≤ 8 := h1.2.2.1
  cases t with
  | none =>
    rw [← row_plain, len_app, len_app]
    have : (Str.empty).length = 0 := rfl
    have : ("  plain " : Str).length = 8 := by decide +kernel
    omega
  | some t =>
    have ht : t.length ≤ 8 := (h2 t rfl).2.2.1
    rw [← row_ref, len_app, len_app, len_app, len_app]
    have : (Str.empty).length = 0 := rfl
    have : ("  ref " : Str).length = 6 := by decide +kernel
    have : (" " : Str).length = 1 := by decide +kernel
    omega
theorem row_len_tab {n : Str} (h : n.length ≤ 8) : (rowOf ["table", n]).length ≤ 30 := by
  rw [← row_table, len_app, len_app]
  have : (Str.empty).length = 0 := rfl
  have : ("table " : Str).length = 6 := by decide +kernel
  omega
def tabsOk (T : List Tab) : Prop := T.length ≤ 3 ∧ ∀ t ∈ T, wordOk t.1 ∧ t.2.length ≤ 4 ∧ ∀ c ∈ t.2, colOk c
def rowsOf (T : List Tab) : List Str := (words T).map rowOf
def preRows : Pre := fun rs Pl cs r cs' => ∃ T, rs = [.dat (encTs T)] ∧ tabsOk T ∧ Pl = [] ∧ cs = [] ∧ r = .dat (.lst ((rowsOf T).map D.str)) ∧ cs' = []
def preIsName : Pre := fun rs Pl cs r cs' => ∃ w : Str, rs = [.dat (.str w)] ∧ w.length ≤ 1000000 ∧ Pl = [] ∧ cs = [] ∧ r = .dat (.bl (isName w)) ∧ cs' = []
def fstD : D → D
  | .tup (d :: _) => d
  | _ => .non
def isTup1 : D → Prop
  | .tup (_ :: _) => True
  | _ => False
def preIsNew : Pre := fun rs Pl cs r cs' => ∃ (w : Str) (ds : List D) (ns : List Str), rs = [.dat (.str w), .dat (.lst ds)] ∧ w.length ≤ 1000000 ∧ ds.length ≤ 1000 ∧ ds.map fstD = ns.map D.str ∧ (∀ d ∈ ds, isTup1 d) ∧ Pl = [] ∧ cs = [] ∧ r = .dat (.bl (isNew w ns)) ∧ cs' = []
def wordsIn (ws : List Str) : Prop := ws.length ≤ 1000000 ∧ ∀ w ∈ ws, w.length ≤ 1000000 ∧ PyData.strOk w = true
def preBegins : Pre := fun rs Pl cs r cs' => ∃ T ws, rs = [.dat (encTs T), .dat (.lst (ws.map D.str))] ∧ T.length ≤ 1000 ∧ wordsIn ws ∧ Pl = [] ∧ cs = [] ∧ r = .dat (.bl (beginsT T ws)) ∧ cs' = []
def tabsIn (T : List Tab) : Prop := T.length ≤ 1000 ∧ ∀ t ∈ T, t.2.length ≤ 1000
def prePlain : Pre := fun rs Pl cs r cs' => ∃ T ws, rs = [.dat (encTs T), .dat (.lst (ws.map D.str))] ∧ tabsIn T ∧ wordsIn ws ∧ Pl = [] ∧ cs = [] ∧ r = .dat (.bl (addsP T ws)) ∧ cs' = []
def preRef : Pre := fun rs Pl cs r cs' => ∃ T ws, rs = [.dat (encTs T), .dat (.lst (ws.map D.str))] ∧ tabsIn T ∧ wordsIn ws ∧ Pl = [] ∧ cs = [] ∧ r = .dat (.bl (addsR T ws)) ∧ cs' = []
theorem fst_encT (T : List Tab) : (T.map encT).map fstD = (T.map Prod.fst).map D.str := by
  rw [List.map_map, List.map_map]; rfl
theorem fst_encC (T : List Col) : (T.map encC).map fstD = (T.map Prod.fst).map D.str := by
  rw [List.map_map, List.map_map]
  exact List.map_congr_left fun c _ => by obtain ⟨n, t⟩ := c; cases t <;> rfl
theorem tup_encT (T : List Tab) : ∀ d ∈ T.map encT, isTup1 d := fun d h => by
  obtain ⟨t, _, rfl⟩ := List.mem_map.mp h
  exact True.intro
theorem tup_encC (T : List Col) : ∀ d ∈ T.map encC, isTup1 d := fun d h => by
  obtain ⟨⟨n, t⟩, _, rfl⟩ := List.mem_map.mp h
  cases t <;> exact True.intro
end SP
/-! RT: the list of tables while it is read: a list of tuples that hold lists that grow. -/
namespace SP
open PySem L2 DV PM
variable {K : PySem.W.Frag}
/-- one entry: the tuple at e.1, its list at e.2.1, which holds e.2.2 -/
structure EntAt (K : PySem.W.Frag) (H0 B H : Hp) (e : Addr × Addr × List V) (t : Tab) : Prop where
  tu : H e.1 = some (.tup [.str t.1, .ref e.2.1])
  ls : H e.2.1 = some (.lst e.2.2)
  co : RpA K B e.2.2 (t.2.map encC)
  bt : B e.1 = none
  bl : B e.2.1 = none
  ft : H0 e.1 = none
  fl : H0 e.2.1 = none
structure TabsAt (K : PySem.W.Frag) (H0 B H : Hp) (p : Addr) (T : List Tab) : Prop where
  ex : ∃ es : List (Addr × Addr × List V), H p = some (.lst (es.map fun e => .ref e.1)) ∧ Paired (EntAt K H0 B H) es T ∧ (es.map (·.2.1)).Nodup ∧ p ∉ es.map (·.2.1)
  bp : B p = none
  fp : H0 p = none
theorem Paired.imp {α β : Type} {F G : α → β → Prop} : ∀ {l : List α} {m : List β}, Paired F l m → (∀ a ∈ l, ∀ b, F a b → G a b) → Paired G l m
  | _, _, .nil, _ => .nil
  | _, _, .cons h r, f => .cons (f _ List.mem_cons_self _ h) (Paired.imp r fun a ha b => f a (List.mem_cons_of_mem _ ha) b)
theorem Paired.snoc' {α β : Type} {F : α → β → Prop} {a : α} {b : β} : ∀ {l : List α} {m : List β}, Paired F l m → F a b → Paired F (l ++ [a]) (m ++ [b])
  | _, _, .nil, h => .cons h .nil
  | _, _, .cons h r, g => .cons h (Paired.snoc' r g)
theorem Paired.unsnoc {α β : Type} {F : α → β → Prop} : ∀ {l : List α} {m : List β} {b : β}, Paired F l (m ++ [b]) → ∃ l' a, l = l' ++ [a] ∧ Paired F l' m ∧ F a b
  | [], [], _, h => by cases h
  | [], _ :: _, _, h => by cases h
  | [a], [], b, .cons h .nil => ⟨[], a, rfl, .nil, h⟩
  | a :: a' :: l, [], b, .cons h r => by cases r
  | a :: l, x :: m, b, .cons h r => by
    obtain ⟨l', c, e, q, f⟩ := Paired.unsnoc r
    exact ⟨a :: l', c, by rw [e]; rfl, .cons h q, f⟩
theorem EntAt.mono {H0 B B' H H' : Hp} {e : Addr × Addr × List V} {t : Tab} (h : EntAt K H0 B H e t) (eB : Ex B B') (kt : H' e.1 = H e.1) (kl : H' e.2.1 = H e.2.1) (nt : B' e.1 = none) (nl : B' e.2.1 = none) : EntAt K H0 B' H' e t :=
  ⟨kt.trans h.tu, kl.trans h.ls, h.co.mono eB, nt, nl, h.ft, h.fl⟩
/-- a pure step leaves it -/
theorem TabsAt.step {H0 B B' H H' : Hp} {p : Addr} {T : List Tab} (h : TabsAt K H0 B H p T) (s : Stp [] B H B' H') : TabsAt K H0 B' H' p T := by
  obtain ⟨⟨es, h1, h2, h3, h4⟩, h5, h6⟩ := h
  refine ⟨⟨es, s.toEx _ _ h1, Paired.imp h2 fun e _ t q => q.mono s.ex ?_ ?_ ?_ ?_, h3, h4⟩, by rw [s.nb _ _ h1]; exact h5, h6⟩
  · rw [q.tu]; exact s.toEx _ _ q.tu
  · rw [q.ls]; exact s.toEx _ _ q.ls
  · rw [s.nb _ _ q.tu]; exact q.bt
  · rw [s.nb _ _ q.ls]; exact q.bl
theorem entAt_rp {H0 B H H' : Hp} (e1 : Ex B H') : ∀ {es : List (Addr × Addr × List V)} {T : List Tab}, Paired (EntAt K H0 B H) es T → (∀ e ∈ es, H' e.1 = H e.1 ∧ H' e.2.1 = H e.2.1) → RpA K H' (es.map fun e => .ref e.1) (T.map encT)
  | _, _, .nil, _ => .nil
  | _, _, .cons h r, k => .cons (.tup (.inl ((k _ List.mem_cons_self).1.trans h.tu)) (.cons (.str _) (.cons (.lst ((k _ List.mem_cons_self).2.trans h.ls) (h.co.mono e1)) .nil))) (entAt_rp e1 r fun e he => k e (List.mem_cons_of_mem _ he))
theorem TabsAt.rp {H0 B H : Hp} {p : Addr} {T : List Tab} (h : TabsAt K H0 B H p T) (e : Ex B H) : Rp K H (.ref p) (encTs T) := by
  obtain ⟨⟨es, h1, h2, _, _⟩, _, _⟩ := h
  exact .lst h1 (entAt_rp e h2 fun _ _ => ⟨rfl, rfl⟩)
/-- all that is new is told -/
def pubB (B0 H0 H : Hp) : Hp := fun b => match H0 b with
  | some _ => B0 b
  | none => H b
theorem pub_new {B0 H0 H : Hp} {b : Addr} (h : H0 b = none) : pubB B0 H0 H b = H b := by unfold pubB; rw [h]
theorem pub_old {B0 H0 H : Hp} {b : Addr} {o : HO} (h : H0 b = some o) : pubB B0 H0 H b = B0 b := by unfold pubB; rw [h]
theorem pub_ex {B0 H0 B H : Hp} (s : Stp [] B0 H0 B H) (e : Ex B H) : Ex B (pubB B0 H0 H) := fun b o h => by
  cases h0 : H0 b with
  | none => rw [pub_new h0]; exact e b o h
  | some u => rw [pub_old h0, ← s.nb b u h0]; exact h
theorem pub_in {B0 H0 B H : Hp} (s : Stp [] B0 H0 B H) (e : Ex B H) : Ex (pubB B0 H0 H) H := fun b o h => by
  cases h0 : H0 b with
  | none => rw [pub_new h0] at h; exact h
  | some u => rw [pub_old h0] at h; exact e b o (s.ex b o h)
theorem pub_stp {B0 H0 B H : Hp} (s : Stp [] B0 H0 B H) (e : Ex B H) : Stp [] B0 H0 (pubB B0 H0 H) H :=
  ⟨s.ex.trans (pub_ex s e), s.fr, fun b o h => pub_old h, s.dm⟩
theorem TabsAt.pub {B0 H0 B H : Hp} {p : Addr} {T : List Tab} (h : TabsAt K H0 B H p T) (s : Stp [] B0 H0 B H) (e : Ex B H) : Rp K (pubB B0 H0 H) (.ref p) (encTs T) := by
  obtain ⟨⟨es, h1, h2, _, _⟩, _, h6⟩ := h
  have gen : ∀ {es : List (Addr × Addr × List V)} {T : List Tab}, Paired (EntAt K H0 B H) es T → RpA K (pubB B0 H0 H) (es.map fun e => .ref e.1) (T.map encT) := by
    intro es T q
    induction q with
    | nil => exact .nil
    | cons h r ih => exact .cons (.tup (.inl ((pub_new h.ft).trans h.tu)) (.cons (.str _) (.cons (.lst ((pub_new h.fl).trans h.ls) (h.co.mono (pub_ex s e))) .nil))) ih
  exact .lst ((pub_new h6).trans h1) (gen h2)
/-- a pure question about the tables so far -/
theorem call_tabs {B H : Hp} {σ : L2.St} {H0 : Hp} {p : Addr} {T : List Tab} {ws : List Str} {pre : Pre} {b : Bool} {wv : V} {Q : Bool → Hp → Prop} (e : Ex B H) (tab : TabsAt K H0 B H p T) (h1 : σ[1]? = some (some (.ref p))) (h4 : σ[4]? = some (some wv)) (hw : Rp K B wv (.lst (ws.map D.str)))
    (hp : pre [.dat (encTs T), .dat (.lst (ws.map D.str))] [] [] (.dat (.bl b)) []) (k : ∀ H', Stp [] B H B H' → Ex B H' → Q b H') : tB (tCall (spM K pre) [] E0 (tCons (tVar 1) (tCons (tVar 4) tNil))) σ H Q := by
  refine ⟨.ref p, h1, wv, h4, H, _, [], [], _, [], hp, Ex.refl H, ⟨tab.rp e, hw.mono e, True.intro⟩, True.intro, fun v B2 H2 s2 e2 _ v2 => ?_⟩
  cases (show Rp K B2 v (.bl b) from v2)
  exact ⟨b, rfl, k H2 ⟨Ex.refl _, s2.fr, fun _ _ _ => rfl, s2.dm⟩ (e.trans s2.toEx)⟩
theorem stp_upd {B0 H0 B H : Hp} {a : Addr} {o : HO} (s : Stp [] B0 H0 B H) (h : H0 a = none) : Stp [] B0 H0 B (upd H a o) :=
  ⟨s.ex, fun b u n e => by rw [upd_ne (ne_of_none e h)]; exact s.fr b u n e, s.nb, fun b u e => by rw [upd_ne (ne_of_none e h)]; exact s.dm b u e⟩
theorem free0 {B0 H0 B H : Hp} {a : Addr} (s : Stp [] B0 H0 B H) (h : H a = none) : H0 a = none := by
  cases q : H0 a with
  | none => rfl
  | some u => obtain ⟨u', h'⟩ := s.dm a u q; rw [h] at h'; cases h'
theorem ex_upd {B H : Hp} {a : Addr} {o : HO} (e : Ex B H) (h : B a = none) : Ex B (upd H a o) := fun b u q => by rw [upd_ne (ne_of_none q h)]; exact e b u q
/-- tables.append((n, [])) -/
theorem app_tab {B0 H0 B H : Hp} {σ : L2.St} {p : Addr} {T : List Tab} {n : Str} {ss : List Sl} {te : TE} {De : Ends} (s : Stp [] B0 H0 B H) (o : Okk K [] ss [] B H σ) (tab : TabsAt K H0 B H p T) (h1 : σ[1]? = some (some (.ref p))) (he : Ev K [] ss [] te (.dat (.str n)) [])
    (hT : T.length ≤ 1000) (k : ∀ B' H', Stp [] B0 H0 B' H' → Okk K [] ss [] B' H' σ → Ex B B' → TabsAt K H0 B' H' p (T ++ [(n, [])]) → De.nx σ H') :
    tDrop (tBM K "list" rAppend (tVar 1) (tCons (tTup (tCons te (tCons (tLst tNil) tNil))) tNil)) De σ H := by
  obtain ⟨es0, hp0, _⟩ := tab.ex
  refine ⟨.ref p, h1, .inl ⟨rfl, _, .inl (.inl hp0)⟩, ?_⟩
  refine he B H σ o _ fun v B1 H1 s1 o1 v1 => ?_
  cases (show Rp K B1 v (.str n) from v1)
  have tab1 := tab.step s1
  have s01 := s.trans s1
  refine ⟨Nat.zero_le _, fun c hc => ⟨by show 2 ≤ sizeLine; decide, fun t ht => ?_⟩⟩
  obtain ⟨⟨es, h2, h3, h4, h5⟩, h6, h7⟩ := tab1
  have hct : t ≠ c := fun z => by rw [z, upd_same] at ht; cases ht
  have ht1 : H1 t = none := by rw [upd_ne hct] at ht; exact ht
  have hcp : p ≠ c := ne_of_none h2 hc
  have htp : p ≠ t := ne_of_none h2 ht1
  have hlen : es.length = T.length := Paired.length h3
  refine ⟨p, _, .ref t, rfl, rfl, (upd_ne htp).trans ((upd_ne hcp).trans h2), lt_line (by rw [List.length_map, hlen]; omega), ?_⟩
  have bc : B1 c = none := o1.ex.free hc
  have bt : B1 t = none := o1.ex.free ht1
  have fc : H0 c = none := free0 s01 hc
  have ft : H0 t = none := free0 s01 ht1
  have key : ∀ b, b ≠ p → b ≠ t → b ≠ c → upd (upd (upd H1 c (.lst [])) t (.tup [.str n, .ref c])) p (.lst ((es.map fun e => V.ref e.1) ++ [.ref t])) b = H1 b := fun b n1 n2 n3 => by rw [upd_ne n1, upd_ne n2, upd_ne n3]
  refine k B1 _ (stp_upd (stp_upd (stp_upd s01 fc) ft) h7) ⟨ex_upd (ex_upd (ex_upd o1.ex bc) bt) h6, o1.sl, True.intro⟩ s1.ex ⟨⟨es ++ [(t, c, [])], ?_, ?_, ?_, ?_⟩, h6, h7⟩
  · rw [upd_same, List.map_append]; rfl
  · refine Paired.snoc' (Paired.imp h3 fun e he b' q => q.mono (Ex.refl _) (key _ (fun z => ?_) (ne_of_none q.tu ht1) (ne_of_none q.tu hc)) (key _ (fun z => ?_) (ne_of_none q.ls ht1) (ne_of_none q.ls hc)) q.bt q.bl) ⟨?_, ?_, .nil, bt, bc, ft, fc⟩
    · have := q.tu; rw [z, h2] at this; cases this
    · exact h5 (List.mem_map.mpr ⟨e, he, z⟩)
    · show upd (upd (upd H1 c (.lst [])) t _) p _ t = _
      rw [upd_ne (Ne.symm htp), upd_same]
    · show upd (upd (upd H1 c (.lst [])) t _) p _ c = _
      rw [upd_ne (Ne.symm hcp), upd_ne (Ne.symm hct), upd_same]
  · rw [List.map_append]
    refine List.nodup_append.mpr ⟨h4, by simp, fun a ha b hb => ?_⟩
    have eb : b = c := by simpa using hb
    subst eb
    intro z
    subst z
    obtain ⟨e, he, ea⟩ := List.mem_map.mp ha
    have gen : ∀ {es : List (Addr × Addr × List V)} {T : List Tab}, Paired (EntAt K H0 B1 H1) es T → ∀ e ∈ es, ∃ t, EntAt K H0 B1 H1 e t := by
      intro es T q
      induction q with
      | nil => intro e he; cases he
      | cons h r ih => intro e he; rcases List.mem_cons.mp he with z | z
                       · subst z; exact ⟨_, h⟩
                       · exact ih e z
    obtain ⟨t', q⟩ := gen h3 e he
    have := q.ls
    rw [ea, hc] at this
    cases this
  · rw [List.map_append]
    intro z
    rcases List.mem_append.mp z with z | z
    · exact h5 z
    · exact hcp (by simpa using z)
/-- tables[-1][1].append(c) -/
theorem app_col {B0 H0 B H : Hp} {σ : L2.St} {p : Addr} {T : List Tab} {n : Str} {cols : List Col} {c : Col} {ss : List Sl} {ta : TA} {x y : D} {De : Ends} (s : Stp [] B0 H0 B H) (o : Okk K [] ss [] B H σ) (tab : TabsAt K H0 B H p (T ++ [(n, cols)])) (h1 : σ[1]? = some (some (.ref p)))
    (he : EvA K [] ss [] ta [.dat x, .dat y] []) (hc : encC c = .tup [x, y]) (hT : cols.length ≤ 1000) (k : ∀ B' H', Stp [] B0 H0 B' H' → Okk K [] ss [] B' H' σ → Ex B B' → TabsAt K H0 B' H' p (T ++ [(n, cols ++ [c])]) → De.nx σ H') :
    tDrop (tBM K "list" rAppend (tOp (rIx K) (tOp (rIx K) (tVar 1) (tUn (rU fun i => .int (-i)) (tC (.int 1)))) (tC (.int 1))) (tCons (tTup ta) tNil)) De σ H := by
  obtain ⟨es0, hp0, hE0, _, _⟩ := tab.ex
  obtain ⟨es0', e0, rfl, hE0', q0⟩ := Paired.unsnoc hE0
  refine ⟨.ref p, h1, 1, rfl, .inl ⟨p, _, -1, .ref e0.1, rfl, rfl, .inl (.inl hp0), by rw [List.map_append]; exact atI_last _ _, ?_⟩⟩
  refine .inr (.inl ⟨e0.1, _, 1, .ref e0.2.1, rfl, rfl, .inl (.inl q0.tu), atI_nat (j := 1) rfl, .inl ⟨rfl, _, .inl (.inl q0.ls)⟩, ?_⟩)
  refine he B H σ o _ fun vs B1 H1 s1 o1 v1 => ?_
  obtain ⟨v, v', rfl, r1, r2⟩ := rs2 v1
  have tab1 := tab.step s1
  have s01 := s.trans s1
  refine ⟨by show 2 ≤ sizeLine; decide, fun t ht => ?_⟩
  have hl1 : H1 e0.2.1 = some (.lst e0.2.2) := s1.toEx _ _ q0.ls
  have hne : e0.2.1 ≠ t := ne_of_none hl1 ht
  have hlen : e0.2.2.length = cols.length := by rw [q0.co.length, List.length_map]
  refine ⟨e0.2.1, e0.2.2, .ref t, rfl, rfl, (upd_ne hne).trans hl1, lt_line (by omega), ?_⟩
  have bt : B1 t = none := o1.ex.free ht
  have ft : H0 t = none := free0 s01 ht
  have bl1 : B1 e0.2.1 = none := by rw [s1.nb _ _ q0.ls]; exact q0.bl
  have hp1 : H1 p = some (.lst ((es0' ++ [e0]).map fun e => V.ref e.1)) := s1.toEx _ _ hp0
  have hpl : p ≠ e0.2.1 := fun z => by
    have := tab.ex
    obtain ⟨es2, h2, hE2, _, h5⟩ := this
    obtain ⟨es2', e2, rfl, _, q2⟩ := Paired.unsnoc hE2
    rw [hp0] at h2
    have hl : (es0' ++ [e0]).map (fun e => V.ref e.1) = (es2' ++ [e2]).map (fun e => V.ref e.1) := HO.lst.inj (Option.some.inj h2)
    rw [List.map_append, List.map_append] at hl
    have e1 : V.ref e0.1 = V.ref e2.1 := by
      have := congrArg List.getLast? hl
      simpa using this
    have e1' : e0.1 = e2.1 := V.ref.inj e1
    have t1 := q0.tu
    rw [e1', q2.tu] at t1
    have t2 : e2.2.1 = e0.2.1 := by
      have := HO.tup.inj (Option.some.inj t1)
      simpa using this
    exact h5 (by rw [List.map_append]; exact List.mem_append_right _ (by simp [t2, z]))
  have hpt : p ≠ t := ne_of_none hp1 ht
  have eB : Ex B1 (upd B1 t (.tup [v, v'])) := Ex.new bt
  have hh : ∀ b, b ≠ t → b ≠ e0.2.1 → upd (upd H1 t (.tup [v, v'])) e0.2.1 (.lst (e0.2.2 ++ [.ref t])) b = H1 b := fun b n1 n2 => by rw [upd_ne n2, upd_ne n1]
  have hB2 : ∀ b, b ≠ t → upd B1 t (.tup [v, v']) b = B1 b := fun b n1 => upd_ne n1
  obtain ⟨⟨es, h2, h3, h4, h5⟩, h6, h7⟩ := tab1
  have hes : es.map (fun e => V.ref e.1) = (es0' ++ [e0]).map (fun e => V.ref e.1) := HO.lst.inj (Option.some.inj (h2.symm.trans hp1))
  obtain ⟨es', e, rfl, hE', q⟩ := Paired.unsnoc h3
  have e1' : e.1 = e0.1 := by
    rw [List.map_append, List.map_append] at hes
    have := congrArg List.getLast? hes
    have e1 : V.ref e.1 = V.ref e0.1 := by simpa using this
    exact V.ref.inj e1
  have e2' : e.2.1 = e0.2.1 := by
    have t1 := q.tu
    rw [e1', s1.toEx _ _ q0.tu] at t1
    have := HO.tup.inj (Option.some.inj t1)
    have z : e0.2.1 = e.2.1 := by simpa using this
    exact z.symm
  have e3' : e.2.2 = e0.2.2 := by
    have t1 := q.ls
    rw [e2', hl1] at t1
    exact (HO.lst.inj (Option.some.inj t1)).symm
  have sN : Stp [] B0 H0 (upd B1 t (.tup [v, v'])) (upd (upd H1 t (.tup [v, v'])) e0.2.1 (.lst (e0.2.2 ++ [.ref t]))) := by
    have a := stp_upd (o := .lst (e0.2.2 ++ [.ref t])) (stp_upd (o := .tup [v, v']) s01 ft) q0.fl
    refine ⟨a.ex.trans eB, a.fr, fun b u hb => ?_, a.dm⟩
    rw [hB2 b (ne_of_none hb ft)]
    exact a.nb b u hb
  have eN : Ex (upd B1 t (.tup [v, v'])) (upd (upd H1 t (.tup [v, v'])) e0.2.1 (.lst (e0.2.2 ++ [.ref t]))) := fun b u hb => by
    by_cases hbt : b = t
    · subst hbt
      rw [upd_same] at hb
      rw [upd_ne (Ne.symm hne), upd_same]
      exact hb
    · rw [hB2 b hbt] at hb
      rw [hh b hbt (fun z => by rw [z, bl1] at hb; cases hb)]
      exact o1.ex b u hb
  have inE : ∀ a ∈ es', a.2.1 ≠ e0.2.1 := fun a ha z => by
    rw [List.map_append] at h4
    have := (List.nodup_append.mp h4).2.2 a.2.1 (List.mem_map.mpr ⟨a, ha, rfl⟩) e.2.1 (by simp)
    exact this (z.trans e2'.symm)
  refine k _ _ sN ⟨eN, o1.sl.mono eB, True.intro⟩ (s1.ex.trans eB) ⟨⟨es' ++ [(e.1, e.2.1, e.2.2 ++ [.ref t])], ?_, ?_, ?_, ?_⟩, ?_, h7⟩
  · rw [hh p hpt hpl, h2, List.map_append, List.map_append]; rfl
  · refine Paired.snoc' (Paired.imp hE' fun a ha b qa => qa.mono eB (hh _ (ne_of_none qa.tu ht) (fun z => ?_)) (hh _ (ne_of_none qa.ls ht) (inE a ha)) ?_ ?_) ⟨?_, ?_, ?_, ?_, ?_, q.ft, q.fl⟩
    · have := qa.tu; rw [z, hl1] at this; cases this
    · rw [hB2 _ (ne_of_none qa.tu ht)]; exact qa.bt
    · rw [hB2 _ (ne_of_none qa.ls ht)]; exact qa.bl
    · show upd (upd H1 t _) e0.2.1 _ e.1 = _
      rw [hh _ (ne_of_none q.tu ht) (fun z => by have := q.tu; rw [z, hl1] at this; cases this)]
      exact q.tu
    · show upd (upd H1 t _) e0.2.1 _ e.2.1 = _
      rw [e2', upd_same, e3']
    · rw [List.map_append]
      refine (q.co.mono eB).append (.cons ?_ .nil)
      show Rp K _ _ (encC c)
      rw [hc]
      exact .tup (.inl upd_same) (.cons (r1.mono eB) (.cons (r2.mono eB) .nil))
    · show upd B1 t _ e.1 = none
      rw [hB2 _ (ne_of_none q.tu ht)]; exact q.bt
    · show upd B1 t _ e.2.1 = none
      rw [hB2 _ (ne_of_none q.ls ht)]; exact q.bl
  · rw [List.map_append] at h4 ⊢
    exact h4
  · rw [List.map_append] at h5 ⊢
    exact h5
  · rw [hB2 p hpt]; exact h6
end SP
namespace T3
open PySem L2 DV PM SP
def topS (i : Nat) : Stmt := PySem.Challenge.pw_onlyviews_k20_views_read_and_written.main.body.getD i (.Pass ⟨0, 0, 0, 0⟩)
abbrev s_l_feed : Stmt := topS 35
abbrev N_l_feed : List Str := ["script", "index", "cell", "great", "mixed"]
theorem sc_l_feed : FnScope N_l_feed ["script", "index"] (defScope s_l_feed) := ⟨rfl, rfl, rfl, by decide +kernel, rfl, by decide +kernel, by decide +kernel⟩

abbrev s_l_take : Stmt := topS 36
abbrev N_l_take : List Str := ["feed", "size", "digit"]
theorem sc_l_take : FnScope N_l_take ["feed", "size"] (defScope s_l_take) := ⟨rfl, rfl, rfl, by decide +kernel, rfl, by decide +kernel, by decide +kernel⟩

abbrev s_l_pick : Stmt := topS 37
abbrev N_l_pick : List Str := ["feed", "options"]
theorem sc_l_pick : FnScope N_l_pick ["feed", "options"] (defScope s_l_pick) := ⟨rfl, rfl, rfl, by decide +kernel, rfl, by decide +kernel, by decide +kernel⟩

abbrev s_count_references : Stmt := topS 33
abbrev N_count_references : List Str := ["columns", "name", "target"]
theorem sc_count_references : FnScope N_count_references ["columns"] (defScope s_count_references) := ⟨rfl, rfl, rfl, by decide +kernel, rfl, by decide +kernel, by decide +kernel⟩

abbrev s_column_row : Stmt := topS 28
abbrev N_column_row : List Str := ["name", "target"]
theorem sc_column_row : FnScope N_column_row ["name", "target"] (defScope s_column_row) := ⟨rfl, rfl, rfl, by decide +kernel, rfl, by decide +kernel, by decide +kernel⟩

abbrev s_text_rows : Stmt := topS 27
abbrev N_text_rows : List Str := ["tables", "rows", "table", "columns", "name", "target"]
theorem sc_text_rows : FnScope N_text_rows ["tables"] (defScope s_text_rows) := ⟨rfl, rfl, rfl, by decide +kernel, rfl, by decide +kernel, by decide +kernel⟩

abbrev s_is_name : Stmt := topS 25
abbrev N_is_name : List Str := ["word"]
theorem sc_is_name : FnScope N_is_name ["word"] (defScope s_is_name) := ⟨rfl, rfl, rfl, by decide +kernel, rfl, by decide +kernel, by decide +kernel⟩

abbrev s_is_new_name : Stmt := topS 26
abbrev N_is_new_name : List Str := ["word", "pairs", "pair"]
theorem sc_is_new_name : FnScope N_is_new_name ["word", "pairs"] (defScope s_is_new_name) := ⟨rfl, rfl, rfl, by decide +kernel, rfl, by decide +kernel, by decide +kernel⟩

abbrev s_begins_table : Stmt := topS 30
abbrev N_begins_table : List Str := ["tables", "words"]
theorem sc_begins_table : FnScope N_begins_table ["tables", "words"] (defScope s_begins_table) := ⟨rfl, rfl, rfl, by decide +kernel, rfl, by decide +kernel, by decide +kernel⟩

abbrev s_adds_plain : Stmt := topS 31
abbrev N_adds_plain : List Str := ["tables", "words", "columns"]
theorem sc_adds_plain : FnScope N_adds_plain ["tables", "words"] (defScope s_adds_plain) := ⟨rfl, rfl, rfl, by decide +kernel, rfl, by decide +kernel, by decide +kernel⟩

abbrev s_adds_reference : Stmt := topS 32
abbrev N_adds_reference : List Str := ["tables", "words", "columns", "earlier", "pair"]
theorem sc_adds_reference : FnScope N_adds_reference ["tables", "words"] (defScope s_adds_reference) := ⟨rfl, rfl, rfl, by decide +kernel, rfl, by decide +kernel, by decide +kernel⟩

section
variable {P : Program} {w : World} {K : PySem.W.Frag} {mg : Str → Option Value} {base : Heap}
theorem ok_take {f : Addr} {fd : FuncData} (F : Fun K "_law_take" "_law_take" s_l_take f fd) (b_int : mg "int" = none) : FnOk P w K mg base CX0 1 f fd ["feed", "size"] (spM K preTake) := by
  refine ok_body F sc_l_take (fun rs Pl cs r cs' h => ?_) (fun X hX hr => ?_)
  · obtain ⟨p, s, n, rfl, _⟩ := h
    rfl
  obtain ⟨cdv, A, outer, s, H, E, rfl⟩ := hX
  have nd := sc_l_take.nd
  refine ⟨_, (pss_cons (ps_if (pt_cmpR op_gt (pe_ix ix_seq (pv 0) pe_int (fun _ _ => rfl)) pe_int (nomark _)) (pss_cons (ps_set (i := 2) nd rfl (.inl rfl) (pe_op op_modN (pe_callTy call_int1' (by rfl) b_int (by decide +kernel) (pa_cons (pe_ix ix_seq (pv 0) pe_int (fun _ _ => rfl)) pa_nil)) (pv 1)))
      (pss_cons (ps_asg (pe_op op_fdivN (pe_ix ix_seq (pv 0) pe_int (fun _ _ => rfl)) (pv 1)) (pg_sub (pv 0) pe_int set_list))
      (pss_one (ps_ret (pv 2))))) pss_nil)
      (pss_cons (ps_asg (pe_op op_modN (pe_callTy call_int1' (by rfl) b_int (by decide +kernel) (pa_cons (pe_op op_addA (pe_op op_mul (pe_ix ix_seq (pv 0) pe_int (fun _ _ => rfl)) pe_int) pe_int) pa_nil)) pe_int) (pg_sub (pv 0) pe_int set_list))
      (pss_one (ps_ret (pe_op op_modN (pe_callTy call_int1' (by rfl) b_int (by decide +kernel) (pa_cons (pe_op op_fdivN (pe_ix ix_seq (pv 0) pe_int (fun _ _ => rfl)) pe_int) pa_nil)) (pv 1)))))), ?_⟩
  intro rs Pl cs r cs' hp B0 H0 σ Dn st hP hd hn
  obtain ⟨p, ⟨g, m⟩, n, rfl, rfl, rfl, h0, h1, rfl, rfl⟩ := hp
  rw [← fdI_eq (s := (g, m)) h0] at hd
  unfold fdT fdD at hd
  simp only [] at hd
  generalize hsz : (n : Int) = size at hd st
  have h0 : 0 < size := by omega
  have h1 : size ≤ 100000 := by omega
  refine st_if (b := decide (0 < g)) st (et_test (ev_op (ev_ixM (j := 0) (m := 0) rfl ev_int rfl rfl rfl) ev_int (od_I0 fun _ => .bl _))) (fun hb H1 st1 => ?_) (fun hb H1 st1 => ?_)
  · have hg : 0 < g := of_decide_eq_true hb
    have ht : takeN g m size = (g.fmod size, g.fdiv size, m) := if_pos hg
    rw [ht] at hd
    refine st_asg (i := 2) st1 (ev_op (ev_cb (ea_cons (ev_ixM (j := 0) (m := 0) rfl ev_int rfl rfl rfl) ea_nil) cb_int) (ev_var rfl) (od_I (by omega) fun _ => .int _)) (fun σ2 H2 st2 => ?_)
    refine st_setL (j := 0) (m := 0) st2 rfl (ev_op (ev_ixM (j := 0) (m := 0) rfl ev_int rfl rfl rfl) (ev_var rfl) (od_I (d := .int _) ⟨by omega, by omega⟩ fun _ => .int _)) ev_int rfl rfl (by first | exact Nat.succ_pos 1 | exact Nat.lt_succ_self 1) (fun H3 st3 => ?_)
    exact st_ret st3 (ev_var rfl) hd
  · have hg : ¬ 0 < g := of_decide_eq_false hb
    have ht : takeN g m size = (((m * 742938285 + 1013904223).fmod 2305843009213693951).fdiv 16777216 |>.fmod size, g, (m * 742938285 + 1013904223).fmod 2305843009213693951) := if_neg hg
    rw [ht] at hd
    refine st_setL (j := 0) (m := 1) st1 rfl (ev_op (ev_cb (ea_cons (ev_op (ev_op (ev_ixM (j := 0) (m := 1) rfl ev_int rfl rfl rfl) ev_int (od_mulI (.inr (by decide)))) ev_int od_addI) ea_nil) cb_int) ev_int (od_I (d := .int _) (by decide) fun _ => .int _)) ev_int rfl rfl (by first | exact Nat.succ_pos 1 | exact Nat.lt_succ_self 1) (fun H3 st3 => ?_)
    exact st_ret st3 (ev_op (ev_cb (ea_cons (ev_op (ev_ixM (j := 0) (m := 1) rfl ev_int rfl rfl rfl) ev_int (od_I (d := .int _) ⟨by decide, by decide⟩ fun _ => .int _)) ea_nil) cb_int) (ev_var rfl) (od_I (by omega) fun _ => .int _)) hd
theorem ok_pick {f fT : Addr} {fd fdT : FuncData} (F : Fun K "_law_pick" "_law_pick" s_l_pick f fd) (G_l_take : Def P w K mg base 1 "_law_take" fT fdT ["feed", "size"] (spM K preTake)) (b_len : mg "len" = none) :
    FnOk P w K mg base CX0 2 f fd ["feed", "options"] (spM K prePick) := by
  refine ok_body F sc_l_pick (fun rs Pl cs r cs' h => ?_) (fun X hX hr => ?_)
  · obtain ⟨p, s, ds, d, rfl, _⟩ := h
    rfl
  obtain ⟨cdv, A, outer, s, H, E, rfl⟩ := hX
  have nd := sc_l_pick.nd
  refine ⟨_, (pss_one (ps_ret (pe_ix ix_seq (pv 1) (pe_def G_l_take hr (by decide) (by rfl) (pa_cons (pv 0) (pa_cons (pe_callB call_len1 (by rfl) b_len PySem.boot_len (pa_cons (pv 1) pa_nil)) pa_nil))) (fun _ _ => rfl)))), ?_⟩
  intro rs Pl cs r cs' hp B0 H0 σ Dn st hP hd hn
  obtain ⟨p, s, ds, d, rfl, rfl, rfl, h0, h1, h2, rfl, rfl⟩ := hp
  exact st_ret st (ev_op (ev_var (r := .dat (.lst ds)) rfl) (ev_call1 (j := 0) (ea_cons (ev_var rfl) (ea_cons (ev_cb (ea_cons (ev_var rfl) ea_nil) cb_lenL) ea_nil)) rfl rfl ⟨p, s, ds.length, rfl, rfl, rfl, h0, h1, rfl, rfl⟩) (od_ixL (atI_nat h2))) hd
theorem ok_feed {f : Addr} {fd : FuncData} (F : Fun K "_law_feed" "_law_feed" s_l_feed f fd) (b_len : mg "len" = none) (b_abs : mg "abs" = none) (b_max : mg "max" = none) (b_int : mg "int" = none) :
    FnOk P w K mg base CX0 1 f fd ["script", "index"] (spM K preFeed) := by
  refine ok_body F sc_l_feed (fun rs Pl cs r cs' h => ?_) (fun X hX hr => ?_)
  · obtain ⟨ns, i, s, rfl, _⟩ := h
    rfl
  obtain ⟨cdv, A, outer, s, H, E, rfl⟩ := hX
  have nd := sc_l_feed.nd
  refine ⟨_, (pss_cons (ps_set (i := 2) nd rfl (.inl rfl) (pe_ifExp (pt_cmpR op_lt (pv 1) (pe_callB call_len1 (by rfl) b_len PySem.boot_len (pa_cons (pv 0) pa_nil)) (nomark _)) (pe_ix ix_seq (pv 0) (pv 1) (fun _ _ => rfl)) (pe_op op_addA (pe_op op_mul pe_int (pv 1)) pe_int)))
      (pss_cons (ps_set (i := 3) nd rfl (.inl rfl) (pe_op op_sub (pe_callB call_abs1 (by rfl) b_abs (by decide +kernel) (pa_cons (pv 2) pa_nil)) (pe_op op_pow pe_int pe_int)))
      (pss_cons (ps_set (i := 4) nd rfl (.inl rfl) (pe_op op_modN (pe_callTy call_int1' (by rfl) b_int (by decide +kernel) (pa_cons (pe_op op_addA (pe_op op_mul (pv 2) pe_int) (pe_op op_mul pe_int (pe_op op_addA (pv 1) pe_int))) pa_nil)) pe_int))
      (pss_one (ps_ret (pe_lst (pa_cons (pe_callB (call_max2' rfl) (by rfl) b_max (by decide +kernel) (pa_cons pe_int (pa_cons (pv 3) pa_nil))) (pa_cons (pv 4) pa_nil)))))))), ?_⟩
  intro rs Pl cs r cs' hp B0 H0 σ Dn st hP hd hn
  obtain ⟨ns, i, s, rfl, hl, hi, rfl, rfl, rfl, rfl, hs⟩ := hp
  unfold preFeed.feedOf at hs
  generalize hcell : (if i < ns.length then ns.getD i 0 else 59 * (i : Int) + 23) = cell at hs
  refine st_asg (i := 2) (cs1 := []) (r := .dat (.int cell)) st (ev_if (b := decide ((i : Int) < ((ns.map D.int).length : Int))) (et_test (ev_op (ev_var rfl) (ev_cb (ea_cons (ev_var rfl) ea_nil) cb_lenF) (od_I0 fun _ => .bl _))) (fun hb => ?_) (fun hb => ?_)) (fun σ1 H1 st1 => ?_)
  · have hlt : i < ns.length := by
      have := of_decide_eq_true hb
      rw [List.length_map] at this
      omega
    rw [if_pos hlt] at hcell
    refine ev_op (ev_var rfl) (ev_var rfl) (od_ixF (atI_nat ?_))
    rw [List.getElem?_map, List.getElem?_eq_getElem hlt, ← hcell, List.getD_eq_getElem?_getD, List.getElem?_eq_getElem hlt]
    rfl
  · have hlt : ¬ i < ns.length := by
      have := of_decide_eq_false hb
      rw [List.length_map] at this
      omega
    rw [if_neg hlt] at hcell
    exact hcell ▸ ev_op (ev_op ev_int (ev_var rfl) (od_mulI (.inl (by decide)))) ev_int od_addI
  refine st_asg (i := 3) st1 (ev_op (ev_cb (ea_cons (ev_var rfl) ea_nil) cb_abs) (ev_op ev_int ev_int (od_I (d := .int _) ⟨by decide, by decide, by decide⟩ fun _ => .int _)) od_subI) (fun σ2 H2 st2 => ?_)
  refine st_asg (i := 4) st2 (ev_op (ev_cb (ea_cons (ev_op (ev_op (ev_var rfl) ev_int (od_mulI (.inr (by decide)))) (ev_op ev_int (ev_op (ev_var rfl) ev_int od_addI) (od_mulI (.inl (by decide)))) od_addI) ea_nil) cb_int) ev_int (od_I (d := .int _) (by decide) fun _ => .int _)) (fun σ3 H3 st3 => ?_)
  refine st_ret st3 (ev_lst (ds := [_, _]) (ea_cons (ev_cb (ea_cons ev_int (ea_cons (ev_var rfl) ea_nil)) cb_max2) (ea_cons (ev_var rfl) ea_nil)) (by simp)) ?_
  rw [hs] at hd
  exact hd
/-! the program -/
theorem ok_count {f : Addr} {fd : FuncData} (F : Fun K "count_references" "count_references" s_count_references f fd) (b_len : mg "len" = none) : FnOk P w K mg base CX0 1 f fd ["columns"] (spM K preCount) := by
  refine ok_body F sc_count_references (fun rs Pl cs r cs' h => ?_) (fun X hX hr => ?_)
  · obtain ⟨cols, rfl, _⟩ := h
    rfl
  obtain ⟨cdv, A, outer, s, H, E, rfl⟩ := hX
  have nd := sc_count_references.nd
  refine ⟨_, (pss_one (ps_ret (pe_callB call_len1 (by rfl) b_len PySem.boot_len (pa_cons (pe_lc (own := [("name", 1), ("target", 2)]) (g := (gTup K 2 (gCons (gName 1) (gCons (gName 2) gNil)))) (tt := (tTest (tOp rNotN (tVar 2) (tC .non)))) (te := (tVar 1)) rfl nd (pi_list (pv 0)) (blkOk_by (N := N_count_references) (sc := defScope s_count_references) (by decide +kernel)) (by intro _ _ _ _ _; exact (pg_tup (by rfl) (by exact (pgs_cons (by exact (pg_name (i := 1) nd (by rfl) (by first | exact .inl rfl | exact .inr rfl))) (by exact (pgs_cons (by exact (pg_name (i := 2) nd (by rfl) (by first | exact .inl rfl | exact .inr rfl))) (by exact pgs_nil))))))) (by intro _ _ _ _ _; exact (pts_one (pt_cmpR op_notN' (pv 2) pe_non (nomark _)))) (by intro _ _ _ _ _; exact (pv 1))) pa_nil)))), ?_⟩
  intro rs Pl cs r cs' hp B0 H0 σ Dn st hP hd hn
  obtain ⟨cols, rfl, hl, rfl, rfl, rfl, rfl⟩ := hp
  have e : (((cols.map encC).filter fun d => match d with | .tup [_, y] => !y.isN | _ => false).map fun d => match d with | .tup (x :: _) => x | _ => .non).length = refsN cols := by
    rw [List.length_map, List.filter_map, List.length_map]
    unfold refsN
    congr 1
    apply List.filter_congr
    intro c _
    obtain ⟨n, t⟩ := c
    cases t <;> rfl
  rw [← e] at hd
  refine st_ret st (ev_cb (ea_cons (EvF.ev (ef_filter (wd_lst (ev_var rfl)) _ _ (by rw [List.length_map]; omega) (fun p i d acc hd' => ?_))) ea_nil) cb_lenL) hd
  obtain ⟨⟨n, t⟩, _, rfl⟩ := map_get hd'
  cases t with
  | none => exact ⟨_, _, g_tup (g_cons g_name (g_cons g_name g_nil)), by decide, et_test (ev_op (ev_var rfl) ev_non od_notN), fun _ => ev_var rfl⟩
  | some t => exact ⟨_, _, g_tup (g_cons g_name (g_cons g_name g_nil)), by decide, et_test (ev_op (ev_var rfl) ev_non od_notN), fun _ => ev_var rfl⟩
theorem ok_col {f : Addr} {fd : FuncData} (F : Fun K "column_row" "column_row" s_column_row f fd) : FnOk P w K mg base CX0 1 f fd ["name", "target"] (spM K preColRow) := by
  refine ok_body F sc_column_row (fun rs Pl cs r cs' h => ?_) (fun X hX hr => ?_)
  · obtain ⟨c, d, rfl, _⟩ := h
    rfl
  obtain ⟨cdv, A, outer, s, H, E, rfl⟩ := hX
  have nd := sc_column_row.nd
  refine ⟨_, (pss_one (ps_ret (pe_ifExp (pt_cmpR op_isN' (pv 1) pe_non (nomark _)) (pe_joined (PJ.cons pe_str (PJ.cons (pe_fmt (pv 0)) PJ.nil))) (pe_joined (PJ.cons pe_str (PJ.cons (pe_fmt (pv 0)) (PJ.cons pe_str (PJ.cons (pe_fmt (pv 1)) PJ.nil)))))))), ?_⟩
  intro rs Pl cs r cs' hp B0 H0 σ Dn st hP hd hn
  obtain ⟨⟨n, t⟩, d, rfl, rfl, hc, rfl, rfl, rfl, rfl⟩ := hp
  have hn8 : n.length ≤ 8 := hc.1.2.2.1
  have l0 : (Str.empty).length = 0 := rfl
  have l1 : ("  plain " : Str).length = 8 := by decide +kernel
  have l2 : ("  ref " : Str).length = 6 := by decide +kernel
  have l3 : (" " : Str).length = 1 := by decide +kernel
  cases t with
  | none =>
    rw [← row_plain] at hd
    exact st_ret st (ev_if (b := true) (et_test (ev_op (ev_var rfl) ev_non od_isN)) (fun _ => ev_joined (ej_cons ev_str (by simp only [len_app]; omega) (ej_cons (ev_fmt (y := n) (ev_var rfl) (by omega)) (by simp only [len_app]; omega) ej_nil))) (fun z => by cases z)) hd
  | some t =>
    have ht8 : t.length ≤ 8 := (hc.2 t rfl).2.2.1
    rw [← row_ref] at hd
    exact st_ret st (ev_if (b := false) (et_test (ev_op (ev_var rfl) ev_non od_isN)) (fun z => by cases z) (fun _ => ev_joined (ej_cons ev_str (by simp only [len_app]; omega) (ej_cons (ev_fmt (y := n) (ev_var rfl) (by omega)) (by simp only [len_app]; omega) (ej_cons ev_str (by simp only [len_app]; omega) (ej_cons (ev_fmt (y := t) (ev_var rfl) (by omega)) (by simp only [len_app]; omega) ej_nil)))))) hd
theorem words_snoc (T : List Tab) (i : Nat) (t : Tab) (h : T[i]? = some t) : rowsOf (T.take (i + 1)) = rowsOf (T.take i) ++ [rowOf ["table", t.1]] ++ t.2.map (fun c => rowOf (colWords c)) := by
  unfold rowsOf words
  rw [List.take_add_one, h, List.flatMap_append, List.map_append]
  have : [t].flatMap tabWords = tabWords t := by simp
  rw [show (some t).toList = [t] from rfl, this]
  unfold tabWords
  rw [List.map_cons, List.map_map, List.append_assoc]
  rfl
theorem rows_len {T : List Tab} (h : tabsOk T) : ∀ i, (rowsOf (T.take i)).length ≤ 5 * i := by
  intro i
  induction i with
  | zero => simp [rowsOf, words]
  | succ i ih =>
    by_cases hi : i < T.length
    · rw [words_snoc T i _ (List.getElem?_eq_getElem hi)]
      simp only [List.length_append, List.length_map, List.length_cons, List.length_nil]
      have := (h.2 _ (List.getElem_mem hi)).2.1
      omega
    · have e : T.take (i + 1) = T.take i := by rw [List.take_of_length_le (by omega), List.take_of_length_le (by omega)]
      rw [e]; omega
theorem ok_rows {f fC : Addr} {fd fdC : FuncData} (F : Fun K "text_rows" "text_rows" s_text_rows f fd) (G_column_row : Def P w K mg base 1 "column_row" fC fdC ["name", "target"] (spM K preColRow)) : FnOk P w K mg base CX0 2 f fd ["tables"] (spM K preRows) := by
  refine ok_body F sc_text_rows (fun rs Pl cs r cs' h => ?_) (fun X hX hr => ?_)
  · obtain ⟨T, rfl, _⟩ := h
    rfl
  obtain ⟨cdv, A, outer, s, H, E, rfl⟩ := hX
  have nd := sc_text_rows.nd
  refine ⟨_, (pss_cons (ps_set (i := 1) nd rfl (.inl rfl) (pe_lst pa_nil))
      (pss_cons (ps_for PassesOwn.never rfl (pi_list (pv 0)) (pg_tup (by rfl) (by exact (pgs_cons (by exact (pg_name (i := 2) nd (by rfl) (by first | exact .inl rfl | exact .inr rfl))) (by exact (pgs_cons (by exact (pg_name (i := 3) nd (by rfl) (by first | exact .inl rfl | exact .inr rfl))) (by exact pgs_nil)))))) (pss_cons (ps_expr (pe_bm PySem.F.plainAttrs_list PySem.F.slot_list_append PySem.F.type_list_append mt_append (pv 1) (pa_cons (pe_joined (PJ.cons pe_str (PJ.cons (pe_fmt (pv 2)) PJ.nil))) pa_nil)))
      (pss_one (ps_expr (pe_bm PySem.F.plainAttrs_list PySem.F.slot_list_extend PySem.F.type_list_extend mt_extend (pv 1) (pa_cons (pe_lc (own := [("name", 4), ("target", 5)]) (g := (gTup K 2 (gCons (gName 4) (gCons (gName 5) gNil)))) (tt := tYes) (te := (tCall _ [] E0 (tCons (tVar 4) (tCons (tVar 5) tNil)))) rfl nd (pi_list (pv 3)) (blkOk_by (N := N_text_rows) (sc := defScope s_text_rows) (by decide +kernel)) (by intro _ _ _ _ _; exact (pg_tup (by rfl) (by exact (pgs_cons (by exact (pg_name (i := 4) nd (by rfl) (by first | exact .inl rfl | exact .inr rfl))) (by exact (pgs_cons (by exact (pg_name (i := 5) nd (by rfl) (by first | exact .inl rfl | exact .inr rfl))) (by exact pgs_nil))))))) (by intro _ _ _ _ _; exact pts_nil) (by intro _ _ _ _ _; exact (pe_def G_column_row hr (by decide) (by rfl) (pa_cons (pv 4) (pa_cons (pv 5) pa_nil))))) pa_nil))))))
      (pss_one (ps_ret (pv 1))))), ?_⟩
  intro rs Pl cs r cs' hp B0 H0 σ Dn st hP hd hn
  obtain ⟨T, rfl, hT, rfl, rfl, rfl, rfl⟩ := hp
  refine st_new (i := 1) st (fun p σ1 H1 hp0 hpn st1 => ?_)
  refine st_for (α := Unit) st1 (wd_lst (ev_var rfl)) (fun _ _ => True) (fun _ _ => [.dat (encTs T), .val (.ref p), .any, .any, .any, .any]) (fun i _ => [(rowsOf (T.take i)).map D.str]) () True.intro ⟨.rfl _, .rfl _, .any _, .any _, .any _, .any _, True.intro⟩ rfl ?_ ?_
  · intro B1 H1' s1 i d z hd' _
    obtain ⟨t, ht, rfl⟩ := map_get hd'
    obtain ⟨hw, hc4, hcs⟩ := hT.2 t (List.mem_of_getElem? ht)
    have hi : i < T.length := (List.getElem?_eq_some_iff.mp ht).1
    have hrl := rows_len hT i
    have h3 := hT.1
    have l0 : (Str.empty).length = 0 := rfl
    have l1 : ("table " : Str).length = 6 := by decide +kernel
    have hn8 : t.1.length ≤ 8 := hw.2.2.1
    refine ⟨_, _, g_tup (g_cons g_name (g_cons g_name g_nil)), fun σ2 H2 st2 => ?_⟩
    refine st_app (j := 0) (cs1 := [(rowsOf (T.take i)).map D.str]) (ds := (rowsOf (T.take i)).map D.str) (d := .str (rowOf ["table", t.1])) st2 rfl ?_ rfl ⟨_, rfl⟩ rfl (by rw [List.length_map]; omega) (fun H3 st3 => ?_)
    · rw [← row_table]
      exact ev_joined (ej_cons ev_str (by simp only [len_app]; omega) (ej_cons (ev_fmt (ev_var rfl) (by omega)) (by simp only [len_app]; omega) ej_nil))
    refine st_ext (j := 0) (ds := (rowsOf (T.take i)).map D.str ++ [D.str (rowOf ["table", t.1])]) (es := (t.2.map encC).map fun d => match d with | .tup [.str n, .non] => .str (rowOf (colWords (n, none))) | .tup [.str n, .str t] => .str (rowOf (colWords (n, some t))) | _ => .non) st3 rfl (EvF.ev (ef_map (wd_lst (ev_var rfl)) _ (by rw [List.length_map]; omega) (fun p' i' d' acc hd2 => ?_))) rfl ⟨_, rfl⟩ rfl (by
      simp only [List.length_append, List.length_map, List.length_cons, List.length_nil]; omega) (fun H4 st4 => ⟨(), True.intro, ?_⟩)
    · obtain ⟨⟨n, t'⟩, hm, rfl⟩ := map_get hd2
      have hco := hcs _ (List.mem_of_getElem? hm)
      cases t' with
      | none => exact ⟨_, _, g_tup (g_cons g_name (g_cons g_name g_nil)), by decide, ev_call0 (ea_cons (ev_var rfl) (ea_cons (ev_var rfl) ea_nil)) ⟨(n, none), .non, rfl, rfl, hco, rfl, rfl, rfl, rfl⟩⟩
      | some t' => exact ⟨_, _, g_tup (g_cons g_name (g_cons g_name g_nil)), by decide, ev_call0 (ea_cons (ev_var rfl) (ea_cons (ev_var rfl) ea_nil)) ⟨(n, some t'), .str t', rfl, rfl, hco, rfl, rfl, rfl, rfl⟩⟩
    · have e : ((rowsOf (T.take i)).map D.str ++ [D.str (rowOf ["table", t.1])]) ++ ((t.2.map encC).map fun d => match d with | .tup [.str n, .non] => .str (rowOf (colWords (n, none))) | .tup [.str n, .str t] => .str (rowOf (colWords (n, some t))) | _ => .non) = (rowsOf (T.take (i + 1))).map D.str := by
        rw [words_snoc T i t ht, List.map_append, List.map_append, List.map_map, List.map_map]
        congr 1
        apply List.map_congr_left
        intro c _
        obtain ⟨n, t'⟩ := c
        cases t' <;> rfl
      show Sta K [p] B1 H1' [.dat (encTs T), .val (.ref p), .any, .any, .any, .any] [(rowsOf (T.take (i + 1))).map D.str] σ2 H4
      rw [← e]
      exact st4.le ⟨.rfl _, .rfl _, .any _, .any _, .rfl _, .rfl _, True.intro⟩
  · intro z σ2 H2 _ st2
    have st3 := Sta.pub (i := 1) st2 hp0 rfl
    rw [List.length_map, List.take_length] at st3
    exact st_ret st3 (ev_var rfl) hd
theorem ok_is_name {f : Addr} {fd : FuncData} (F : Fun K "is_name" "is_name" s_is_name f fd) (b_len : mg "len" = none) (g_MOST_LETTERS : ∃ t, mg "MOST_LETTERS" = some (.int 8 t)) : FnOk P w K mg base CX0 1 f fd ["word"] (spM K preIsName) := by
  obtain ⟨tk, g_MOST_LETTERS⟩ := g_MOST_LETTERS
  refine ok_body F sc_is_name (fun rs Pl cs r cs' h => ?_) (fun X hX hr => ?_)
  · obtain ⟨w, rfl, _⟩ := h
    rfl
  obtain ⟨cdv, A, outer, s, H, E, rfl⟩ := hX
  have nd := sc_is_name.nd
  refine ⟨_, (pss_one (ps_ret (pe_and (pe_cmpR op_le (pe_callB call_len1 (by rfl) b_len PySem.boot_len (pa_cons (pv 0) pa_nil)) (pe_glob (v := .int (8)) rfl g_MOST_LETTERS ⟨_, rfl⟩) (nomark _)) (pe_and (pe_m0 PySem.F.slot_str_isascii PySem.F.type_str_isascii mt_isascii (pv 0)) (pe_and (pe_m0 PySem.F.slot_str_isalpha PySem.F.type_str_isalpha mt_isalpha (pv 0)) (pe_one (pe_m0 PySem.F.slot_str_islower PySem.F.type_str_islower mt_islower (pv 0)))))))), ?_⟩
  intro rs Pl cs r cs' hp B0 H0 σ Dn st hP hd hn
  obtain ⟨w, rfl, hl, rfl, rfl, rfl, rfl⟩ := hp
  refine st_ret st (ev_andV (ev_op (ev_cb (ea_cons (ev_var rfl) ea_nil) (cb_lenS hl)) ev_int (od_I0 fun _ => .bl _)) (fun _ => ev_andV (ev_m0 (ev_var rfl) (fun H Q q => ⟨w, rfl, rfl, True.intro, q _ (.bl _)⟩))
    (fun _ => ev_andV (ev_m0 (ev_var rfl) (fun H Q q => ⟨w, rfl, rfl, True.intro, q _ (.bl _)⟩)) (fun _ => ev_m0 (ev_var rfl) (fun H Q q => ⟨w, rfl, rfl, True.intro, q _ (.bl _)⟩))))) hd
theorem ok_is_new {f fN : Addr} {fd fdN : FuncData} (F : Fun K "is_new_name" "is_new_name" s_is_new_name f fd) (G_is_name : Def P w K mg base 1 "is_name" fN fdN ["word"] (spM K preIsName)) : FnOk P w K mg base CX0 2 f fd ["word", "pairs"] (spM K preIsNew) := by
  refine ok_body F sc_is_new_name (fun rs Pl cs r cs' h => ?_) (fun X hX hr => ?_)
  · obtain ⟨w, ds, ns, rfl, _⟩ := h
    rfl
  obtain ⟨cdv, A, outer, s, H, E, rfl⟩ := hX
  have nd := sc_is_new_name.nd
  refine ⟨_, (pss_one (ps_ret (pe_and (pe_def G_is_name hr (by decide) (by rfl) (pa_cons (pv 0) pa_nil)) (pe_one (pe_cmpR op_notIn_seq (pv 0) (pe_lc (own := [("pair", 2)]) (g := (gName 2)) (tt := tYes) (te := (tOp (rIx K) (tVar 2) (tC (.int 0)))) rfl nd (pi_list (pv 1)) (blkOk_by (N := N_is_new_name) (sc := defScope s_is_new_name) (by decide +kernel)) (by intro _ _ _ _ _; exact (pg_name (i := 2) nd (by rfl) (by first | exact .inl rfl | exact .inr rfl))) (by intro _ _ _ _ _; exact pts_nil) (by intro _ _ _ _ _; exact (pe_ix ix_seq (pv 2) pe_int (fun _ _ => rfl)))) (by rfl)))))), ?_⟩
  intro rs Pl cs r cs' hp B0 H0 σ Dn st hP hd hn
  obtain ⟨w, ds, ns, rfl, hl, hdl, hm, ht, rfl, rfl, rfl, rfl⟩ := hp
  refine st_ret st (ev_andV (ev_call0 (ea_cons (ev_var rfl) ea_nil) ⟨w, rfl, hl, rfl, rfl, rfl, rfl⟩) (fun _ => ev_op (ev_var rfl) (hm ▸ EvF.ev (ef_map (wd_lst (ev_var rfl)) fstD (by omega) (fun p i d acc hd' => ?_))) od_niS)) hd
  have hi := ht d (List.mem_of_getElem? hd')
  match d, hi with
  | .tup (x :: r), _ => exact ⟨_, _, g_name, by decide, ev_op (ev_var rfl) ev_int (od_ixT (atI_nat (j := 0) rfl))⟩
theorem strs_get {ws : List Str} {j : Nat} {x : Str} (h : ws[j]? = some x) : (ws.map D.str)[j]? = some (.str x) := by rw [List.getElem?_map, h]; rfl
theorem ok_begins {f fN : Addr} {fd fdN : FuncData} (F : Fun K "begins_table" "begins_table" s_begins_table f fd) (G_is_new_name : Def P w K mg base 2 "is_new_name" fN fdN ["word", "pairs"] (spM K preIsNew)) (b_len : mg "len" = none)
    (g_MOST_TABLES : ∃ t, mg "MOST_TABLES" = some (.int 3 t)) : FnOk P w K mg base CX0 3 f fd ["tables", "words"] (spM K preBegins) := by
  obtain ⟨tk, g_MOST_TABLES⟩ := g_MOST_TABLES
  refine ok_body F sc_begins_table (fun rs Pl cs r cs' h => ?_) (fun X hX hr => ?_)
  · obtain ⟨T, ws, rfl, _⟩ := h
    rfl
  obtain ⟨cdv, A, outer, s, H, E, rfl⟩ := hX
  have nd := sc_begins_table.nd
  refine ⟨_, (pss_cons (ps_if (PW.pt (pw_or (pt_cmpR (op_neA hr.units) (pe_callB call_len1 (by rfl) b_len PySem.boot_len (pa_cons (pv 1) pa_nil)) pe_int (nomark _)) (pw_or1 (pt_cmpR (op_neA hr.units) (pe_ix ix_seq (pv 1) pe_int (fun _ _ => rfl)) pe_str (nomark _))))) (pss_one (ps_ret pe_bl)) pss_nil)
      (pss_one (ps_ret (pe_and (pe_cmpR op_lt (pe_callB call_len1 (by rfl) b_len PySem.boot_len (pa_cons (pv 0) pa_nil)) (pe_glob (v := .int (3)) rfl g_MOST_TABLES ⟨_, rfl⟩) (nomark _)) (pe_one (pe_def G_is_new_name hr (by decide) (by rfl) (pa_cons (pe_ix ix_seq (pv 1) pe_int (fun _ _ => rfl)) (pa_cons (pv 0) pa_nil)))))))), ?_⟩
  intro rs Pl cs r cs' hp B0 H0 σ Dn st hP hd hn
  obtain ⟨T, ws, rfl, hT, hws, rfl, rfl, rfl, rfl⟩ := hp
  have hlen : decide (((ws.map D.str).length : Int) = 2) = decide (ws.length = 2) := by
    rw [List.length_map, Bool.eq_iff_iff]
    simp only [decide_eq_true_eq]
    omega
  by_cases h2 : ws.length = 2
  · obtain ⟨a, b, rfl⟩ : ∃ a b, ws = [a, b] := by
      match ws, h2 with
      | [a, b], _ => exact ⟨a, b, rfl⟩
    have e : (!decide ((([a, b] : List Str).map D.str).length = (2 : Int))) = false := by rfl
    have hb := hws.2 b (by simp)
    refine st_if (b := !decide (a = "table")) st (EvT.eq (et_or (et_test (ev_op (ev_cb (ea_cons (ev_var rfl) ea_nil) cb_lenL) ev_int od_neI)) (fun _ => et_test (ev_op (ev_op (ev_var rfl) ev_int (od_ixL (atI_nat (j := 0) rfl))) ev_str od_neS))) rfl) (fun hb' H1 st1 => ?_) (fun hb' H1 st1 => ?_)
    · have hne : beginsT T [a, b] = false := by
        have : decide (a = ("table" : Str)) = false := by simpa using hb'
        unfold beginsT
        simp only [this, Bool.false_and]
      rw [hne] at hd
      exact st_ret st1 ev_bl hd
    · have he : beginsT T [a, b] = (decide ((T.length : Int) < 3) && isNew b (T.map Prod.fst)) := by
        have : decide (a = ("table" : Str)) = true := by simpa using hb'
        unfold beginsT
        simp only [this, Bool.true_and]
      rw [he] at hd
      have hl : ((T.map encT).length : Int) = (T.length : Int) := by rw [List.length_map]
      refine st_ret st1 (ev_andV (a := decide ((T.length : Int) < 3)) (Ev.eq (ev_op (ev_cb (ea_cons (ev_var rfl) ea_nil) cb_lenL) ev_int (od_I0 fun _ => .bl _)) (by rw [List.length_map])) (fun _ => ?_)) hd
      exact ev_call0 (ea_cons (ev_op (ev_var rfl) ev_int (od_ixL (atI_nat (j := 1) rfl))) (ea_cons (ev_var rfl) ea_nil)) ⟨b, T.map encT, T.map Prod.fst, rfl, hb.1, by rw [List.length_map]; exact hT, fst_encT T, tup_encT T, rfl, rfl, rfl, rfl⟩
  · have hne : beginsT T ws = false := by
      unfold beginsT
      match ws, h2 with
      | [], _ => rfl
      | [_], _ => rfl
      | _ :: _ :: _ :: _, _ => rfl
    rw [hne] at hd
    refine st_if (b := true) st (EvT.eq (et_or (b := true) (et_test (ev_op (ev_cb (ea_cons (ev_var rfl) ea_nil) cb_lenL) ev_int od_neI)) (fun z => ?_)) ?_) (fun hb' H1 st1 => st_ret st1 ev_bl hd) (fun z => by cases z)
    · rw [hlen, decide_eq_false h2] at z
      cases z
    · rw [hlen, decide_eq_false h2]
      rfl
/-- the words ahead: ws[:3] == [x, y, z] -/
theorem cut3 (ws : List Str) : cutD (ws.map D.str) none (some 3) = (ws.take 3).map D.str := by
  unfold cutD
  rw [HT.sIx_none, show HT.sIx (ws.map D.str).length (ws.map D.str).length (some 3) = min 3 (ws.map D.str).length from HT.sIx_nat _ _ 3]
  rw [List.drop_zero, Nat.sub_zero, ← List.map_take]
  rw [List.length_map]
  congr 1
  by_cases h : 3 ≤ ws.length
  · rw [Nat.min_eq_left h]
  · rw [Nat.min_eq_right (by omega), List.take_of_length_le (by omega), List.take_of_length_le (by omega)]
theorem sh_strs {l : List Str} (h : ∀ w ∈ l, PyData.strOk w = true) : D.sh 1 (.lst (l.map D.str)) = true := D.shA_all fun d hd => by
  obtain ⟨x, hx, rfl⟩ := List.mem_map.mp hd
  exact h x hx
theorem nb_strs (l : List Str) : D.nb (.lst (l.map D.str)) = true := D.nbA_all fun d hd => by
  obtain ⟨x, hx, rfl⟩ := List.mem_map.mp hd
  rfl
theorem strs_inj {l m : List Str} : D.lst (l.map D.str) = D.lst (m.map D.str) ↔ l = m := by
  constructor
  · intro h
    have h' : l.map D.str = m.map D.str := D.lst.inj h
    exact List.map_inj_right (fun a b e => D.str.inj e) |>.mp h'
  · intro h; rw [h]
theorem et_take3 {Pl : List Addr} {ss : List Sl} {cs : List (List D)} {ws : List Str} {x y z : Str} {i : Nat} (hi : ss[i]? = some (.dat (.lst (ws.map D.str)))) (hws : wordsIn ws) (hx : PyData.strOk x = true) (hy : PyData.strOk y = true) (hz : PyData.strOk z = true) :
    EvT K Pl ss cs (tTest (tOp (neA K) (tSl (rSl3 K) (tVar i) tNoPart (tPart (tC (.int 3)))) (tLst (tCons (tC (.str x)) (tCons (tC (.str y)) (tCons (tC (.str z)) tNil)))))) (!decide (ws.take 3 = [x, y, z])) cs := by
  refine et_test (ev_op (r1 := .dat (.lst ((ws.take 3).map D.str))) (r2 := .dat (.lst (([x, y, z] : List Str).map D.str))) (cut3 ws ▸ ev_sl (ev_var hi) eo_none (eo_some ev_int) sd_L) (ev_lst (ds := [.str x, .str y, .str z]) (ea_cons ev_str (ea_cons ev_str (ea_cons ev_str ea_nil))) (by simp)) (od_r (od_ne 1 1 (sh_strs fun w hw => (hws.2 w (List.mem_of_mem_take hw)).2) (sh_strs ?_) (nb_strs _) (nb_strs _) ?_)))
  · intro w hw
    simp only [List.mem_cons, List.not_mem_nil, or_false] at hw
    rcases hw with rfl | rfl | rfl <;> assumption
  · rw [decide_eq_true_eq]
    exact strs_inj.symm
theorem lastD (T : List Tab) (t : Tab) : atI ((T ++ [t]).map encT) (-1) = some (encT t) := by
  rw [List.map_append]
  exact atI_last _ _
theorem addsP_take {T : List Tab} {t : Tab} {ws : List Str} (h : addsP (T ++ [t]) ws = true) : ws.length = 4 ∧ ws.take 3 = (["", "", "plain"] : List Str) := by
  unfold addsP at h
  rw [last_snoc] at h
  match ws, h with
  | [a, b, c, d], h =>
    simp only [Bool.and_eq_true, decide_eq_true_eq] at h
    exact ⟨rfl, h.1⟩
theorem isNewT {ws : List Str} {j : Nat} {d : Str} (h : ws[j]? = some d) (hws : wordsIn ws) : d.length ≤ 1000000 := (hws.2 d (List.mem_of_getElem? h)).1
theorem ok_plain {f fC fN : Addr} {fd fdC fdN : FuncData} (F : Fun K "adds_plain" "adds_plain" s_adds_plain f fd) (G_count_references : Def P w K mg base 1 "count_references" fC fdC ["columns"] (spM K preCount))
    (G_is_new_name : Def P w K mg base 2 "is_new_name" fN fdN ["word", "pairs"] (spM K preIsNew)) (b_len : mg "len" = none) (g_MOST_PLAIN : ∃ t, mg "MOST_PLAIN" = some (.int 2 t)) : FnOk P w K mg base CX0 3 f fd ["tables", "words"] (spM K prePlain) := by
  obtain ⟨tk, g_MOST_PLAIN⟩ := g_MOST_PLAIN
  refine ok_body F sc_adds_plain (fun rs Pl cs r cs' h => ?_) (fun X hX hr => ?_)
  · obtain ⟨T, ws, rfl, _⟩ := h
    rfl
  obtain ⟨cdv, A, outer, s, H, E, rfl⟩ := hX
  have nd := sc_adds_plain.nd
  refine ⟨_, (pss_cons (ps_if (PW.pt (pw_or (pt_not (pt_truth (pv 0) (by intro _; rfl))) (pw_or (pt_cmpR (op_neA hr.units) (pe_callB call_len1 (by rfl) b_len PySem.boot_len (pa_cons (pv 1) pa_nil)) pe_int (nomark _)) (pw_or1 (pt_cmpR (op_neA hr.units) (pe_slice sl_3 (pv 1) po_none (po_some pe_int)) (pe_lst (pa_cons pe_str (pa_cons pe_str (pa_cons pe_str pa_nil)))) (nomark _)))))) (pss_one (ps_ret pe_bl)) pss_nil)
      (pss_cons (ps_set (i := 2) nd rfl (.inl rfl) (pe_ix ix_seq (pe_ix ix_seq (pv 0) (pe_un un_neg pe_int) (fun _ _ => rfl)) pe_int (fun _ _ => rfl)))
      (pss_cons (ps_if (PW.pt (pw_or (pt_cmpR op_gt (pe_def G_count_references hr (by decide) (by rfl) (pa_cons (pv 2) pa_nil)) pe_int (nomark _)) (pw_or1 (pt_cmpR (op_eqA hr.units) (pe_callB call_len1 (by rfl) b_len PySem.boot_len (pa_cons (pv 2) pa_nil)) (pe_glob (v := .int (2)) rfl g_MOST_PLAIN ⟨_, rfl⟩) (nomark _))))) (pss_one (ps_ret pe_bl)) pss_nil)
      (pss_one (ps_ret (pe_def G_is_new_name hr (by decide) (by rfl) (pa_cons (pe_ix ix_seq (pv 1) pe_int (fun _ _ => rfl)) (pa_cons (pv 2) pa_nil)))))))), ?_⟩
  intro rs Pl cs r cs' hp B0 H0 σ Dn st hP hd hn
  obtain ⟨T, ws, rfl, hT, hws, rfl, rfl, rfl, rfl⟩ := hp
  refine st_if (b := (!(!(T.map encT).isEmpty)) || ((!decide (((ws.map D.str).length : Int) = 4)) || !decide (ws.take 3 = (["", "", "plain"] : List Str)))) st
    (et_or (et_not (et_truL (ev_var rfl))) (fun _ => et_or (et_test (ev_op (ev_cb (ea_cons (ev_var rfl) ea_nil) cb_lenL) ev_int od_neI)) (fun _ => et_take3 rfl hws wordOk_empty.2.2.2 wordOk_empty.2.2.2 wordOk_plain.2.2.2))) (fun hb H1 st1 => ?_) (fun hb H1 st1 => ?_)
  · have hne : addsP T ws = false := by
      rcases List.eq_nil_or_concat T with rfl | ⟨T', t, rfl⟩
      · unfold addsP
        match ws with
        | [] => rfl
        | [_] => rfl
        | [_, _] => rfl
        | [_, _, _] => rfl
        | [_, _, _, _] => rfl
        | _ :: _ :: _ :: _ :: _ :: _ => rfl
      · cases e : addsP (T'.concat t) ws with
        | false => rfl
        | true =>
          rw [List.concat_eq_append] at e hb
          obtain ⟨h1, h2⟩ := addsP_take e
          rw [h2, List.length_map, h1] at hb
          simp at hb
    rw [hne] at hd
    exact st_ret st1 ev_bl hd
  · simp only [Bool.or_eq_false_iff, Bool.not_eq_false', Bool.not_eq_true', decide_eq_true_eq, List.length_map] at hb
    obtain ⟨h0, h1, h2⟩ := hb
    rcases List.eq_nil_or_concat T with rfl | ⟨T', t, rfl⟩
    · simp at h0
    rw [List.concat_eq_append] at *
    obtain ⟨a, b, c, d, rfl⟩ : ∃ a b c d, ws = [a, b, c, d] := by
      match ws, (show ws.length = 4 by omega) with
      | [a, b, c, d], _ => exact ⟨a, b, c, d, rfl⟩
    have habc : ([a, b, c] : List Str) = (["", "", "plain"] : List Str) := h2
    have htl : t.2.length ≤ 1000 := hT.2 t (by simp)
    have he : addsP (T' ++ [t]) [a, b, c, d] = (!(decide (0 < (refsN t.2 : Int)) || decide ((t.2.length : Int) = 2)) && isNew d (t.2.map Prod.fst)) := by
      unfold addsP
      rw [last_snoc]
      simp only [habc, decide_true, Bool.true_and]
    rw [he] at hd
    refine st_asg (i := 2) (r := .dat (.lst (t.2.map encC))) (cs1 := []) st1 (ev_op (ev_op (ev_var (r := .dat (encTs (T' ++ [t]))) rfl) (ev_un (r1 := .dat (.int 1)) (r := .dat (.int (-1))) ev_int (fun B H x e h Q q => by
      cases (show Rp _ B x (.int 1) from h)
      exact ⟨1, rfl, q _ B H (Stp.refl _ _ _) e (.int _)⟩)) (od_ixL (lastD T' t))) ev_int (od_ixT (atI_nat (j := 1) rfl))) (fun σ2 H2 st2 => ?_)
    refine st_if (b := decide (0 < (refsN t.2 : Int)) || decide (((t.2.map encC).length : Int) = 2)) st2 (et_or (et_test (ev_op (ev_call0 (ea_cons (ev_var rfl) ea_nil) ⟨t.2, rfl, htl, rfl, rfl, rfl, rfl⟩) ev_int (od_I0 fun _ => .bl _))) (fun _ => et_test (ev_op (ev_cb (ea_cons (ev_var rfl) ea_nil) cb_lenL) ev_int od_eqI))) (fun hb H3 st3 => ?_) (fun hb H3 st3 => ?_)
    · rw [List.length_map] at hb
      rw [hb] at hd
      exact st_ret st3 ev_bl hd
    · rw [List.length_map] at hb
      rw [hb] at hd
      exact st_ret st3 (ev_call0 (ea_cons (ev_op (ev_var rfl) ev_int (od_ixL (atI_nat (j := 3) rfl))) (ea_cons (ev_var rfl) ea_nil)) ⟨d, t.2.map encC, t.2.map Prod.fst, rfl, isNewT (j := 3) rfl hws, by rw [List.length_map]; exact htl, fst_encC _, tup_encC _, rfl, rfl, rfl, rfl⟩) hd
theorem addsR_take {T : List Tab} {t : Tab} {ws : List Str} (h : addsR (T ++ [t]) ws = true) : ws.length = 5 ∧ ws.take 3 = (["", "", "ref"] : List Str) := by
  unfold addsR at h
  rw [last_snoc] at h
  match ws, h with
  | [a, b, c, d, e], h =>
    simp only [Bool.and_eq_true, decide_eq_true_eq] at h
    exact ⟨rfl, h.1⟩
theorem cutLast (T : List Tab) (t : Tab) : cutD ((T ++ [t]).map encT) none (some (-1)) = T.map encT := by
  unfold cutD
  rw [HT.sIx_none]
  have e : HT.sIx ((T ++ [t]).map encT).length ((T ++ [t]).map encT).length (some (-1)) = T.length := by
    show (if (-1 : Int) < 0 then ((-1 : Int) + (((T ++ [t]).map encT).length : Int)).toNat else min (-1 : Int).toNat ((T ++ [t]).map encT).length) = T.length
    rw [if_pos (by decide)]
    simp
    omega
  rw [e, List.drop_zero, Nat.sub_zero, List.map_append, List.take_append_of_le_length (by simp), List.take_of_length_le (by simp)]
theorem ev_neg1 {Pl : List Addr} {ss : List Sl} {cs : List (List D)} : Ev K Pl ss cs (tUn (rU fun i => .int (-i)) (tC (.int 1))) (.dat (.int (-1))) cs := ev_un (r1 := .dat (.int 1)) ev_int (fun B H x e h Q q => by
  cases (show Rp K B x (.int 1) from h)
  exact ⟨1, rfl, q _ B H (Stp.refl _ _ _) e (.int _)⟩)
theorem ok_ref {f fC fN : Addr} {fd fdC fdN : FuncData} (F : Fun K "adds_reference" "adds_reference" s_adds_reference f fd) (G_count_references : Def P w K mg base 1 "count_references" fC fdC ["columns"] (spM K preCount))
    (G_is_new_name : Def P w K mg base 2 "is_new_name" fN fdN ["word", "pairs"] (spM K preIsNew)) (b_len : mg "len" = none) (b_sum : mg "sum" = none) (g_MOST_REFERENCES : ∃ t, mg "MOST_REFERENCES" = some (.int 2 t)) (g_MOST_REFERENCES_IN_ALL : ∃ t, mg "MOST_REFERENCES_IN_ALL" = some (.int 3 t)) :
    FnOk P w K mg base CX0 3 f fd ["tables", "words"] (spM K preRef) := by
  obtain ⟨tk, g_MOST_REFERENCES⟩ := g_MOST_REFERENCES
  obtain ⟨tk2, g_MOST_REFERENCES_IN_ALL⟩ := g_MOST_REFERENCES_IN_ALL
  refine ok_body F sc_adds_reference (fun rs Pl cs r cs' h => ?_) (fun X hX hr => ?_)
  · obtain ⟨T, ws, rfl, _⟩ := h
    rfl
  obtain ⟨cdv, A, outer, s, H, E, rfl⟩ := hX
  have nd := sc_adds_reference.nd
  refine ⟨_, (pss_cons (ps_if (PW.pt (pw_or (pt_not (pt_truth (pv 0) (by intro _; rfl))) (pw_or (pt_cmpR (op_neA hr.units) (pe_callB call_len1 (by rfl) b_len PySem.boot_len (pa_cons (pv 1) pa_nil)) pe_int (nomark _)) (pw_or1 (pt_cmpR (op_neA hr.units) (pe_slice sl_3 (pv 1) po_none (po_some pe_int)) (pe_lst (pa_cons pe_str (pa_cons pe_str (pa_cons pe_str pa_nil)))) (nomark _)))))) (pss_one (ps_ret pe_bl)) pss_nil)
      (pss_cons (ps_set (i := 2) nd rfl (.inl rfl) (pe_ix ix_seq (pe_ix ix_seq (pv 0) (pe_un un_neg pe_int) (fun _ _ => rfl)) pe_int (fun _ _ => rfl)))
      (pss_cons (ps_if (pt_cmpR (op_eqA hr.units) (pe_def G_count_references hr (by decide) (by rfl) (pa_cons (pv 2) pa_nil)) (pe_glob (v := .int (2)) rfl g_MOST_REFERENCES ⟨_, rfl⟩) (nomark _)) (pss_one (ps_ret pe_bl)) pss_nil)
      (pss_cons (ps_if (pt_cmpR (op_eqA hr.units) (pe_callB (cr_sum rfl) (by rfl) b_sum (by decide +kernel) (pa_cons (pe_lc (own := [("pair", 4)]) (g := (gName 4)) (tt := tYes) (te := (tCall _ [] E0 (tCons (tOp (rIx K) (tVar 4) (tC (.int 1))) tNil))) rfl nd (pi_list (pv 0)) (blkOk_by (N := N_adds_reference) (sc := defScope s_adds_reference) (by decide +kernel)) (by intro _ _ _ _ _; exact (pg_name (i := 4) nd (by rfl) (by first | exact .inl rfl | exact .inr rfl))) (by intro _ _ _ _ _; exact pts_nil) (by intro _ _ _ _ _; exact (pe_def G_count_references hr (by decide) (by rfl) (pa_cons (pe_ix ix_seq (pv 4) pe_int (fun _ _ => rfl)) pa_nil)))) pa_nil)) (pe_glob (v := .int (3)) rfl g_MOST_REFERENCES_IN_ALL ⟨_, rfl⟩) (nomark _)) (pss_one (ps_ret pe_bl)) pss_nil)
      (pss_cons (ps_setLc (i := 3) (own := [("pair", 4)]) (g := (gName 4)) (tt := tYes) (te := (tOp (rIx K) (tVar 4) (tC (.int 0)))) rfl nd rfl rfl (sw_true rfl rfl rfl (by decide +kernel)) (pi_list (pe_slice sl_3 (pv 0) po_none (po_some (pe_un un_neg pe_int)))) (blkOk_by (N := N_adds_reference) (sc := defScope s_adds_reference) (by decide +kernel)) (by intro _ _ _ _ _; exact (pg_name (i := 4) nd (by rfl) (by first | exact .inl rfl | exact .inr rfl))) (by intro _ _ _ _ _; exact pts_nil) (by intro _ _ _ _ _; exact (pe_ix ix_seq (pv 4) pe_int (fun _ _ => rfl))))
      (pss_one (ps_ret (pe_and (pe_def G_is_new_name hr (by decide) (by rfl) (pa_cons (pe_ix ix_seq (pv 1) pe_int (fun _ _ => rfl)) (pa_cons (pv 2) pa_nil))) (pe_one (pe_cmpR op_in_seq (pe_ix ix_seq (pv 1) pe_int (fun _ _ => rfl)) (pv 3) (by rfl))))))))))), ?_⟩
  intro rs Pl cs r cs' hp B0 H0 σ Dn st hP hd hn
  obtain ⟨T, ws, rfl, hT, hws, rfl, rfl, rfl, rfl⟩ := hp
  refine st_if (b := (!(!(T.map encT).isEmpty)) || ((!decide (((ws.map D.str).length : Int) = 5)) || !decide (ws.take 3 = (["", "", "ref"] : List Str)))) st
    (et_or (et_not (et_truL (ev_var rfl))) (fun _ => et_or (et_test (ev_op (ev_cb (ea_cons (ev_var rfl) ea_nil) cb_lenL) ev_int od_neI)) (fun _ => et_take3 rfl hws wordOk_empty.2.2.2 wordOk_empty.2.2.2 wordOk_ref.2.2.2))) (fun hb H1 st1 => ?_) (fun hb H1 st1 => ?_)
  · have hne : addsR T ws = false := by
      rcases List.eq_nil_or_concat T with rfl | ⟨T', t, rfl⟩
      · unfold addsR
        match ws with
        | [] => rfl
        | [_] => rfl
        | [_, _] => rfl
        | [_, _, _] => rfl
        | [_, _, _, _] => rfl
        | [_, _, _, _, _] => rfl
        | _ :: _ :: _ :: _ :: _ :: _ :: _ => rfl
      · cases e : addsR (T'.concat t) ws with
        | false => rfl
        | true =>
          rw [List.concat_eq_append] at e hb
          obtain ⟨h1, h2⟩ := addsR_take e
          rw [h2, List.length_map, h1] at hb
          simp at hb
    rw [hne] at hd
    exact st_ret st1 ev_bl hd
  · simp only [Bool.or_eq_false_iff, Bool.not_eq_false', Bool.not_eq_true', decide_eq_true_eq, List.length_map] at hb
    obtain ⟨h0, h1, h2⟩ := hb
    rcases List.eq_nil_or_concat T with rfl | ⟨T', t, rfl⟩
    · simp at h0
    rw [List.concat_eq_append] at *
    obtain ⟨a, b, c, d, e, rfl⟩ : ∃ a b c d e, ws = [a, b, c, d, e] := by
      match ws, (show ws.length = 5 by omega) with
      | [a, b, c, d, e], _ => exact ⟨a, b, c, d, e, rfl⟩
    have habc : ([a, b, c] : List Str) = (["", "", "ref"] : List Str) := h2
    have htl : t.2.length ≤ 1000 := hT.2 t (by simp)
    have he : addsR (T' ++ [t]) [a, b, c, d, e] = (!decide ((refsN t.2 : Int) = 2) && (!decide ((sumRefs (T' ++ [t]) : Int) = 3) && (isNew d (t.2.map Prod.fst) && decide (e ∈ T'.map Prod.fst)))) := by
      unfold addsR
      rw [last_snoc, drop_snoc]
      simp only [habc, decide_true, Bool.true_and]
    rw [he] at hd
    refine st_asg (i := 2) (r := .dat (.lst (t.2.map encC))) (cs1 := []) st1 (ev_op (ev_op (ev_var (r := .dat (encTs (T' ++ [t]))) rfl) ev_neg1 (od_ixL (lastD T' t))) ev_int (od_ixT (atI_nat (j := 1) rfl))) (fun σ2 H2 st2 => ?_)
    refine st_if st2 (et_test (ev_op (ev_call0 (ea_cons (ev_var rfl) ea_nil) ⟨t.2, rfl, htl, rfl, rfl, rfl, rfl⟩) ev_int od_eqI)) (fun hb H3 st3 => ?_) (fun hb H3 st3 => ?_)
    · rw [hb] at hd
      exact st_ret st3 ev_bl hd
    rw [hb] at hd
    have hsum : ((T' ++ [t]).map fun t => (refsN t.2 : Int)).sum = (sumRefs (T' ++ [t]) : Int) := by
      unfold sumRefs
      generalize T' ++ [t] = L
      induction L with
      | nil => rfl
      | cons x r ih => simp only [List.map_cons, List.sum_cons, ih]; omega
    refine st_ns ?_
    refine st_if (b := decide ((sumRefs (T' ++ [t]) : Int) = 3)) (cs1 := []) st3 ?_ (fun hb H4 st4 => ?_) (fun hb H4 st4 => ?_)
    · refine et_test (ev_op (r1 := .dat (.int (sumRefs (T' ++ [t]) : Int))) (cs1 := []) ?_ ev_int od_eqI)
      rw [← hsum]
      refine ev_cb (cs1 := []) (ea_cons (EvF.ev (ds := ((T' ++ [t]).map fun t => (refsN t.2 : Int)).map D.int) ?_) ea_nil) cb_sum
      rw [List.map_map]
      refine ef_mapE (enc := encT) (cs1 := []) (wd_lst (ev_var rfl)) _ (by have := hT.1; omega) (fun p i x acc hx => ?_)
      exact ⟨_, _, g_name, by decide, ev_call0 (ea_cons (ev_op (ev_var rfl) ev_int (od_ixT (atI_nat (j := 1) rfl))) ea_nil) ⟨x.2, rfl, hT.2 x (List.mem_of_getElem? hx), rfl, rfl, rfl, rfl⟩⟩
    · rw [hb] at hd
      exact st_ret st4 ev_bl hd
    rw [hb] at hd
    refine st_ns ?_
    refine st_asg (i := 3) (r := .dat (.lst ((T'.map Prod.fst).map D.str))) (cs1 := []) st4 (EvF.ev ?_) (fun σ5 H5 st5 => ?_)
    · rw [List.map_map]
      refine ef_mapE (enc := encT) (cs1 := []) (wd_lst (cutLast T' t ▸ ev_sl (r1 := .dat (.lst ((T' ++ [t]).map encT))) (ev_var (i := 0) rfl) eo_none (eo_some ev_neg1) sd_L)) _ (by have := hT.1; rw [List.length_append] at this; omega) (fun p i x acc hx => ?_)
      exact ⟨_, _, g_name, by decide, ev_op (ev_var rfl) ev_int (od_ixT (atI_nat (j := 0) rfl))⟩
    exact st_ret st5 (ev_andV (ev_call0 (ea_cons (ev_op (ev_var rfl) ev_int (od_ixL (atI_nat (j := 3) rfl))) (ea_cons (ev_var rfl) ea_nil)) ⟨d, t.2.map encC, t.2.map Prod.fst, rfl, isNewT (j := 3) rfl hws, by rw [List.length_map]; exact htl, fst_encC _, tup_encC _, rfl, rfl, rfl, rfl⟩)
      (fun _ => ev_op (ev_op (ev_var rfl) ev_int (od_ixL (atI_nat (j := 4) rfl))) (ev_var rfl) od_inS)) hd
end
end T3
/-! PM2: texts, bounds, beginnings. -/
namespace PM
open PySem L2
def Bnd (T : List Tab) : Prop := T.length ≤ 3 ∧ ∀ t ∈ T, refsN t.2 ≤ 2 ∧ t.2.length ≤ refsN t.2 + 2
theorem refsN_snoc (cs : List Col) (c : Col) : refsN (cs ++ [c]) = refsN cs + if c.2.isSome then 1 else 0 := by
  unfold refsN
  rw [List.filter_append, List.length_append]
  cases h : c.2.isSome <;> simp [h]
theorem last_some {T : List Tab} {t : Tab} (h : T.getLast? = some t) : ∃ T', T = T' ++ [t] := by
  rcases List.eq_nil_or_concat T with rfl | ⟨T', x, rfl⟩
  · simp at h
  · rw [List.concat_eq_append, last_snoc] at h
    exact ⟨T', by rw [List.concat_eq_append, Option.some.inj h]⟩
theorem addCol_snoc (T : List Tab) (t : Tab) (c : Col) : addCol (T ++ [t]) c = T ++ [(t.1, t.2 ++ [c])] := by
  unfold addCol
  rw [last_snoc, drop_snoc]
theorem addsP_last {T : List Tab} {ws : List Str} (h : addsP T ws = true) : ∃ T' t, T = T' ++ [t] ∧ ∃ d : Str, ws = (["", "", "plain", d] : List Str) ∧ refsN t.2 = 0 ∧ t.2.length ≠ 2 := by
  unfold addsP at h
  split at h
  · rename_i a b c d t ht
    obtain ⟨T', rfl⟩ := last_some ht
    simp only [Bool.and_eq_true, decide_eq_true_eq, Bool.not_eq_true', Bool.or_eq_false_iff, decide_eq_false_iff_not] at h
    obtain ⟨h1, ⟨h2, h3⟩, _⟩ := h
    refine ⟨T', t, rfl, d, ?_, by omega, by omega⟩
    have e1 : a = "" := by injection h1
    have e2 : b = "" := by injection h1 with _ h1; injection h1
    have e3 : c = "plain" := by injection h1 with _ h1; injection h1 with _ h1; injection h1
    rw [e1, e2, e3]
  · cases h
theorem addsR_last {T : List Tab} {ws : List Str} (h : addsR T ws = true) : ∃ T' t, T = T' ++ [t] ∧ ∃ d e : Str, ws = (["", "", "ref", d, e] : List Str) ∧ refsN t.2 ≠ 2 := by
  unfold addsR at h
  split at h
  · rename_i a b c d e t ht
    obtain ⟨T', rfl⟩ := last_some ht
    simp only [Bool.and_eq_true, decide_eq_true_eq, Bool.not_eq_true', decide_eq_false_iff_not] at h
    obtain ⟨h1, h2, _⟩ := h
    refine ⟨T', t, rfl, d, e, ?_, by omega⟩
    have e1 : a = "" := by injection h1
    have e2 : b = "" := by injection h1 with _ h1; injection h1
    have e3 : c = "ref" := by injection h1 with _ h1; injection h1 with _ h1; injection h1
    rw [e1, e2, e3]
  · cases h
theorem beginsT_is {T : List Tab} {ws : List Str} (h : beginsT T ws = true) : ∃ b : Str, ws = (["table", b] : List Str) ∧ T.length < 3 := by
  unfold beginsT at h
  split at h
  · rename_i a b
    simp only [Bool.and_eq_true, decide_eq_true_eq] at h
    exact ⟨b, by rw [h.1], by omega⟩
  · cases h
/-- how a row is read -/
theorem step_cases {T T1 : List Tab} {ws : List Str} (h : step T ws = some T1) :
    (∃ n : Str, beginsT T ws = true ∧ ws = (["table", n] : List Str) ∧ T1 = T ++ [(n, [])]) ∨
    (∃ (T' : List Tab) (t : Tab) (d : Str), beginsT T ws = false ∧ addsP T ws = true ∧ T = T' ++ [t] ∧ ws = (["", "", "plain", d] : List Str) ∧ T1 = T' ++ [(t.1, t.2 ++ [(d, none)])]) ∨
    (∃ (T' : List Tab) (t : Tab) (d e : Str), beginsT T ws = false ∧ addsP T ws = false ∧ addsR T ws = true ∧ T = T' ++ [t] ∧ ws = (["", "", "ref", d, e] : List Str) ∧ T1 = T' ++ [(t.1, t.2 ++ [(d, some e)])]) := by
  unfold step at h
  cases hb : beginsT T ws with
  | true =>
    rw [hb, if_pos rfl] at h
    obtain ⟨n, rfl, _⟩ := beginsT_is hb
    exact .inl ⟨n, rfl, rfl, (Option.some.inj h).symm⟩
  | false =>
    rw [hb, if_neg Bool.false_ne_true] at h
    cases hp : addsP T ws with
    | true =>
      rw [hp, if_pos rfl] at h
      obtain ⟨T', t, rfl, d, rfl, _⟩ := addsP_last hp
      refine .inr (.inl ⟨T', t, d, rfl, rfl, rfl, rfl, ?_⟩)
      rw [addCol_snoc] at h
      exact (Option.some.inj h).symm
    | false =>
      rw [hp, if_neg Bool.false_ne_true] at h
      cases hr : addsR T ws with
      | true =>
        rw [hr, if_pos rfl] at h
        obtain ⟨T', t, rfl, d, e, rfl, _⟩ := addsR_last hr
        refine .inr (.inr ⟨T', t, d, e, rfl, rfl, rfl, rfl, rfl, ?_⟩)
        rw [addCol_snoc] at h
        exact (Option.some.inj h).symm
      | false =>
        rw [hr, if_neg Bool.false_ne_true] at h
        cases h
theorem Bnd.step {T T1 : List Tab} {ws : List Str} (b : Bnd T) (h : step T ws = some T1) : Bnd T1 := by
  rcases step_cases h with ⟨n, hb, _, rfl⟩ | ⟨T', t, d, _, hp, rfl, _, rfl⟩ | ⟨T', t, d, e, _, _, hr, rfl, _, rfl⟩
  · obtain ⟨_, _, hl⟩ := beginsT_is hb
    refine ⟨by rw [List.length_append]; simp; omega, fun x hx => ?_⟩
    rcases List.mem_append.mp hx with hx | hx
    · exact b.2 x hx
    · have : x = (n, []) := by simpa using hx
      subst this
      exact ⟨by simp [refsN], by simp [refsN]⟩
  · obtain ⟨T2, t2, e2, _, _, h1, h2⟩ := addsP_last hp
    have et : t2 = t := by
      have := congrArg List.getLast? e2
      rw [last_snoc, last_snoc] at this
      exact (Option.some.inj this).symm
    subst et
    refine ⟨by have := b.1; simpa using this, fun x hx => ?_⟩
    rcases List.mem_append.mp hx with hx | hx
    · exact b.2 x (List.mem_append_left _ hx)
    · have : x = (t2.1, t2.2 ++ [(d, none)]) := by simpa using hx
      subst this
      have := b.2 t2 (by simp)
      simp only [refsN_snoc, List.length_append, List.length_cons, List.length_nil]
      simp
      omega
  · obtain ⟨T2, t2, e2, _, _, _, h1⟩ := addsR_last hr
    have et : t2 = t := by
      have := congrArg List.getLast? e2
      rw [last_snoc, last_snoc] at this
      exact (Option.some.inj this).symm
    subst et
    refine ⟨by have := b.1; simpa using this, fun x hx => ?_⟩
    rcases List.mem_append.mp hx with hx | hx
    · exact b.2 x (List.mem_append_left _ hx)
    · have : x = (t2.1, t2.2 ++ [(d, some e)]) := by simpa using hx
      subst this
      have := b.2 t2 (by simp)
      simp only [refsN_snoc, List.length_append, List.length_cons, List.length_nil]
      simp
      omega
theorem Bnd.from : ∀ {rows : List (List Str)} {T T1 : List Tab}, Bnd T → readFrom T rows = some T1 → Bnd T1
  | [], T, T1, b, h => by
    have e : T = T1 := Option.some.inj h
    rw [← e]; exact b
  | ws :: r, T, T1, b, h => by
    have h' : (PM.step T ws).bind (fun T' => readFrom T' r) = some T1 := h
    cases e : PM.step T ws with
    | none => rw [e] at h'; cases h'
    | some T2 => rw [e] at h'; exact Bnd.from (b.step e) h'
theorem bnd_nil : Bnd [] := ⟨by simp, fun _ h => by cases h⟩
/-! ### the whole text -/
def wordsText (x : Str) : List (List Str) := (Txt.split x nl).map fun r => Txt.split r sp
def readText (x : Str) : Option (List Tab) := readFrom [] (wordsText x)
theorem mem_join {s : Str} {c : Nat} : ∀ {ls : List Str} {l : Str}, l ∈ ls → c ∈ l.cps.toList → c ∈ (Txt.join s ls).cps.toList
  | [], _, h, _ => by cases h
  | [x], l, h, hc => by
    have e : l = x := by simpa using h
    rw [join_one, ← e]; exact hc
  | x :: y :: r, l, h, hc => by
    rw [join_cons, app_list, app_list]
    rcases List.mem_cons.mp h with e | e
    · rw [← e]; simp [hc]
    · have := mem_join (s := s) e hc
      simp [this]
theorem join_split' (x y : Str) : Txt.join y (Txt.split x y) = x := by
  have e := StrLaws.join_split x y
  rw [← StrLaws.glued_eq_join] at e
  exact e
theorem ok_split {x y l : Str} (h : PyData.strOk x = true) (hl : l ∈ Txt.split x y) : PyData.strOk l = true := by
  unfold PyData.strOk at *
  rw [all_list, List.all_eq_true] at *
  intro c hc
  exact h c (by rw [← join_split' x y]; exact mem_join hl hc)
/-! rows and their words -/
theorem split_row {ws : List Str} (h : ws ≠ []) (hf : ∀ w ∈ ws, free 32 w) : Txt.split (rowOf ws) sp = ws := by
  unfold rowOf
  rw [show sp = (⟨#[32]⟩ : Str) from sp_is]
  exact split_join 32 h hf
theorem free_row {ws : List Str} (hf : ∀ w ∈ ws, free 10 w) : free 10 (rowOf ws) := by
  unfold rowOf
  induction ws with
  | nil => exact (by decide +kernel : free 10 Str.empty)
  | cons x r ih =>
    cases r with
    | nil => rw [join_one]; exact hf x List.mem_cons_self
    | cons y r =>
      rw [join_cons]
      unfold free
      rw [app_list, app_list]
      intro z
      rcases List.mem_append.mp z with z | z
      · rcases List.mem_append.mp z with z | z
        · exact hf x List.mem_cons_self z
        · exact (by decide +kernel : free 10 sp) z
      · exact ih (fun w hw => hf w (List.mem_cons_of_mem _ hw)) z
theorem wordsText_join {rows : List (List Str)} (h : rows ≠ []) (hr : ∀ ws ∈ rows, ws ≠ [] ∧ ∀ w ∈ ws, free 10 w ∧ free 32 w) : wordsText (Txt.join nl (rows.map rowOf)) = rows := by
  unfold wordsText
  rw [show nl = (⟨#[10]⟩ : Str) from nl_is, split_join 10 (by simpa using h)]
  · rw [List.map_map]
    conv => rhs; rw [← List.map_id rows]
    apply List.map_congr_left
    intro ws hw
    exact split_row (hr ws hw).1 fun w hw' => ((hr ws hw).2 w hw').2
  · intro l hl
    obtain ⟨ws, hw, rfl⟩ := List.mem_map.mp hl
    exact free_row fun w hw' => ((hr ws hw).2 w hw').1
end PM
/-! SP2: what reading a whole text promises. -/
namespace SP
open PySem L2 DV PM
def preRead : Pre := fun rs Pl cs r cs' => ∃ (x : Str) (T : List Tab), rs = [.dat (.str x)] ∧ x.length ≤ 100000 ∧ PyData.strOk x = true ∧ readText x = some T ∧ Pl = [] ∧ cs = [] ∧ r = .dat (encTs T) ∧ cs' = []
theorem tabsIn_bnd {T : List Tab} (b : Bnd T) : tabsIn T := ⟨by have := b.1; omega, fun t ht => by have := b.2 t ht; omega⟩
theorem wordsIn_row {x row : Str} (hx : x.length ≤ 100000) (ho : PyData.strOk x = true) (hr : row ∈ Txt.split x nl) : row.length ≤ 100000 ∧ PyData.strOk row = true ∧ wordsIn (Txt.split row sp) := by
  have hl : row.length ≤ x.length := PyProof.Rows.part_short hr
  have hro := ok_split ho hr
  refine ⟨by omega, hro, ?_, fun w hw => ⟨?_, ok_split hro hw⟩⟩
  · have := PyProof.Rows.split_le row sp
    omega
  · have : w.length ≤ row.length := PyProof.Rows.part_short hw
    omega
theorem readFrom_snoc (T : List Tab) (rows : List (List Str)) (ws : List Str) : readFrom T (rows ++ [ws]) = (readFrom T rows).bind fun T' => step T' ws := by
  rw [readFrom_append]
  congr 1
  funext T'
  show (step T' ws).bind (fun T' => some T') = step T' ws
  cases step T' ws <;> rfl
theorem readFrom_take {rows : List (List Str)} {T : List Tab} (h : readFrom [] rows = some T) (i : Nat) : ∃ T', readFrom [] (rows.take i) = some T' := by
  have e : rows = rows.take i ++ rows.drop i := (List.take_append_drop i rows).symm
  rw [e, readFrom_append] at h
  cases q : readFrom [] (rows.take i) with
  | none => rw [q] at h; cases h
  | some T' => exact ⟨T', rfl⟩
end SP
namespace T3
open PySem L2 DV PM SP
abbrev s_read_tables : Stmt := topS 29
abbrev N_read_tables : List Str := ["text", "tables", "number", "row", "words"]
theorem sc_read_tables : FnScope N_read_tables ["text"] (defScope s_read_tables) := ⟨rfl, rfl, rfl, by decide +kernel, rfl, by decide +kernel, by decide +kernel⟩

section
variable {P : Program} {w : World} {K : PySem.W.Frag} {mg : Str → Option Value} {base : Heap}
theorem ok_read {f fB fP fR : Addr} {fd fdB fdP fdR : FuncData} (F : Fun K "read_tables" "read_tables" s_read_tables f fd) (G_begins_table : Def P w K mg base 3 "begins_table" fB fdB ["tables", "words"] (spM K preBegins))
    (G_adds_plain : Def P w K mg base 3 "adds_plain" fP fdP ["tables", "words"] (spM K prePlain)) (G_adds_reference : Def P w K mg base 3 "adds_reference" fR fdR ["tables", "words"] (spM K preRef)) (b_enumerate : mg "enumerate" = none) :
    FnOk P w K mg base CX0 4 f fd ["text"] (spM K preRead) := by
  refine ok_body F sc_read_tables (fun rs Pl cs r cs' h => ?_) (fun X hX hr => ?_)
  · obtain ⟨x, T, rfl, _⟩ := h
    rfl
  obtain ⟨cdv, A, outer, s, H, E, rfl⟩ := hX
  have nd := sc_read_tables.nd
  refine ⟨_, (pss_cons (ps_set (i := 1) nd rfl (.inl rfl) (pe_lst pa_nil))
      (pss_cons (ps_for PassesOwn.never rfl (pi_enum (by rfl) b_enumerate (pa_cons (pe_split (pv 0) pe_str) pa_nil)) (pg_tup (by rfl) (by exact (pgs_cons (by exact (pg_name (i := 2) nd (by rfl) (by first | exact .inl rfl | exact .inr rfl))) (by exact (pgs_cons (by exact (pg_name (i := 3) nd (by rfl) (by first | exact .inl rfl | exact .inr rfl))) (by exact pgs_nil)))))) (pss_cons (ps_set (i := 4) nd rfl (.inl rfl) (pe_split (pv 3) pe_str))
      (pss_one (ps_if (pt_val (pe_def G_begins_table hr (by decide) (by rfl) (pa_cons (pv 1) (pa_cons (pv 4) pa_nil)))) (pss_one (ps_expr (pe_bm PySem.F.plainAttrs_list PySem.F.slot_list_append PySem.F.type_list_append mt_append (pv 1) (pa_cons (pe_tup (pa_cons (pe_ix ix_seq (pv 4) pe_int (fun _ _ => rfl)) (pa_cons (pe_lst pa_nil) pa_nil))) pa_nil)))) (pss_one (ps_if (pt_val (pe_def G_adds_plain hr (by decide) (by rfl) (pa_cons (pv 1) (pa_cons (pv 4) pa_nil)))) (pss_one (ps_expr (pe_bm PySem.F.plainAttrs_list PySem.F.slot_list_append PySem.F.type_list_append mt_append (pe_ix ix_seq (pe_ix ix_seq (pv 1) (pe_un un_neg pe_int) (fun _ _ => rfl)) pe_int (fun _ _ => rfl)) (pa_cons (pe_tup (pa_cons (pe_ix ix_seq (pv 4) pe_int (fun _ _ => rfl)) (pa_cons pe_non pa_nil))) pa_nil)))) (pss_one (ps_if (pt_val (pe_def G_adds_reference hr (by decide) (by rfl) (pa_cons (pv 1) (pa_cons (pv 4) pa_nil)))) (pss_one (ps_expr (pe_bm PySem.F.plainAttrs_list PySem.F.slot_list_append PySem.F.type_list_append mt_append (pe_ix ix_seq (pe_ix ix_seq (pv 1) (pe_un un_neg pe_int) (fun _ _ => rfl)) pe_int (fun _ _ => rfl)) (pa_cons (pe_tup (pa_cons (pe_ix ix_seq (pv 4) pe_int (fun _ _ => rfl)) (pa_cons (pe_ix ix_seq (pv 4) pe_int (fun _ _ => rfl)) pa_nil))) pa_nil)))) (pss_one ps_never)))))))))
      (pss_one (ps_ret (pv 1))))), ?_⟩
  intro rs Pl cs r cs' hp B0 H0 σ Dn st hP hd hn
  obtain ⟨x, T, rfl, hxl, hxo, hT, rfl, rfl, rfl, rfl⟩ := hp
  obtain ⟨B, s0, o0⟩ := st
  refine st_seq (st_raw0 fun p hp => ?_)
  have fp : H0 p = none := free0 s0 hp
  have bp : B p = none := o0.ex.free hp
  have s1 : Stp [] B0 H0 B (upd H0 p (.lst [])) := stp_upd s0 fp
  have o1 : Okk K [] [.dat (.str x), .val (.ref p), .any, .any, .any] [] B (upd H0 p (.lst [])) (σ.set 1 (some (.ref p))) := ⟨ex_upd o0.ex bp, o0.sl.set (i := 1) rfl, True.intro⟩
  have t1 : TabsAt K H0 B (upd H0 p (.lst [])) p [] := ⟨⟨[], upd_same, .nil, .nil, by simp⟩, bp, fp⟩
  dsimp only []
  refine st_seq (t := tFor _ _ _) ?_
  refine for_of (wd_enum (ds := (Txt.split x nl).map D.str) (cs := []) (cs1 := []) (P := []) (ss := [.dat (.str x), .val (.ref p), .any, .any, .any]) (ea_cons (EvF.ev (ev_split (ev_var (i := 0) rfl) ev_str (by decide +kernel) (by omega))) ea_nil) B _ _ o1 _ fun J B1 H1 s2 o2 wk => ?_)
  have t2 := t1.step s2
  have s02 := s1.trans s2
  have hn0 : (enumD ((Txt.split x nl).map D.str)).length = (Txt.split x nl).length := by rw [enumD_len, List.length_map]
  let I : Nat → L2.St → Hp → Prop := fun i σ' H' => ∃ B' T', Stp [] B0 H0 B' H' ∧ Ex B1 B' ∧ Okk K [] [.dat (.str x), .val (.ref p), .any, .any, .any] [] B' H' σ' ∧ TabsAt K H0 B' H' p T' ∧ readFrom [] ((wordsText x).take i) = some T'
  refine ⟨fun i m σ' H' => m = (Txt.split x nl).length - i ∧ i ≤ (Txt.split x nl).length ∧ I i σ' H', ⟨_, rfl, Nat.zero_le _, B1, [], s02, Ex.refl _, o2, t2, rfl⟩, ?_⟩
  rintro i m σ' H' ⟨rfl, hi, B2, T2, s3, e3, o3, t3, hr3⟩
  obtain ⟨w1, w2⟩ := wk i B2 H' e3 o3.ex
  have b3 : Bnd T2 := bnd_nil.from hr3
  by_cases hlt : i < (Txt.split x nl).length
  · have hrow : (Txt.split x nl)[i]? = some (Txt.split x nl)[i] := List.getElem?_eq_getElem hlt
    generalize (Txt.split x nl)[i] = row at hrow
    obtain ⟨hrl, hro, hws⟩ := wordsIn_row hxl hxo (List.mem_of_getElem? hrow)
    have hd' : (enumD ((Txt.split x nl).map D.str))[i]? = some (.tup [.int (i : Nat), .str row]) := by
      unfold enumD
      rw [List.getElem?_map, List.getElem?_zipIdx, List.getElem?_map, hrow]
      simp
    obtain ⟨go, yl⟩ := w1 _ hd'
    have hwi : (wordsText x)[i]? = some (Txt.split row sp) := by
      unfold wordsText
      rw [List.getElem?_map, hrow]; rfl
    obtain ⟨T3, hT3⟩ := readFrom_take (i := i + 1) (show readFrom [] (wordsText x) = some T from hT)
    have hst : step T2 (Txt.split row sp) = some T3 := by
      rw [List.take_add_one, hwi, show (some (Txt.split row sp)).toList = [Txt.split row sp] from rfl, readFrom_snoc, hr3] at hT3
      exact hT3
    refine .inr ⟨go, I (i + 1), fun σ4 H4 q => ⟨(Txt.split x nl).length - (i + 1), by omega, rfl, hlt, q⟩, fun v H4 y => ?_⟩
    obtain ⟨B4, s4, e4, x4⟩ := yl v H4 y
    have o4 := o3.step0 s4 e4
    have t4 := t3.step s4
    have s04 := s3.trans s4
    refine (g_tup (g_cons g_name (g_cons g_name g_nil)) : GR K _ _ _ _ _) B4 H4 σ' v o4.ex o4.sl x4 _ fun σ5 sl5 _ => ?_
    have o5 : Okk K [] [.dat (.str x), .val (.ref p), .dat (.int (i : Nat)), .dat (.str row), .any] [] B4 H4 σ5 := ⟨o4.ex, sl5, True.intro⟩
    -- words
    refine EvF.ev (ev_split (ev_var (i := 3) rfl) ev_str (by decide +kernel) (by omega)) B4 H4 σ5 o5 _ fun wv B6 H6 s6 o6 v6 => ?_
    have t6 := t4.step s6
    have s06 := s04.trans s6
    have v6' : Rp K B6 wv (.lst ((Txt.split row sp).map D.str)) := v6
    have o7 : Okk K [] [.dat (.str x), .val (.ref p), .dat (.int (i : Nat)), .dat (.str row), .dat (.lst ((Txt.split row sp).map D.str))] [] B6 H6 (σ5.set 4 (some wv)) := ⟨o6.ex, o6.sl.set (i := 4) v6, True.intro⟩
    have h1 : (σ5.set 4 (some wv))[1]? = some (some (.ref p)) := by
      obtain ⟨u, hu, eu⟩ := o7.sl.get 1 (.val (.ref p)) rfl (by intro z; cases z)
      rw [hu, show u = V.ref p from eu]
    have h4 : (σ5.set 4 (some wv))[4]? = some (some wv) := by
      have hl : 4 < σ5.length := by rw [o6.sl.len]; exact Nat.lt_succ_self 4
      rw [List.getElem?_set, if_pos rfl, if_pos hl]
    have ex16 : Ex B1 B6 := e3.trans (s4.ex.trans s6.ex)
    have fin : ∀ B' H'', Stp [] B0 H0 B' H'' → Okk K [] [.dat (.str x), .val (.ref p), .dat (.int (i : Nat)), .dat (.str row), .dat (.lst ((Txt.split row sp).map D.str))] [] B' H'' (σ5.set 4 (some wv)) → Ex B6 B' → TabsAt K H0 B' H'' p T3 → I (i + 1) (σ5.set 4 (some wv)) H'' := fun B' H'' a b c d =>
      ⟨B', T3, a, ex16.trans c, ⟨b.ex, b.sl.le ⟨.rfl _, .rfl _, .any _, .any _, .any _, True.intro⟩, True.intro⟩, d, hT3⟩
    refine call_tabs (b := beginsT T2 (Txt.split row sp)) o7.ex t6 h1 h4 v6' ⟨T2, _, rfl, by have := b3.1; omega, hws, rfl, rfl, rfl, rfl⟩ fun H8 s8 e8 => ?_
    have o8 := o7.step0 s8 e8
    have t8 := t6.step s8
    have s08 := s06.trans s8
    rcases step_cases hst with ⟨n, hb, hw, rfl⟩ | ⟨T', t, d, hb, hpl, rfl, hw, rfl⟩ | ⟨T', t, d, e, hb, hpl, hre, rfl, hw, rfl⟩
    · rw [hb, if_pos rfl]
      refine app_tab (n := n) s08 o8 t8 h1 (ev_op (ev_var (i := 4) rfl) ev_int (od_ixL (atI_nat (j := 1) ?_))) (by have := b3.1; omega) (fun B' H'' a b c d => fin B' H'' a b c d)
      rw [hw]; rfl
    · rw [hb, if_neg Bool.false_ne_true]
      refine call_tabs (b := addsP (T' ++ [t]) (Txt.split row sp)) o8.ex t8 h1 h4 v6' ⟨_, _, rfl, tabsIn_bnd b3, hws, rfl, rfl, rfl, rfl⟩ fun H9 s9 e9 => ?_
      have o9 := o8.step0 s9 e9
      have t9 := t8.step s9
      have s09 := s08.trans s9
      rw [hpl, if_pos rfl]
      refine app_col (n := t.1) (cols := t.2) (c := (d, none)) (x := .str d) (y := .non) s09 o9 t9 h1 (ea_cons (ev_op (ev_var (i := 4) rfl) ev_int (od_ixL (atI_nat (j := 3) ?_))) (ea_cons ev_non ea_nil)) rfl (by have := b3.2 t (by simp); omega) (fun B' H'' a b c d => fin B' H'' a b c d)
      rw [hw]; rfl
    · rw [hb, if_neg Bool.false_ne_true]
      refine call_tabs (b := addsP (T' ++ [t]) (Txt.split row sp)) o8.ex t8 h1 h4 v6' ⟨_, _, rfl, tabsIn_bnd b3, hws, rfl, rfl, rfl, rfl⟩ fun H9 s9 e9 => ?_
      have o9 := o8.step0 s9 e9
      have t9 := t8.step s9
      have s09 := s08.trans s9
      rw [hpl, if_neg Bool.false_ne_true]
      refine call_tabs (b := addsR (T' ++ [t]) (Txt.split row sp)) o9.ex t9 h1 h4 v6' ⟨_, _, rfl, tabsIn_bnd b3, hws, rfl, rfl, rfl, rfl⟩ fun H10 s10 e10 => ?_
      have o10 := o9.step0 s10 e10
      have t10 := t9.step s10
      have s010 := s09.trans s10
      rw [hre, if_pos rfl]
      refine app_col (n := t.1) (cols := t.2) (c := (d, some e)) (x := .str d) (y := .str e) s010 o10 t10 h1 (ea_cons (ev_op (ev_var (i := 4) rfl) ev_int (od_ixL (atI_nat (j := 3) ?_))) (ea_cons (ev_op (ev_var (i := 4) rfl) ev_int (od_ixL (atI_nat (j := 4) ?_))) ea_nil)) rfl (by have := b3.2 t (by simp); omega) (fun B' H'' a b c d => fin B' H'' a b c d)
      · rw [hw]; rfl
      · rw [hw]; rfl
  · have e : i = (Txt.split x nl).length := by omega
    subst e
    refine .inl ⟨w2 (by rw [hn0]; exact Nat.le_refl _), ?_⟩
    have hTT : T2 = T := by
      have hl : (wordsText x).length = (Txt.split x nl).length := by unfold wordsText; rw [List.length_map]
      rw [← hl, List.take_length] at hr3
      exact Option.some.inj (hr3.symm.trans hT)
    subst hTT
    obtain ⟨u, hu, eu⟩ := o3.sl.get 1 (.val (.ref p)) rfl (by intro z; cases z)
    have eu' : u = .ref p := eu
    subst eu'
    exact ⟨.ref p, hu, hd _ _ _ (pub_stp s3 o3.ex) (pub_in s3 o3.ex) True.intro (t3.pub s3 o3.ex)⟩
end
end T3
/-! OWN: ==, != and str of an instance by its class's own defs. -/
namespace OWN
open PySem PySem.Spec PyProof.Rows L2
section
variable {prog : Program} {w : World} {A : Around} {E : Value → Shared → Prop} {s : Shared} {K : PySem.W.Frag} {x C f : Addr} {ox : Obj} {od : Option Obj} {h₀ : Heap} {L : Addr} {m : Str → Option Value}
theorem ifBound_objNe {M : Model} {args : List Value} {Q : Option Value → Shared → Prop} (X : K.In s.heap) (I : PySem.W.InstAt s.heap x ox C od) (hs : PySem.W.findIn K (.ref C) "__ne__" = some (some (.builtin "object.__ne__")))
    (h : wpAny M A (call (.builtin "object.__ne__") (.ref x :: args)) (fun v => Q (some v)) E s) : wpAny M A (callSpecialIfBound? (.ref x) "__ne__" args) Q E s := by
  simp only [callSpecialIfBound?, bindSpecialIfBound?]
  refine wpAny_holding (wpAny_bind (wpAny_bind (wpAny_bind (I.type.here ((PySem.W.looks_findIn X hs).here ?_)))))
  refine wpAny_bind (wpAny_askSetting (wpAny_ite ?_))
  have fin : wpAny M A (call (.builtin "object.__ne__") ([.ref x] ++ args) >>= fun v => pure (some v)) Q E s := wpAny_bind (wpAny_mono h (fun v s' h' => wpAny_pure h') fun _ _ h' => h')
  split
  · exact wpAny_bind (wpAny_of_eq (F.cmp_object.ne.bind _) (wpAny_pure (by exact fin)))
  · exact wpAny_tryCatch (wpAny_bind (wpAny_of_eq (F.cmp_object.ne.bind _) (wpAny_pure (by exact fin))))
theorem entry_ne {b : Value} (hu : A.units < cLine) (X : K.In s.heap) (I : PySem.W.InstAt s.heap x ox C od) (hs : PySem.W.findIn K (.ref C) "__eq__" = some (some (.ref f))) (hf : PySem.W.isFn K (.ref f) = true) {Q : Fin → Shared → Prop}
    (hcall : wpAny (model prog w) A (call (.ref f) [.ref x, b]) (fun v s' => ∃ b, v = .bool b ∧ Q (.done (.ret (.bool (!b)))) s') E s) :
    wpAny (model prog w) A (Builtin.«object.__ne__» ⟨[.ref x, b], []⟩) Q E s := by
  unfold Builtin.«object.__ne__»
  repeat (first
    | with_reducible refine wpAny_cRoomFor hu ?_
    | (refine wpAny_bind (m := callSpecialIfBound? (.ref x) (Str.ofString "__eq__") [b])
        (PySem.W.ifBound_K X I hs hf (wpAny_mono hcall (fun r s' hr => by
          obtain ⟨b, rfl, hq⟩ := hr
          repeat (first | exact hq | exact wpAny_pure hq | exact wpAny_truthy_bool hq | (refine wpAny_bind (m := truthy (.bool _)) (wpAny_truthy_bool ?_)) | wp_step)) fun _ _ e => e)))
    | wp_step)
theorem ne_K {b tb : Value} {Q : Value → Shared → Prop} (hu : A.units + 1 < cLine) (X : K.In s.heap) (I : PySem.W.InstAt s.heap x ox C od) (hb : PySem.W.Looks (model prog w) s.heap (typeOf b) tb) (hn : PySem.W.notFirst K C tb = true) (hm : PySem.W.mroIn K C (.type "object") = some true)
    (hne : PySem.W.findIn K (.ref C) "__ne__" = some (some (.builtin "object.__ne__"))) (hs : PySem.W.findIn K (.ref C) "__eq__" = some (some (.ref f))) (hf : PySem.W.isFn K (.ref f) = true)
    (h : wpAny (model prog w) A.in1 (call (.ref f) [.ref x, b]) (fun v s' => ∃ b, v = .bool b ∧ Q (.bool (!b)) s') E s) : wpAny (model prog w) A (richCompare .NotEq (.ref x) b) Q E s := by
  have one : wpAny (model prog w) A (tryCompare (.ref x) (cmpInfo .NotEq).2.1 b) (fun r s' => ∃ v, r = some v ∧ Q v s') E s := by
    unfold tryCompare
    refine wpAny_bind (ifBound_objNe X I hne (wpAny_call (codeAny_call_builtin F.cmp_object.ne.plain F.cmpEntry_ne (PySem.W.check_slot F.cmpKind_ne F.cmpSplit_ne (I.type.andThen (PySem.W.looks_mroIn X hm)) (F.cmpArgs_ne _ _) (entry_ne (A := A.in1) hu X I hs hf (wpAny_mono h (fun v s' hv => ?_) fun _ _ e => e))))))
    obtain ⟨k, rfl, hq⟩ := hv
    first | exact ⟨k, rfl, wpAny_pure ⟨_, rfl, hq⟩⟩ | exact ⟨k, rfl, ⟨_, rfl, hq⟩⟩
  unfold richCompare
  simp only [oneThing_ref]
  refine wpAny_holding (wpAny_bind (wpAny_cRoomFor (Nat.lt_of_succ_lt hu) ?_))
  refine wpAny_bind (I.type.here (wpAny_bind (hb.here ?_)))
  split
  · rename_i q
    have e : PySem.W.subIn K tb (.ref C) = some false := by
      rcases Bool.or_eq_true_iff.mp hn with e | e
      · rw [beq_iff_eq.mp e] at q; simp at q
      · exact beq_iff_eq.mp e
    refine wpAny_bind ((PySem.W.looks_subIn X e).here ?_)
    simp only [Bool.false_eq_true, if_false]
    refine wpAny_bind (wpAny_mono one (fun r s' z => ?_) fun _ _ e => e)
    obtain ⟨v, rfl, hq⟩ := z
    exact wpAny_pure hq
  · refine wpAny_bind (wpAny_pure ?_)
    simp only [Bool.false_eq_true, if_false]
    refine wpAny_bind (wpAny_mono one (fun r s' z => ?_) fun _ _ e => e)
    obtain ⟨v, rfl, hq⟩ := z
    exact wpAny_pure hq
end
section
variable {X : Cx} {n : Nat} {C f : Addr} {fd : FuncData} {ps : List Str} {sp : Sp}
theorem v1r (a : Addr) : Vals [V.ref a] [Value.ref a] := .cons rfl .nil
theorem v2r (a b : Addr) : Vals [V.ref a, V.ref b] [Value.ref a, Value.ref b] := .cons rfl (.cons rfl .nil)
theorem run_at {A : Around} {pins : List (Addr × Obj)} {σ : L2.St} {H : Hp} {s : Shared} {vs : List V} {us : List Value} {Q : VK} (sb : Sub X n A) (F : FnOk X.prog X.w X.K X.mg X.base CX0 n f fd ps sp) (hb : Binds X.K fd ps []) (I : Inv X pins σ H s) (r : Vals vs us) (h : sp vs H Q E0) :
    wpAny (model X.prog X.w) A (call (.ref f) us) (EP X pins σ Q) X.xe s := by
  have e0 : Env0 X.prog X.w X.K X.mg X.base A X.stack s H := by
    have e := I.env0
    exact ⟨by rw [sb.fr]; exact e.frames, e.mod, e.bs, e.bsz, e.funs, e.frf, e.hok, e.bare⟩
  have hl := F.len _ _ _ _ h
  have hl' : (us ++ []).length = ps.length := by rw [List.append_nil, ← r.length]; exact hl
  refine wpAny_call (codeAny_mono (F.run A X.stack s H ⟨us, []⟩ us vs _ E0 sb.room e0 (by
    have := hb s us I.kIn hl'
    simpa using this) r h) fun r s' hq => ?_)
  cases r with
  | error e => exact False.elim hq
  | ok fl =>
    cases fl with
    | ret w => exact I.after hq
    | next => exact False.elim hq
    | brk => exact False.elim hq
    | cont => exact False.elim hq
/-- str(o) by its own def -/
def rStrOwn (C : Addr) (sp : Sp) : List V → Hp → VK → Prop := fun xs H Q => ∃ a dx fs, xs = [.ref a] ∧ H a = some (.ins C dx fs) ∧ sp [.ref a] H (fun z H' => ∃ y, z = .str y ∧ Q z H') E0
theorem call_strOwn (F : FnOk X.prog X.w X.K X.mg X.base CX0 n f fd ps sp) (hb : Binds X.K fd ps []) (hs : PySem.W.findIn X.K (.ref C) "__str__" = some (some (.ref f))) (hf : PySem.W.isFn X.K (.ref f) = true) (hr : Room (n + 2) X.A) : CallR X (.type "str") (rStrOwn C sp) := by
  intro pins s σ H xs us Q I r h
  obtain ⟨a, dx, fs, rfl, ha, h⟩ := h
  obtain ⟨u, rfl, rx⟩ := vals1 r
  cases (show u = Value.ref a from rx)
  obtain ⟨mA, J, _⟩ := ins_get I.hok ha
  obtain ⟨od, J, _⟩ := J.look
  have sb : Sub X n X.A.in1.in1 := (Sub.in1 (Sub.in1 ⟨hr, rfl⟩))
  have hu : X.A.in1.in1.units < cLine := by have := sb.room.units0; exact this
  refine PySem.W.kso_call hu I.kIn J hs hf (wpAny_mono (run_at sb F hb I (v1r a) h) (fun v s' z => ?_) fun _ _ e => e)
  obtain ⟨z, H', I', rz, ⟨y, rfl, q⟩⟩ := z
  obtain ⟨tk, rfl⟩ := rz
  exact ⟨.str y, H', I', ⟨tk, rfl⟩, q⟩
/-- x == y, x an instance of the class at C with an own __eq__, y of the class or of a built-in type -/
def EqTy (K : PySem.W.Frag) (C : Addr) (H : Hp) (y : V) : Prop := (∃ b dx fs, y = .ref b ∧ H b = some (.ins C dx fs)) ∨ ∃ t, TyX K H y t ∧ PySem.W.notFirst K C t = true
def rEqOwn (K : PySem.W.Frag) (C : Addr) (sp : Sp) (neg : Bool) : R2 := fun x y H Q => ∃ a dx fs, x = .ref a ∧ H a = some (.ins C dx fs) ∧ (∃ b dy gs, y = .ref b ∧ H b = some (.ins C dy gs)) ∧ sp [x, y] H (fun z H' => ∃ k, z = .bl k ∧ Q (.bl (if neg then !k else k)) H') E0
theorem op_eqOwn (F : FnOk X.prog X.w X.K X.mg X.base CX0 n f fd ps sp) (hb : Binds X.K fd ps []) (hs : PySem.W.findIn X.K (.ref C) "__eq__" = some (some (.ref f))) (hf : PySem.W.isFn X.K (.ref f) = true) (hr : Room n X.A) : OpR X (compareOp .Eq) (rEqOwn X.K C sp false) := by
  intro pins s σ H x y v u Q I rx ry hq
  obtain ⟨a, dx, fs, rfl, ha, ⟨b, dy, gs, rfl, hb'⟩, h⟩ := hq
  cases rx
  cases ry
  obtain ⟨mA, J, _⟩ := ins_get I.hok ha
  obtain ⟨mB, J', _⟩ := ins_get I.hok hb'
  obtain ⟨od, J, _⟩ := J.look
  obtain ⟨od', J', _⟩ := J'.look
  obtain ⟨m, hF⟩ := I.fr
  show wpAny (model X.prog X.w) X.A (richCompare .Eq (.ref a) (.ref b)) (EP X pins σ Q) X.xe s
  refine PySem.W.cmp_K (op := .Eq) (tb := .ref C) hr.units0 hF I.ok.mod.kin J J'.type (by simp [PySem.W.notFirst]) hs hf (wpAny_mono (run_at ⟨hr, rfl⟩ F hb I (v2r a b) h) (fun v s' z => ?_) fun _ _ e => e)
  obtain ⟨z, H', I', rz, ⟨k, rfl, q⟩⟩ := z
  cases rz
  exact ⟨.bl k, H', I', rfl, q⟩
theorem op_neOwn (F : FnOk X.prog X.w X.K X.mg X.base CX0 n f fd ps sp) (hb : Binds X.K fd ps []) (hs : PySem.W.findIn X.K (.ref C) "__eq__" = some (some (.ref f))) (hf : PySem.W.isFn X.K (.ref f) = true) (hne : PySem.W.findIn X.K (.ref C) "__ne__" = some (some (.builtin "object.__ne__"))) (hm : PySem.W.mroIn X.K C (.type "object") = some true)
    (hr : Room (n + 1) X.A) : OpR X (compareOp .NotEq) (rEqOwn X.K C sp true) := by
  intro pins s σ H x y v u Q I rx ry hq
  obtain ⟨a, dx, fs, rfl, ha, ⟨b, dy, gs, rfl, hb'⟩, h⟩ := hq
  cases rx
  cases ry
  obtain ⟨mA, J, _⟩ := ins_get I.hok ha
  obtain ⟨mB, J', _⟩ := ins_get I.hok hb'
  obtain ⟨od, J, _⟩ := J.look
  obtain ⟨od', J', _⟩ := J'.look
  have sb : Sub X n X.A.in1 := Sub.in1 ⟨hr, rfl⟩
  have hu : X.A.units + 1 < cLine := sb.room.units0
  show wpAny (model X.prog X.w) X.A (richCompare .NotEq (.ref a) (.ref b)) (EP X pins σ Q) X.xe s
  refine ne_K (tb := .ref C) hu I.kIn J J'.type (by simp [PySem.W.notFirst]) hm hne hs hf (wpAny_mono (run_at sb F hb I (v2r a b) h) (fun v s' z => ?_) fun _ _ e => e)
  obtain ⟨z, H', I', rz, ⟨k, rfl, q⟩⟩ := z
  cases rz
  exact ⟨k, rfl, .bl (!k), H', I', rfl, q⟩
end
end OWN
/-! DC: dict comprehensions with texts as keys; an own class made by a local name that holds it; its fields set; its methods called. -/
namespace DV
open PySem L2
variable {K : PySem.W.Frag}
theorem putK_new {kvs : List (Key × V)} {k : Key} {v : V} (h : ∀ p ∈ kvs, p.1 ≠ k) : putK kvs k v = kvs ++ [(k, v)] := by
  unfold putK
  have e : (kvs.any fun kv => decide (kv.1 = k)) = false := by
    rw [List.any_eq_false]
    intro p hp
    simpa using h p hp
  rw [e]
  simp
theorem RpK.keys {B : Hp} : ∀ {vs : List (Key × V)} {ds : List (Key × D)}, RpK K B vs ds → vs.map (·.1) = ds.map (·.1)
  | _, _, .nil => rfl
  | _, _, .cons _ r => by rw [List.map_cons, List.map_cons, RpK.keys r]
theorem RpK.append {B : Hp} : ∀ {vs ws : List (Key × V)} {ds es : List (Key × D)}, RpK K B vs ds → RpK K B ws es → RpK K B (vs ++ ws) (ds ++ es)
  | _, _, _, _, .nil, s => s
  | _, _, _, _, .cons h r, s => .cons h (RpK.append r s)
section
variable {ss : List Sl}
theorem ev_dcE {β : Type} {wi : TI} {g : TG} {tk tv : TE} {vs : List Nat} {l : List β} {enc : β → D} (hw : WD K [] ss [] wi (l.map enc) []) (key : β → Str) (val : β → D) (hz : l.length ≤ 1000) (nd : (l.map key).Nodup)
    (hs : ∀ (i : Nat) (x : β), l[i]? = some x → ∃ G W, GR K (wipeS ss vs) g (enc x) G W ∧ (∀ k ∈ W, k ∈ vs) ∧ Ev K [] G [] tk (.dat (.str (key x))) [] ∧ Ev K [] G [] tv (.dat (val x)) []) :
    Ev K [] ss [] (tDc wi g tYes tk tv vs) (.dat (.dic (l.map fun x => ((Sum.inr (key x) : Key), val x)))) [] := fun B H σ o Q q => by
  refine hw B H σ o _ fun It B1 H1 s1 o1 wk Dp hDp => ?_
  have hB1 : B1 Dp = none := o1.ex.free hDp
  have hD0 : H Dp = none := by
    cases e : H Dp with
    | none => rfl
    | some u =>
      obtain ⟨u', h'⟩ := s1.dm Dp u e
      rw [hDp] at h'; cases h'
  let out : Nat → List (Key × D) := fun i => (l.take i).map fun x => ((Sum.inr (key x) : Key), val x)
  let I : Nat → Hp → Prop := fun i H' => ∃ B' kvs, Stp [] B1 H1 B' H' ∧ Okk K [] ss [] B' H' σ ∧ H' Dp = some (.dK kvs) ∧ B' Dp = none ∧ RpK K B' kvs (out i)
  have i0 : I 0 (upd H1 Dp (.dK [])) :=
    ⟨B1, [], ⟨Ex.refl _, fun b u n e => Ex.new hDp b u e, fun _ _ _ => rfl, fun b u e => ⟨u, Ex.new hDp b u e⟩⟩, ⟨fun b u e => Ex.new hDp b u (o1.ex b u e), o1.sl, True.intro⟩, upd_same, hB1, .nil⟩
  refine ⟨fun i m H' => m = l.length - i ∧ i ≤ l.length ∧ I i H', ⟨l.length, by simp, Nat.zero_le _, i0⟩, ?_⟩
  rintro i m H' ⟨rfl, hi, B2, kvs, s2, o2, hd2, hb2, r2⟩
  obtain ⟨w1, w2⟩ := wk i B2 H' s2.ex o2.ex
  by_cases hlt : i < l.length
  · have hx : l[i]? = some l[i] := List.getElem?_eq_getElem hlt
    generalize l[i] = x at hx
    have hd' : (l.map enc)[i]? = some (enc x) := by rw [List.getElem?_map, hx]; rfl
    obtain ⟨go, yl⟩ := w1 _ hd'
    obtain ⟨G, W, hg, hW, hk, hv⟩ := hs i x hx
    refine .inr ⟨go, I (i + 1), fun H3 q => ⟨l.length - (i + 1), by omega, rfl, hlt, q⟩, fun y H3 hy => ?_⟩
    obtain ⟨B3, s3, e3, x3⟩ := yl y H3 hy
    have o3 := o2.step0 s3 e3
    refine hg B3 H3 (wipe σ vs) y o3.ex (o3.sl.wipe vs) x3 _ fun σ4 s4 on => ⟨on.wipe hW, ?_⟩
    show tk σ4 H3 _
    refine hk B3 H3 σ4 ⟨o3.ex, s4, True.intro⟩ _ fun kv B5 H5 s5 o5 v5 => ?_
    cases (show Rp K B5 kv (.str (key x)) from v5)
    refine hv B5 H5 σ4 o5 _ fun v B6 H6 s6 o6 v6 => ?_
    have s26 : Stp [] B2 H' B6 H6 := (s3.trans s5).trans s6
    have hd6 : H6 Dp = some (.dK kvs) := s26.fr _ _ (by simp) hd2
    have hb6 : B6 Dp = none := by rw [s26.nb _ _ hd2]; exact hb2
    have r6 : RpK K B6 kvs (out i) := RpK.mono s26.ex r2
    have hl : kvs.length = i := by rw [r6.length]; show ((l.take i).map _).length = i; rw [List.length_map, List.length_take]; omega
    have hnew : ∀ p ∈ kvs, p.1 ≠ (Sum.inr (key x) : Key) := fun p hp z => by
      have h1 : p.1 ∈ kvs.map (·.1) := List.mem_map.mpr ⟨p, hp, rfl⟩
      rw [r6.keys, z] at h1
      obtain ⟨q', hq', eq'⟩ := List.mem_map.mp h1
      obtain ⟨y', hy', rfl⟩ := List.mem_map.mp hq'
      have ek : key y' = key x := Sum.inr.inj eq'
      obtain ⟨j, hj, ej⟩ := List.getElem_of_mem hy'
      have hj' : j < i := by rw [List.length_take] at hj; omega
      have hjl : l[j]? = some y' := by
        rw [List.getElem_take] at ej
        rw [List.getElem?_eq_getElem (by omega), ej]
      have a1 : (l.map key)[j]? = some (key x) := by rw [List.getElem?_map, hjl, ← ek]; rfl
      have a2 : (l.map key)[i]? = some (key x) := by rw [List.getElem?_map, hx]; rfl
      obtain ⟨l1, g1⟩ := List.getElem?_eq_some_iff.mp a1
      obtain ⟨l2, g2⟩ := List.getElem?_eq_some_iff.mp a2
      exact List.pairwise_iff_getElem.mp nd j i l1 l2 hj' (g1.trans g2.symm)
    refine ⟨kvs, Sum.inr (key x), rfl, hd6, lt_line (by omega), ?_⟩
    rw [putK_new hnew]
    have key' : ∀ b, b ≠ Dp → upd H6 Dp (.dK (kvs ++ [(Sum.inr (key x), v)])) b = H6 b := fun b n => upd_ne n
    have hne : ∀ b u, H1 b = some u → b ≠ Dp := fun b u e z => by rw [z, hDp] at e; cases e
    have s16 := s2.trans s26
    refine ⟨B6, _, ⟨s16.ex, fun b u n e => by rw [key' b (hne b u e)]; exact s16.fr b u n e, s16.nb, fun b u e => by rw [key' b (hne b u e)]; exact s16.dm b u e⟩, ⟨fun b u e => ?_, o2.sl.mono s26.ex, True.intro⟩, upd_same, hb6, ?_⟩
    · rw [key' b (fun z => by rw [z, hb6] at e; cases e)]; exact o6.ex b u e
    · show RpK K B6 _ ((l.take (i + 1)).map _)
      rw [List.take_add_one, hx, List.map_append]
      exact RpK.append r6 (.cons v6 .nil)
  · have e : i = l.length := by omega
    subst e
    have ho : out l.length = l.map fun x => ((Sum.inr (key x) : Key), val x) := by show (l.take l.length).map _ = _; rw [List.take_length]
    rw [ho] at r2
    have eB : Ex B2 (upd B2 Dp (.dK kvs)) := Ex.new hb2
    have s02 := s1.trans s2
    refine .inl ⟨w2 (by rw [List.length_map]; exact Nat.le_refl _), q _ (upd B2 Dp (.dK kvs)) H' ⟨s02.ex.trans eB, s02.fr, fun b u e => ?_, s02.dm⟩ ⟨fun b u e => ?_, o2.sl.mono eB, True.intro⟩ (Rp.dic upd_same (RpK.mono eB r2))⟩
    · rw [upd_ne (ne_of_none e hD0)]
      exact s02.nb b u e
    · by_cases hb : b = Dp
      · subst hb; rw [upd_same] at e; cases e; exact hd2
      · rw [upd_ne hb] at e; exact o2.ex b u e
end
/-- a local name holds the class: C(..) by it -/
def tMakeL (i : Nat) (C : Addr) (sp : Sp) (t : TA) : TE := fun σ H Q => σ[i]? = some (some (.ref C)) ∧ tMake C sp [] E0 t σ H Q
open PySem.Spec PyProof.Rows in
theorem pe_makeL {X : Cx} {k i : Nat} {f C : Addr} {fd : FuncData} {ps : List Str} {sp : Sp} {x : Str} {p pos : Pos} {e : Expr} {es : List Expr} {t : TA} (M : Mk X.K C f) (F : FnOk X.prog X.w X.K X.mg X.base CX0 k f fd ps sp) (hb : Binds X.K fd ps []) (hr : Room (k + 1) X.A)
    (hN : X.N[i]? = some x) (hv : Vis X.env.scope x) (ha : PA X (e :: es) t)
    (hdb : (x == ("__debug__" : Str)) = false := by decide) (hcd : (x == ("__classdict__" : Str)) = false := by decide)
    (he : starEach (e :: es) X.env = (false, eval e X.env) :: starEach es X.env := by rfl) (hpl : (backTo pos (starEach es X.env)).any (·.1) = false := by rfl) : PE X (.Call (.Name x p) (e :: es) [] pos) (tMakeL i C sp t) := by
  refine ⟨fun pins s σ H Q I h => ?_⟩
  obtain ⟨hs, ht⟩ := h
  refine wpAny_Call_Name_kw (thn ((pe_var (pos := p) hN hv hdb hcd).run pins s σ H (fun v H1 => v = .ref C ∧ H1 = H) I ⟨.ref C, hs, rfl, rfl⟩) fun u s1 ⟨v, H1, I1, r1, q1⟩ => ?_)
  obtain ⟨rfl, rfl⟩ := q1
  cases r1
  refine PySem.W.callWith_K (h₀ := X.base) I.ok.mod.kin M.kp (thn (ha.run pos pins s1 σ _ _ I1 ht) fun us s2 ⟨vs, H2, I2, r, q⟩ => ⟨I2.kIn, ?_⟩) he hpl
  exact run_make M F hr hb .nil pass0 I2 r q
/-- o.f = v while o is not told yet -/
theorem st_fldNew {B0 H0 B H : Hp} {ss : List Sl} {σ : L2.St} {D : Ends} {i : Nat} {te : TE} {d : DV.D} {p C dx : Addr} {fs : List (Str × V)} {f : Str} (s : Stp [] B0 H0 B H) (o : Okk K [] ss [] B H σ) (hp0 : H0 p = none) (hbp : B p = none) (hi : ss[i]? = some (.val (.ref p)))
    (hp : H p = some (.ins C dx fs)) (c : Cls K C) (n : NoAttr K C f) (hl : fs.length < 1000) (he : Ev K [] ss [] te (.dat d) [])
    (k : ∀ v B' H', Stp [] B0 H0 B' H' → Okk K [] ss [] B' H' σ → Ex B B' → B' p = none → H' p = some (.ins C dx (putF f v fs)) → Rp K B' v d → D.nx σ H') : sFld K (tVar i) te f D σ H := by
  refine he B H σ o _ fun v B1 H1 s1 o1 v1 => ?_
  obtain ⟨u, hu, eu⟩ := o1.sl.get i _ hi (by intro z; cases z)
  cases (show u = V.ref p from eu)
  have hp1 : H1 p = some (.ins C dx fs) := s1.fr _ _ (by simp) hp
  have hb1 : B1 p = none := by rw [s1.nb _ _ hp]; exact hbp
  have s01 := s.trans s1
  refine ⟨.ref p, hu, p, C, dx, fs, rfl, hp1, c, n, hl, ?_⟩
  exact k v B1 _ (SP.stp_upd s01 hp0) ⟨SP.ex_upd o1.ex hb1, o1.sl, True.intro⟩ s1.ex hb1 upd_same v1
end DV
/-! ZM: zip of a tuple and a list, by the library's zip over two iterators of any kind. -/
namespace ZM
open PySem PySem.Spec PyProof.Rows L2 RZ
/-- what a turn of zip(tuple, list) gives -/
def ItzM (K : PySem.W.Frag) (a b : Addr) (n m : Nat) : It where
  go i H := ∃ xs ys x y, SqT K H a xs ∧ SqL K H b ys ∧ xs[i]? = some x ∧ ys[i]? = some y ∧ xs.length = n ∧ ys.length = m
  yld i H v H' := ∃ T x y, v = .ref T ∧ H T = none ∧ H' = upd H T (.tup [x, y]) ∧ (∀ xs, SqT K H a xs → xs[i]? = some x) ∧ ∀ ys, SqL K H b ys → ys[i]? = some y
  stop i H := ∃ xs ys, SqT K H a xs ∧ SqL K H b ys ∧ xs.length = n ∧ ys.length = m ∧ min n m ≤ i
/-- the five cells of it between two turns -/
def Cells (z TI TO i1 i2 a b : Addr) (N i : Nat) (h : Heap) : Prop := i ≤ N ∧ IsZip h z TI TO .none ∧ IsPair h TI (.ref i1) (.ref i2) ∧ (∃ x y, IsPair h TO x y) ∧ h.IsTupleIter i1 a i ∧ h.IsListIter i2 b i
theorem sepOf {z TI TO i1 i2 a b : Addr} (D : ZipApart z TI TO i1 i2 a b) : ZipSep2 z TI TO i1 i2 [i1, a] [i2, b] where
  TIz := D.TIz
  TOz := D.TOz
  TITO := D.TITO
  TIi1 := D.TIi1
  mem1 := by simp
  zf1 := by simp [Ne.symm D.i1z, Ne.symm D.l1z]
  Tf1 := by simp [D.TOi1, Ne.symm D.l1TO]
  TIi2 := D.TIi2
  mem2 := by simp
  zf2 := by simp [Ne.symm D.i2z, Ne.symm D.l2z]
  Tf2 := by simp [D.TOi2, Ne.symm D.l2TO]
  sep1_2 := by simp [D.i12, Ne.symm D.l2i1]
  sep2_1 := by simp [Ne.symm D.i12, Ne.symm D.l1i2]
theorem cases5 {c z TI TO i1 i2 : Addr} (h : c ∈ [z, TI, TO, i1, i2]) : c = z ∨ c = TI ∨ c = TO ∨ c = i1 ∨ c = i2 := by simpa using h
theorem cell_obj {z TI TO i1 i2 a b c : Addr} {N i : Nat} {h : Heap} (st : Cells z TI TO i1 i2 a b N i h) (hc : c ∈ [z, TI, TO, i1, i2]) : ∃ o, h.get? c = some o ∧ ∀ v, o.data ≠ .cell v := by
  obtain ⟨_, p1, p2, ⟨_, _, p3⟩, ⟨o4, p4, _, d4⟩, ⟨o5, p5, _, d5⟩⟩ := st
  rcases cases5 hc with rfl | rfl | rfl | rfl | rfl
  · exact ⟨_, p1, nofun⟩
  · exact ⟨_, p2, nofun⟩
  · exact ⟨_, p3, nofun⟩
  · exact ⟨o4, p4, fun v e => by rw [d4] at e; cases e⟩
  · exact ⟨o5, p5, fun v e => by rw [d5] at e; cases e⟩
theorem turnM {P : Program} {w : World} {K : PySem.W.Frag} {elts : List Expr} {kk : Nat} {tpos : Pos} {a b z TI TO i1 i2 : Addr} {n m : Nat} (D : ZipApart z TI TO i1 i2 a b) : Turn P w K (.Tuple elts kk tpos) (ItzM K a b n m) [z, TI, TO, i1, i2] z (Cells z TI TO i1 i2 a b (min n m)) where
  mem := List.mem_cons_self
  obj i h st c hc := cell_obj st hc
  keep i h h' st k := by
    obtain ⟨p0, p1, p2, ⟨x, y, p3⟩, p4, p5⟩ := st
    refine ⟨p0, k _ ?_ _ p1, k _ ?_ _ p2, ⟨x, y, k _ ?_ _ p3⟩, p4.at (k _ ?_), p5.at (k _ ?_)⟩ <;> simp
  item := by
    intro X hP hw hK hc i pins s σ H E I free st go
    subst hP hw hK
    have st0 := st
    obtain ⟨p0, p1, p2, ⟨u0, v0, p3⟩, p4, p5⟩ := st
    obtain ⟨xs, ys, x, y, qa, qb, ex, ey, hn, hm⟩ := go
    have i1n := (List.getElem?_eq_some_iff.mp ex).1
    have i2m := (List.getElem?_eq_some_iff.mp ey).1
    obtain ⟨ua, ra, ta, _⟩ := I.tuple qa
    obtain ⟨ub, rb, lb, _⟩ := I.list qb
    obtain ⟨u, eu, ru⟩ := ra.get ex
    obtain ⟨v, ev, rv⟩ := rb.get ey
    have none1 : X.A.in1.handled = none := I.ok.hd hc
    refine wpAny_pyNext_zipD2_item (sepOf D) (Draws.tuple none1 i1 a D.l1i1 ua.toArray) (Draws.list none1 i2 b D.l2i2 ub.toArray) p1 p2 p3 ⟨p4, ta⟩ ⟨p5, lb.isList⟩
      (by simpa using (List.getElem?_eq_some_iff.mp eu).1) (by simpa using (List.getElem?_eq_some_iff.mp ev).1) fun v1 v2 h1 tk e1 e2 n1 n3 n4 n5 nT nS old => ?_
    have w1 : v1 = u := by simpa [eu] using e1.symm
    have w2 : v2 = v := by simpa [ev] using e2.symm
    subst w1 w2
    have lt : ∀ c ∈ [z, TI, TO, i1, i2], c < s.heap.objs.size := fun c h => (cell_obj st0 h).elim fun o q => Heap.lt_size q.1
    refine ⟨_, rfl, wpAny_letOwnedTupleGo_zip (s := { s with heap := h1, toks := tk }) n1 fun h2 m1 same => ?_⟩
    have at2 : ∀ c o, c ≠ z → h1.get? c = some o → h2.get? c = some o := fun c o n q => (same.2 c n).trans q
    have old2 : ∀ c o, c ∉ [z, TI, TO, i1, i2] → s.heap.get? c = some o → h2.get? c = some o := fun c o n q => by
      simp only [List.mem_cons, List.not_mem_nil, or_false, not_or] at n
      exact at2 c o n.1 (old c o n.1 n.2.2.1 n.2.2.2.1 n.2.2.2.2 q)
    have newT : h2.get? s.heap.objs.size = some { cls := .type "tuple", data := .seq #[v1, v2] } := at2 _ _ (Nat.ne_of_gt (lt z (by simp))) nT
    have I1 : Inv X pins σ (upd H s.heap.objs.size (.tup [x, y])) { s with heap := h2, toks := tk } :=
      I.turnedNew (t' := tk) (ch := [z, TI, TO, i1, i2]) old2 free (Nat.le_refl _) ⟨by show 2 ≤ sizeLine; decide, [v1, v2], .cons ru (.cons rv .nil), _, newT, rfl, _, rfl⟩
    refine ⟨.ref _, _, I1, rfl, ⟨_, x, y, rfl, I.hok.fresh (Nat.le_refl _), rfl, fun l q => I.tuple_inj q qa ▸ ex, fun l q => I.list_inj q qb ▸ ey⟩, ⟨by omega, m1, at2 _ _ D.TIz (old _ _ D.TIz D.TITO D.TIi1 D.TIi2 p2), ⟨v1, v2, at2 _ _ D.TOz n3⟩, n4.1.at fun o q => at2 _ o D.i1z q, n5.1.at fun o q => at2 _ o D.i2z q⟩, fun c h => ?_⟩
    rw [upd_ne (Nat.ne_of_lt (lt c h))]
    exact (free c h).1
  done := by
    intro X hP hw hK hc i pins s σ H E I free st fin
    subst hP hw hK
    obtain ⟨p0, p1, p2, ⟨u0, v0, p3⟩, p4, p5⟩ := st
    obtain ⟨xs, ys, qa, qb, hn, hm, he⟩ := fin
    obtain ⟨ua, ra, ta, _⟩ := I.tuple qa
    obtain ⟨ub, rb, lb, _⟩ := I.list qb
    have la := ra.length
    have lb' := rb.length
    have none1 : X.A.in1.handled = none := I.ok.hd hc
    refine wpAny_pyNext_zipD2_end (i := i) (sepOf D) (Draws.tuple none1 i1 a D.l1i1 ua.toArray) (Draws.list none1 i2 b D.l2i2 ub.toArray) p1 p2 p3 ⟨p4, ta⟩ ⟨p5, lb.isList⟩
      (by rw [List.size_toArray]; omega) (by rw [List.size_toArray]; omega) (by rw [List.size_toArray, List.size_toArray]; omega) fun h1 tk old => ⟨rfl, I.turnedL (t' := tk) (ch := [z, TI, TO, i1, i2]) (fun c o n q => ?_) free⟩
    simp only [List.mem_cons, List.not_mem_nil, or_false, not_or] at n
    exact old c o n.1 n.2.2.1 n.2.2.2.1 n.2.2.2.2 q
  self A i s Q E st h := wpAny_pyIter_zip st.2.1 h
/-- zip(t, l) -/
def iZipM (K : PySem.W.Frag) (ta : TA) : TI := fun σ H R => ta σ H fun vs H1 => ∃ a b xs ys, vs = [.ref a, .ref b] ∧ SqT K H1 a xs ∧ SqL K H1 b ys ∧ R (ItzM K a b xs.length ys.length) H1
theorem pi_zipM {X : Cx} {e1 e2 : Expr} {ta : TA} {np cp tp : Pos} {elts : List Expr} {n : Nat} (hg : Gl X "zip") (hm : X.mg "zip" = none) (ha : PA X [e1, e2] ta)
    (h1 : starEach [e1, e2] X.env = (false, eval e1 X.env) :: starEach [e2] X.env := by rfl) (h2 : (backTo cp (starEach [e2] X.env)).any (·.1) = false := by rfl) : PI X (.Tuple elts n tp) (.Call (.Name "zip" np) [e1, e2] [] cp) (iZipM X.K ta) where
  run pins s σ H R I h := by
    refine Call_ (ld_blt I hg hm PyProof.Rows.boot_zip (PyProof.Rows.callWith_type1 (thn (ha.run cp pins s σ H _ I h) fun us t ⟨vs, G, I1, rv, a, b, xs, ys, ev, qa, qb, q⟩ => ?_) h1 h2))
    subst ev
    obtain ⟨u1, u2, rfl, r1, r2⟩ := vals2 rv
    cases r1
    cases r2
    obtain ⟨ua, ra, ta', _⟩ := I1.tuple qa
    obtain ⟨ub, rb, lb, _⟩ := I1.list qb
    have at' := ta'
    obtain ⟨oa, ga, _⟩ := at'
    have far : ∀ k, FpOk X pins G (t.heap.objs.size + k) := fun k => I1.fpOk (Nat.le_add_right _ _) (I1.hok.fresh (Nat.le_add_right _ _))
    refine zip_begins2 (begins_tuple a ua.toArray) (begins_list b ub.toArray) ta' lb.isList fun h' z0 z2 z3 c1 c2 _ old => wpAny_pyIter_zip z0 ⟨_, _, _, _, G, rfl, I1.kept (t' := t.toks) old, turnM (PySem.W.ktu_apart t.heap.objs.size a b (Heap.lt_size ga) lb.lt), ⟨Nat.zero_le _, z0, z2, ⟨_, _, z3⟩, ⟨_, c1, rfl, rfl⟩, ⟨_, c2, rfl, rfl⟩⟩, fun c hc => ?_, q⟩
    rcases cases5 hc with rfl | rfl | rfl | rfl | rfl
    · exact far 4
    · exact far 2
    · exact far 3
    · exact far 0
    · exact far 1
end ZM
namespace SP
open PySem L2 DV PM
def schD (C : Addr) (T : List Tab) : D := .obj C [("tables", .nt (T.map fun t => .str t.1)), ("_columns", .dic (T.map fun t => ((Sum.inr t.1 : Key), .tup (t.2.map encC)))), ("_rows", .lst ((rowsOf T).map D.str))]
def schOk (T : List Tab) : Prop := tabsOk T ∧ (T.map (·.1)).Nodup
def spInit (K : PySem.W.Frag) (C : Addr) : Sp := fun vs H Q _ => ∃ p dx T v B0 H0, vs = [.ref p, v] ∧ H = upd (upd H0 dx (.own p)) p (.ins C dx []) ∧ H0 p = none ∧ H0 dx = none ∧ dx ≠ p ∧ Ex B0 H0 ∧ Rp K B0 v (encTs T) ∧ schOk T ∧
  ∀ B' H', Stp [] B0 H0 B' H' → Ex B' H' → Rp K B' (.ref p) (schD C T) → Q .non H'
def preParse (C : Addr) : Pre := fun rs Pl cs r cs' => ∃ x T, rs = [.val (.ref C), .dat (.str x)] ∧ x.length ≤ 100000 ∧ PyData.strOk x = true ∧ readText x = some T ∧ schOk T ∧ Pl = [] ∧ cs = [] ∧ r = .dat (schD C T) ∧ cs' = []
def preStr (C : Addr) : Pre := fun rs Pl cs r cs' => ∃ T, rs = [.dat (schD C T)] ∧ tabsOk T ∧ Pl = [] ∧ cs = [] ∧ r = .dat (.str (textOf T)) ∧ cs' = []
def preSEq (C : Addr) : Pre := fun rs Pl cs r cs' => ∃ T U, rs = [.dat (schD C T), .dat (schD C U)] ∧ tabsOk T ∧ tabsOk U ∧ Pl = [] ∧ cs = [] ∧ r = .dat (.bl (decide (rowsOf T = rowsOf U))) ∧ cs' = []
def preCols (C : Addr) : Pre := fun rs Pl cs r cs' => ∃ T n cols, rs = [.dat (schD C T), .dat (.str n)] ∧ T.lookup n = some cols ∧ Pl = [] ∧ cs = [] ∧ r = .dat (.tup (cols.map encC)) ∧ cs' = []
section
variable {K : PySem.W.Frag} {P : List Addr} {ss : List Sl} {cs cs1 : List (List D)} {ta : TA}
theorem ev_makeL {i : Nat} {C : Addr} {T : List Tab} (hi : ss[i]? = some (.val (.ref C))) (ha : EvA K P ss cs ta [.dat (encTs T)] cs1) (hT : schOk T) : Ev K P ss cs (tMakeL i C (spInit K C) ta) (.dat (schD C T)) cs1 := fun B H σ o Q q => by
  obtain ⟨w, hw, ew⟩ := o.sl.get i _ hi (by intro z; cases z)
  cases (show w = V.ref C from ew)
  refine ⟨hw, ha B H σ o _ fun vs B1 H1 s1 o1 r1 => ?_⟩
  obtain ⟨v, rfl, h1⟩ := rs1 r1
  intro x dx hx hdx hne
  exact ⟨x, dx, T, v, B1, H1, rfl, rfl, hx, hdx, hne, o1.ex, h1, hT, fun B' H' s' e' r' => ⟨rfl, q (.ref x) B' H' (s1.trans s'.ofNil) (o1.step0 s' e') r'⟩⟩
theorem valD_cols {T : List Tab} {n : Str} {cols : List Col} (h : T.lookup n = some cols) : valD (T.map fun t => ((Sum.inr t.1 : Key), D.tup (t.2.map encC))) (.inr n) = some (.tup (cols.map encC)) := by
  induction T with
  | nil => cases h
  | cons t T ih =>
    obtain ⟨a, c⟩ := t
    by_cases e : n = a
    · subst e
      have : c = cols := by simpa [List.lookup] using h
      subst this
      unfold valD
      simp
    · have e' : (n == a) = false := by simpa using e
      have h2 : T.lookup n = some cols := by simpa [List.lookup, e'] using h
      have := ih h2
      unfold valD at this ⊢
      have ne : ¬ (Sum.inr a : Key) = Sum.inr n := fun z => e (Sum.inr.inj z).symm
      simpa [List.find?_cons, ne] using this
theorem RpF.none {B : Hp} {f : Str} : ∀ {vs : List (Str × V)} {ds : List (Str × D)}, RpF K B vs ds → ds.lookup f = none → vs.lookup f = none
  | _, _, .nil, _ => rfl
  | _, _, .cons (k := k) h r, e => by
    by_cases hk : f = k
    · subst hk; simp [List.lookup] at e
    · have q : (f == k) = false := by simpa using hk
      simp only [List.lookup, q] at e ⊢
      exact RpF.none r e
theorem ev_meth1 {te : TE} {C : Addr} {m : Str} {pre : Pre} {fs : List (Str × D)} {rs : List Sl} {r : Sl} {cs2 : List (List D)} (h : Ev K P ss cs te (.dat (.obj C fs)) cs1) (hl : fs.lookup m = none) (ha : EvA K P ss cs1 ta rs cs2) (hp : pre (.dat (.obj C fs) :: rs) [] [] r []) :
    Ev K P ss cs (tMeth C m (spM K pre) [] E0 te ta) r cs2 := fun B H σ o Q q =>
  h B H σ o _ fun x B1 H1 s1 o1 v1 => by
    have a' : Rp K B1 x (.obj C fs) := v1
    cases a' with
    | @obj a _ dx fvs _ h5 rf =>
      refine ⟨a, dx, fvs, rfl, o1.ex _ _ h5, RpF.none rf hl, ha B1 H1 σ o1 _ fun vs B2 H2 s2 o2 r2 => ?_⟩
      rw [List.append_nil]
      exact ⟨B2, _, [], [], r, [], hp, o2.ex, ⟨RS.mono s2.ex v1, r2⟩, True.intro, fun v B3 H3 s3 e3 _ v3 => q v B3 H3 ((s1.trans s2).trans s3.ofNil) (o2.step0 s3 e3) v3⟩
theorem wd_zipM {ds es : List D} (h : EvA K P ss cs ta [.dat (.tup ds), .dat (.lst es)] cs1) : WD K P ss cs (ZM.iZipM K ta) (zipD ds es) cs1 := fun B H σ o R q =>
  h B H σ o _ fun vs B1 H1 s1 o1 r1 => by
    obtain ⟨v, v', rfl, h1, h2⟩ := rs2 r1
    have a' : Rp K B1 v (.tup ds) := h1
    have b' : Rp K B1 v' (.lst es) := h2
    cases a' with
    | @tup a xs _ h5 r => cases b' with
      | @lst b ys _ h6 r' =>
        refine ⟨_, _, xs, ys, rfl, .inl (RdEx o1.ex h5), .inl (.inl (o1.ex _ _ h6)), q _ B1 H1 s1 o1 fun i B2 H2 e1 e2 => ?_⟩
        have z : SqT K H2 a xs := .inl (RdEx e2 (RdEx e1 h5))
        have z' : SqL K H2 b ys := .inl (.inl (e2 _ _ (e1 _ _ h6)))
        refine ⟨fun d hd => ?_, fun hl => ⟨xs, ys, z, z', rfl, rfl, ?_⟩⟩
        · obtain ⟨e, e', he, he', rfl⟩ := zipD_get hd
          obtain ⟨v, h1, h2⟩ := r.get he
          obtain ⟨v', h1', h2'⟩ := r'.get he'
          refine ⟨⟨xs, ys, v, v', z, z', h1, h1', rfl, rfl⟩, fun x H' y => ?_⟩
          obtain ⟨T, x', y', rfl, hT, rfl, f, f'⟩ := y
          have q1 := f xs z
          have q2 := f' ys z'
          rw [h1] at q1; rw [h1'] at q2
          cases q1; cases q2
          have s := stp_new (o := .tup [v, v']) e2 hT
          exact ⟨_, s, e2.updB, .tup (.inl upd_same) (.cons (h2.mono (e1.trans s.ex)) (.cons (h2'.mono (e1.trans s.ex)) .nil))⟩
        · rw [r.length, r'.length]
          have : (zipD ds es).length = min ds.length es.length := by simp [zipD]
          rw [this] at hl
          omega
theorem cb_isTT {ds : List D} : CbD K (rIsi K) [.dat (.tup ds), .val (.ty "tuple")] (.dat (.bl true)) := fun B H vs e h Q q => by
  obtain ⟨v, v', rfl, h1, h2⟩ := rs2 h
  have a' : Rp K B v (.tup ds) := h1
  cases a' with
  | @tup a xs _ h5 r => exact ⟨_, v', .type "tuple", .type "tuple", true, rfl, by rw [show v' = V.ty "tuple" from h2]; exact .ty _, (RdEx e h5).elim (fun h => .base (.tup h)) (fun ⟨_, h⟩ => .fTuple h), kit_ty (by decide +kernel), q _ B H (Stp.refl _ _ _) e (.bl _)⟩
theorem cb_isI {i : Int} {n : String} {b : Bool} (hk : kitB "int" n = some b) : CbD K (rIsi K) [.dat (.int i), .val (.ty n)] (.dat (.bl b)) := fun B H vs e h Q q => by
  obtain ⟨v, v', rfl, h1, h2⟩ := rs2 h
  have a' : Rp K B v (.int i) := h1
  cases a'
  exact ⟨_, v', .type "int", .type n, b, rfl, by rw [show v' = V.ty n from h2]; exact .ty _, .base (.int _), kit_ty hk, q _ B H (Stp.refl _ _ _) e (.bl _)⟩
/-- what an instance of the class is told to be -/
structure SchCls (K : PySem.W.Frag) (C : Addr) : Prop where
  cl : Cls K C
  n1 : NoAttr K C "tables"
  n2 : NoAttr K C "_columns"
  n3 : NoAttr K C "_rows"
  ha : PySem.W.findIn K (.ref C) "__class__" = some (some (.builtin "object.__class__"))
  hn : PySem.W.specialIn K (.builtin "object.__class__") "__get__" = some (some (.builtin "getset_descriptor.__get__"))
  htk : PySem.W.takesIn K (.builtin "object.__class__") = some true
  hm : PySem.W.mroIn K C (.type "object") = some true
  hk : PySem.W.kitOne K (.ref C) (.ref C) = some true
theorem cb_isC {C : Addr} {fs : List (Str × D)} (c : SchCls K C) : CbD K (rIsi K) [.dat (.obj C fs), .val (.ref C)] (.dat (.bl true)) := fun B H vs e h Q q => by
  obtain ⟨v, v', rfl, h1, h2⟩ := rs2 h
  have a' : Rp K B v (.obj C fs) := h1
  cases a' with
  | @obj a _ dx fvs _ h5 rf => exact ⟨_, v', .ref C, .ref C, true, rfl, by rw [show v' = V.ref C from h2]; exact .own _, .base (.ins (e _ _ h5) c.cl c.ha c.hn c.htk c.hm), c.hk, q _ B H (Stp.refl _ _ _) e (.bl _)⟩
def preWithin : Pre := fun rs Pl cs r cs' => ∃ v lo hi : Int, rs = [.dat (.int v), .dat (.int lo), .dat (.int hi)] ∧ Pl = [] ∧ cs = [] ∧ r = .dat (.bl (decide (lo ≤ v) && decide (v ≤ hi))) ∧ cs' = []
def lowsOf (cols : List Col) : List Int := 0 :: cols.map fun c => if c.2.isNone then -1000000 else 0
def rowB (cols : List Col) (ns : List Int) : Bool := decide (ns.length = 1 + cols.length) && ((List.zip ns (lowsOf cols)).all fun p => decide (p.2 ≤ p.1) && decide (p.1 ≤ 1000000))
def preIsRow (C : Addr) : Pre := fun rs Pl cs r cs' => ∃ T n cols, ∃ ns : List Int, rs = [.dat (schD C T), .dat (.str n), .dat (.tup (ns.map D.int))] ∧ T.lookup n = some cols ∧ cols.length ≤ 1000 ∧ ns.length ≤ 1000 ∧ Pl = [] ∧ cs = [] ∧ r = .dat (.bl (rowB cols ns)) ∧ cs' = []
/-! rows of texts that are ok -/
theorem ok_join {y : Str} (hy : PyData.strOk y = true) : ∀ {ls : List Str}, ls ≠ [] → (∀ l ∈ ls, PyData.strOk l = true) → PyData.strOk (Txt.join y ls) = true := by
  intro ls
  induction ls with
  | nil => intro z; exact absurd rfl z
  | cons a r ih =>
    intro _ h
    cases r with
    | nil => rw [join_one]; exact h a (by simp)
    | cons b r =>
      rw [join_cons]
      have h1 := h a (by simp)
      have h2 := ih (by simp) fun l hl => h l (List.mem_cons_of_mem _ hl)
      unfold PyData.strOk at *
      rw [all_list] at *
      rw [app_list, app_list, List.all_append, List.all_append, hy, h1, h2]
      rfl
theorem row_ok {T : List Tab} (h : tabsOk T) {r : Str} (hr : r ∈ rowsOf T) : PyData.strOk r = true ∧ r.length ≤ 30 := by
  obtain ⟨ws, hw, rfl⟩ := List.mem_map.mp hr
  obtain ⟨t, ht, hw⟩ := List.mem_flatMap.mp hw
  obtain ⟨h1, _, h2⟩ := h.2 t ht
  have lits : PyData.strOk "table" = true ∧ PyData.strOk "" = true ∧ PyData.strOk "plain" = true ∧ PyData.strOk "ref" = true ∧ PyData.strOk sp = true := ⟨by decide +kernel, by decide +kernel, by decide +kernel, by decide +kernel, by decide +kernel⟩
  obtain ⟨a1, a2, a3, a4, a5⟩ := lits
  rcases List.mem_cons.mp hw with rfl | hw
  · refine ⟨ok_join a5 (by simp) fun l hl => ?_, row_len_tab h1.2.2.1⟩
    rcases List.mem_cons.mp hl with rfl | hl
    · exact a1
    · rw [List.mem_singleton.mp hl]; exact h1.2.2.2
  · obtain ⟨c, hc, rfl⟩ := List.mem_map.mp hw
    have hco := h2 c hc
    refine ⟨ok_join a5 (by obtain ⟨n, t⟩ := c; cases t <;> simp [colWords]) fun l hl => ?_, row_len_col hco⟩
    obtain ⟨n, t⟩ := c
    cases t with
    | none =>
      have : l = "" ∨ l = "" ∨ l = "plain" ∨ l = n := by simpa [colWords] using hl
      rcases this with rfl | rfl | rfl | rfl
      · exact a2
      · exact a2
      · exact a3
      · exact hco.1.2.2.2
    | some t =>
      have : l = "" ∨ l = "" ∨ l = "ref" ∨ l = n ∨ l = t := by simpa [colWords] using hl
      rcases this with rfl | rfl | rfl | rfl | rfl
      · exact a2
      · exact a2
      · exact a4
      · exact hco.1.2.2.2
      · exact (hco.2 _ rfl).2.2.2
theorem sum_le {ls : List Str} {k : Nat} (h : ∀ l ∈ ls, l.length ≤ k) : (ls.map (·.length)).sum ≤ k * ls.length := by
  induction ls with
  | nil => simp
  | cons a r ih =>
    have h1 := h a (by simp)
    have h2 := ih fun l hl => h l (List.mem_cons_of_mem _ hl)
    simp only [List.map_cons, List.sum_cons, List.length_cons]
    rw [Nat.mul_add]
    omega
end
end SP
namespace T3
open PySem L2 DV PM SP
abbrev s_Schema_init_ : Stmt := inClass (topS 24) 0
abbrev N_Schema_init_ : List Str := ["self", "tables", "name", "columns"]
theorem sc_Schema_init_ : FnScope N_Schema_init_ ["self", "tables"] (defScope s_Schema_init_) := ⟨rfl, rfl, rfl, by decide +kernel, rfl, by decide +kernel, by decide +kernel⟩

abbrev s_Schema_parse : Stmt := inClass (topS 24) 1
abbrev N_Schema_parse : List Str := ["cls", "text"]
theorem sc_Schema_parse : FnScope N_Schema_parse ["cls", "text"] (defScope s_Schema_parse) := ⟨rfl, rfl, rfl, by decide +kernel, rfl, by decide +kernel, by decide +kernel⟩

abbrev s_Schema_str_ : Stmt := inClass (topS 24) 2
abbrev N_Schema_str_ : List Str := ["self"]
theorem sc_Schema_str_ : FnScope N_Schema_str_ ["self"] (defScope s_Schema_str_) := ⟨rfl, rfl, rfl, by decide +kernel, rfl, by decide +kernel, by decide +kernel⟩

abbrev s_Schema_eq_ : Stmt := inClass (topS 24) 3
abbrev N_Schema_eq_ : List Str := ["self", "other"]
theorem sc_Schema_eq_ : FnScope N_Schema_eq_ ["self", "other"] (defScope s_Schema_eq_) := ⟨rfl, rfl, rfl, by decide +kernel, rfl, by decide +kernel, by decide +kernel⟩

abbrev s_Schema_columns : Stmt := inClass (topS 24) 4
abbrev N_Schema_columns : List Str := ["self", "table"]
theorem sc_Schema_columns : FnScope N_Schema_columns ["self", "table"] (defScope s_Schema_columns) := ⟨rfl, rfl, rfl, by decide +kernel, rfl, by decide +kernel, by decide +kernel⟩

section
variable {P : Program} {w : World} {K : PySem.W.Frag} {mg : Str → Option Value} {base : Heap} {C : Addr}
theorem ok_init {f fR : Addr} {fd fdR : FuncData} (F : Fun K "__init__" "Schema.__init__" s_Schema_init_ f fd) (G_text_rows : Def P w K mg base 2 "text_rows" fR fdR ["tables"] (spM K preRows)) (cl : Cls K C) (n1 : NoAttr K C "tables") (n2 : NoAttr K C "_columns") (n3 : NoAttr K C "_rows") (b_tuple : mg "tuple" = none) :
    FnOk P w K mg base CX0 3 f fd ["self", "tables"] (spInit K C) := by
  refine F.ok sc_Schema_init_ (fun vs H Q E h => ?_) (fun cdv A outer s H vs Q E hr h => ?_)
  · obtain ⟨p, dx, T, v, B0, H0, rfl, _⟩ := h
    rfl
  have nd := sc_Schema_init_.nd
  refine ⟨_, (pss_cons (ps_fld (pv 0) (pe_callTy call_tupleF (by rfl) b_tuple (by decide +kernel) (pa_cons (pe_lc (own := [("name", 2), ("columns", 3)]) (g := (gTup K 2 (gCons (gName 2) (gCons (gName 3) gNil)))) (tt := tYes) (te := (tVar 2)) rfl nd (pi_list (pv 1)) (blkOk_by (N := N_Schema_init_) (sc := defScope s_Schema_init_) (by decide +kernel)) (by intro _ _ _ _ _; exact (pg_tup (by rfl) (by exact (pgs_cons (by exact (pg_name (i := 2) nd (by rfl) (by first | exact .inl rfl | exact .inr rfl))) (by exact (pgs_cons (by exact (pg_name (i := 3) nd (by rfl) (by first | exact .inl rfl | exact .inr rfl))) (by exact pgs_nil))))))) (by intro _ _ _ _ _; exact pts_nil) (by intro _ _ _ _ _; exact (pv 2))) pa_nil)) rfl)
      (pss_cons (ps_fld (pv 0) (pe_dc (own := [("name", 2), ("columns", 3)]) (g := (gTup K 2 (gCons (gName 2) (gCons (gName 3) gNil)))) (tt := tYes) (tk := (tVar 2)) (tv := (tCB (rTuple1 K) (tCons (tVar 3) tNil))) rfl nd (pi_list (pv 1)) (blkOk_by (N := N_Schema_init_) (sc := defScope s_Schema_init_) (by decide +kernel)) (by intro _ _ _ _ _; exact (pg_tup (by rfl) (by exact (pgs_cons (by exact (pg_name (i := 2) nd (by rfl) (by first | exact .inl rfl | exact .inr rfl))) (by exact (pgs_cons (by exact (pg_name (i := 3) nd (by rfl) (by first | exact .inl rfl | exact .inr rfl))) (by exact pgs_nil))))))) (by intro _ _ _ _ _; exact pts_nil) (by intro _ _ _ _ _; exact (pv 2)) (by intro _ _ _ _ _; exact (pe_callTy call_tuple1 (by rfl) b_tuple (by decide +kernel) (pa_cons (pv 3) pa_nil)))) rfl)
      (pss_one (ps_fld (pv 0) (pe_def G_text_rows hr (by decide) (by rfl) (pa_cons (pv 1) pa_nil)) rfl)))), ?_⟩
  obtain ⟨p, dx, T, v, B0, H0, rfl, rfl, hp0, hd0, hne, e0, r0, hT, q⟩ := h
  have bp0 : B0 p = none := e0.free hp0
  have bd0 : B0 dx = none := e0.free hd0
  have s0 : Stp [] B0 H0 B0 (upd (upd H0 dx (.own p)) p (.ins C dx [])) := stp_upd (stp_upd (Stp.refl _ _ _) hd0) hp0
  have e1 : Ex B0 (upd (upd H0 dx (.own p)) p (.ins C dx [])) := ex_upd (ex_upd e0 bd0) bp0
  have hp : upd (upd H0 dx (.own p)) p (.ins C dx []) p = some (.ins C dx []) := upd_same
  generalize upd (upd H0 dx (.own p)) p (.ins C dx []) = H1 at s0 e1 hp ⊢
  obtain ⟨B, s1, o1⟩ := sta_start (vs := [.ref p, v]) (N := N_Schema_init_) (K := K) (P := []) (cs := []) (rs := [.val (.ref p), .dat (encTs T)]) e1 ⟨rfl, r0, True.intro⟩ True.intro
  have s01 := s0.trans s1
  have b1 : B p = none := by rw [s1.nb _ _ hp]; exact bp0
  refine st_seq (st_fldNew (K := K) (i := 0) (d := .nt (T.map fun t => .str t.1)) s01 o1 hp0 b1 rfl hp cl n1 (by decide) (ev_cb (ea_cons (EvF.ev (ef_mapE (l := T) (enc := encT) (wd_lst (ev_var (i := 1) rfl)) (fun t => .str t.1) (by have := hT.1.1; omega) (fun p i t acc hd' =>
    ⟨_, _, g_tup (g_cons g_name (g_cons g_name g_nil)), by decide, ev_var rfl⟩))) ea_nil) cb_tupleF) fun v1 B2 H2 s2 o2 e2 b2 hp2 r2 => ?_)
  dsimp only []
  refine st_seq (st_fldNew (K := K) (i := 0) (d := .dic (T.map fun t => ((Sum.inr t.1 : Key), .tup (t.2.map encC)))) s2 o2 hp0 b2 rfl hp2 cl n2 (by simp [putF]) (ev_dcE (l := T) (enc := encT) (wd_lst (ev_var (i := 1) rfl)) (fun t => t.1) (fun t => .tup (t.2.map encC)) (by have := hT.1.1; omega) hT.2 (fun i t hd' =>
    ⟨_, _, g_tup (g_cons g_name (g_cons g_name g_nil)), by decide, ev_var rfl, ev_cb (ea_cons (ev_var rfl) ea_nil) cb_tupleL⟩)) fun v2 B3 H3 s3 o3 e3 b3 hp3 r3 => ?_)
  refine st_fldNew (K := K) (i := 0) (d := .lst ((rowsOf T).map D.str)) s3 o3 hp0 b3 rfl hp3 cl n3 (by simp only [putF]; split <;> simp) (ev_call0 (ea_cons (ev_var (i := 1) rfl) ea_nil) ⟨T, rfl, hT.1, rfl, rfl, rfl, rfl⟩) fun v3 B4 H4 s4 o4 e4 b4 hp4 r4 => ?_
  refine q (upd B4 p (.ins C dx (putF "_rows" v3 (putF "_columns" v2 (putF "tables" v1 []))))) H4 ⟨s4.ex.trans (Ex.new b4), s4.fr, fun b u e => ?_, s4.dm⟩ (fun b u e => ?_) (Rp.obj upd_same ?_)
  · rw [upd_ne (ne_of_none e hp0)]; exact s4.nb b u e
  · by_cases hb : b = p
    · subst hb; rw [upd_same] at e; cases e; exact hp4
    · rw [upd_ne hb] at e; exact o4.ex b u e
  · have eB : Ex B4 (upd B4 p (.ins C dx (putF "_rows" v3 (putF "_columns" v2 (putF "tables" v1 []))))) := Ex.new b4
    have hf : putF "_rows" v3 (putF "_columns" v2 (putF "tables" v1 [])) = ([("tables", v1), ("_columns", v2), ("_rows", v3)] : List (Str × V)) := by
      have a1 : ¬ ("tables" : Str) = "_columns" := by decide +kernel
      have a2 : ¬ ("tables" : Str) = "_rows" := by decide +kernel
      have a3 : ¬ ("_columns" : Str) = "_rows" := by decide +kernel
      simp only [putF, if_neg a1, if_neg a2, if_neg a3]
    rw [hf] at eB ⊢
    exact .cons (r2.mono ((e3.trans e4).trans eB)) (.cons (r3.mono (e4.trans eB)) (.cons (r4.mono eB) .nil))
theorem ok_parse {f fR fI : Addr} {fd fdR fdI : FuncData} (F : Fun K "parse" "Schema.parse" s_Schema_parse f fd) (G_read_tables : Def P w K mg base 4 "read_tables" fR fdR ["text"] (spM K preRead)) (M_made : Mk K C fI) (G_init : FnOk P w K mg base CX0 3 fI fdI ["self", "tables"] (spInit K C)) (B_init : Binds K fdI ["self", "tables"] []) :
    FnOk P w K mg base CX0 5 f fd ["cls", "text"] (spM K (preParse C)) := by
  refine ok_body F sc_Schema_parse (fun rs Pl cs r cs' h => ?_) (fun X hX hr => ?_)
  · obtain ⟨x, T, rfl, _⟩ := h
    rfl
  obtain ⟨cdv, A, outer, s, H, E, rfl⟩ := hX
  have nd := sc_Schema_parse.nd
  refine ⟨_, (pss_one (ps_ret (pe_makeL (i := 0) M_made G_init B_init hr (by rfl) (.inl rfl) (pa_cons (pe_def G_read_tables hr (by decide) (by rfl) (pa_cons (pv 1) pa_nil)) pa_nil)))), ?_⟩
  intro rs Pl cs r cs' hp B0 H0 σ Dn st hP hd hn
  obtain ⟨x, T, rfl, hl, hs, hT, hk, rfl, rfl, rfl, rfl⟩ := hp
  exact st_ret st (ev_makeL (i := 0) rfl (ea_cons (ev_call0 (ea_cons (ev_var rfl) ea_nil) ⟨x, T, rfl, hl, hs, hT, rfl, rfl, rfl, rfl⟩) ea_nil) hk) hd
theorem un_negD {i : Int} : UnD K (rU fun i => .int (-i)) (.dat (.int i)) (.dat (.int (-i))) := fun B H x e h Q q => by
  have a' : Rp K B x (.int i) := h
  cases a'
  exact ⟨i, rfl, q _ B H (Stp.refl _ _ _) e (.int _)⟩
theorem text_small {T : List Tab} (hT : tabsOk T) : ((rowsOf T).map (·.length)).sum + (rowsOf T).length * ("\n" : Str).length ≤ 1000000 := by
  have h1 := sum_le (ls := rowsOf T) (k := 30) (fun l hl => (row_ok hT hl).2)
  have h2 := rows_len hT T.length
  rw [List.take_length] at h2
  have h3 := hT.1
  have h4 : ("\n" : Str).length = 1 := by decide +kernel
  rw [h4]
  omega
theorem ok_str {f : Addr} {fd : FuncData} (F : Fun K "__str__" "Schema.__str__" s_Schema_str_ f fd) (cl : Cls K C) (n3 : NoAttr K C "_rows") : FnOk P w K mg base CX0 1 f fd ["self"] (spM K (preStr C)) := by
  refine ok_body F sc_Schema_str_ (fun rs Pl cs r cs' h => ?_) (fun X hX hr => ?_)
  · obtain ⟨T, rfl, _⟩ := h
    rfl
  obtain ⟨cdv, A, outer, s, H, E, rfl⟩ := hX
  have nd := sc_Schema_str_.nd
  refine ⟨_, (pss_one (ps_ret (pe_join pe_str (pe_fld (pv 0) rfl)))), ?_⟩
  intro rs Pl cs r cs' hp B0 H0 σ Dn st hP hd hn
  obtain ⟨T, rfl, hT, rfl, rfl, rfl, rfl⟩ := hp
  exact st_ret st (ev_join ev_str (ev_fld (ev_var rfl) cl n3 rfl) (text_small hT)) hd
theorem ok_columns {f : Addr} {fd : FuncData} (F : Fun K "columns" "Schema.columns" s_Schema_columns f fd) (cl : Cls K C) (n2 : NoAttr K C "_columns") : FnOk P w K mg base CX0 1 f fd ["self", "table"] (spM K (preCols C)) := by
  refine ok_body F sc_Schema_columns (fun rs Pl cs r cs' h => ?_) (fun X hX hr => ?_)
  · obtain ⟨T, n, cols, rfl, _⟩ := h
    rfl
  obtain ⟨cdv, A, outer, s, H, E, rfl⟩ := hX
  have nd := sc_Schema_columns.nd
  refine ⟨_, (pss_one (ps_ret (pe_dget (hu_of hr) (pe_fld (pv 0) rfl) (pv 1) (fun _ _ => rfl)))), ?_⟩
  intro rs Pl cs r cs' hp B0 H0 σ Dn st hP hd hn
  obtain ⟨T, n, cols, rfl, hT, rfl, rfl, rfl, rfl⟩ := hp
  exact st_ret st (ev_dgetS (ev_fld (ev_var rfl) cl n2 rfl) (ev_var rfl) (valD_cols hT)) hd
theorem ok_eq {f : Addr} {fd : FuncData} (F : Fun K "__eq__" "Schema.__eq__" s_Schema_eq_ f fd) (sc : SchCls K C) (g_Schema : mg "Schema" = some (.ref C)) (b_isinstance : mg "isinstance" = none) : FnOk P w K mg base CX0 1 f fd ["self", "other"] (spM K (preSEq C)) := by
  refine ok_body F sc_Schema_eq_ (fun rs Pl cs r cs' h => ?_) (fun X hX hr => ?_)
  · obtain ⟨T, U, rfl, _⟩ := h
    rfl
  obtain ⟨cdv, A, outer, s, H, E, rfl⟩ := hX
  have nd := sc_Schema_eq_.nd
  refine ⟨_, (pss_one (ps_ret (pe_and (pe_callB call_isi (by rfl) b_isinstance (by decide +kernel) (pa_cons (pv 1) (pa_cons (pe_glob (v := .ref C) rfl g_Schema rfl) pa_nil))) (pe_one (pe_cmpR (op_eqA hr.units) (pe_fld (pv 0) rfl) (pe_fld (pv 1) rfl) (nomark _)))))), ?_⟩
  intro rs Pl cs r cs' hp B0 H0 σ Dn st hP hd hn
  obtain ⟨T, U, rfl, hT, hU, rfl, rfl, rfl, rfl⟩ := hp
  have e : (true && decide (rowsOf T = rowsOf U)) = decide (rowsOf T = rowsOf U) := Bool.true_and _
  rw [← e] at hd
  refine st_ret st (ev_andV (ev_cb (ea_cons (ev_var rfl) (ea_cons ev_val ea_nil)) (cb_isC sc)) (fun _ => ev_op (ev_fld (ev_var rfl) sc.cl sc.n3 rfl) (ev_fld (ev_var rfl) sc.cl sc.n3 rfl) (od_r (od_eq 1 1 (sh_strs fun w hw => (row_ok hT hw).1) (sh_strs fun w hw => (row_ok hU hw).1) (nb_strs _) (nb_strs _) ?_)))) hd
  exact decide_eq_true_iff.trans strs_inj.symm
end
end T3
/-! RG: cells that may change (a region): held beside the base, told to it while an expression reads them, hidden again behind it. -/
namespace RG
open PySem L2 DV
variable {K : PySem.W.Frag}
abbrev Cells := List (Addr × HO)
def pub (B : Hp) (L : Cells) : Hp := fun a => match L.lookup a with
  | some o => some o
  | none => B a
def off (B : Hp) (S : List Addr) : Hp := fun a => if a ∈ S then none else B a
def notTup : HO → Prop := fun o => (∀ xs, o ≠ .tup xs) ∧ ∀ u xs, o ≠ .frz u (.tup xs)
structure Held (B H : Hp) (L : Cells) : Prop where
  at' : ∀ p ∈ L, H p.1 = some p.2
  no : ∀ p ∈ L, B p.1 = none
theorem look_mem {L : Cells} {a : Addr} {o : HO} (h : L.lookup a = some o) : (a, o) ∈ L := by
  induction L with
  | nil => cases h
  | cons p L ih =>
    obtain ⟨b, u⟩ := p
    by_cases e : a = b
    · subst e
      have : u = o := by simpa [List.lookup] using h
      subst this
      exact List.mem_cons_self
    · have q : (a == b) = false := by simpa using e
      simp only [List.lookup, q] at h
      exact List.mem_cons_of_mem _ (ih h)
theorem look_none {L : Cells} {a : Addr} (h : L.lookup a = none) : ∀ p ∈ L, p.1 ≠ a := by
  induction L with
  | nil => intro p hp; cases hp
  | cons q L ih =>
    obtain ⟨b, u⟩ := q
    intro p hp z
    by_cases e : a = b
    · subst e; simp [List.lookup] at h
    · have q : (a == b) = false := by simpa using e
      simp only [List.lookup, q] at h
      rcases List.mem_cons.mp hp with rfl | hp
      · exact e z.symm
      · exact ih h p hp z
theorem pub_at {B : Hp} {L : Cells} {a : Addr} {o : HO} (h : L.lookup a = some o) : pub B L a = some o := by unfold pub; rw [h]
theorem pub_ne {B : Hp} {L : Cells} {a : Addr} (h : ∀ p ∈ L, p.1 ≠ a) : pub B L a = B a := by
  unfold pub
  cases e : L.lookup a with
  | none => rfl
  | some o => exact absurd rfl (h _ (look_mem e))
theorem pub_ex {B : Hp} {L : Cells} (h : ∀ p ∈ L, B p.1 = none) : Ex B (pub B L) := fun a o e => by
  rw [pub_ne fun p hp z => by rw [← z, h p hp] at e; cases e]
  exact e
theorem pub_in {B H : Hp} {L : Cells} (e : Ex B H) (h : Held B H L) : Ex (pub B L) H := fun a o q => by
  unfold pub at q
  cases z : L.lookup a with
  | none => rw [z] at q; exact e a o q
  | some u =>
    rw [z] at q
    cases q
    exact h.at' _ (look_mem z)
theorem pub_mem {B H : Hp} {L : Cells} (h : Held B H L) {p : Addr × HO} (hp : p ∈ L) : pub B L p.1 = some p.2 := by
  unfold pub
  cases z : L.lookup p.1 with
  | none => exact absurd rfl (look_none z p hp)
  | some u =>
    have := h.at' _ (look_mem z)
    rw [h.at' p hp] at this
    exact this.symm
theorem off_in {B : Hp} {S : List Addr} : Ex (off B S) B := fun a o h => by
  unfold off at h
  split at h
  · cases h
  · exact h
/-! data that reach no list, dict or object -/
mutual
def nd : D → Bool
  | .non => true
  | .bl _ => true
  | .int _ => true
  | .str _ => true
  | .tup ds => ndA ds
  | .lst _ => false
  | .dic _ => false
  | .obj _ _ => false
  | .fro _ => false
  | .nt _ => false
def ndA : List D → Bool
  | [] => true
  | d :: ds => nd d && ndA ds
end
mutual
theorem rp_off {B : Hp} {S : List Addr} (hS : ∀ a ∈ S, ∀ o, B a = some o → notTup o) : ∀ {v : V} {d : D}, Rp K B v d → nd d = true → Rp K (off B S) v d
  | _, _, .non, _ => .non
  | _, _, .bl b, _ => .bl b
  | _, _, .int i, _ => .int i
  | _, _, .str x, _ => .str x
  | _, _, .tup (a := a) h r, p => by
    have r' := rpA_off hS r (by simpa [nd] using p)
    refine .tup ?_ r'
    rcases h with h | ⟨u, h⟩
    · refine .inl ?_
      unfold off
      rw [if_neg fun z => (hS a z _ h).1 _ rfl]
      exact h
    · refine .inr ⟨u, ?_⟩
      unfold off
      rw [if_neg fun z => (hS a z _ h).2 _ _ rfl]
      exact h
  | _, _, .lst _ _, p => by simp [nd] at p
  | _, _, .dic _ _, p => by simp [nd] at p
  | _, _, .obj _ _, p => by simp [nd] at p
  | _, _, .fro _ _, p => by simp [nd] at p
  | _, _, .nt _ _ _, p => by simp [nd] at p
theorem rpA_off {B : Hp} {S : List Addr} (hS : ∀ a ∈ S, ∀ o, B a = some o → notTup o) : ∀ {vs : List V} {ds : List D}, RpA K B vs ds → ndA ds = true → RpA K (off B S) vs ds
  | _, _, .nil, _ => .nil
  | _, _, .cons h r, p => by
    have p' := p
    simp [ndA] at p'
    exact .cons (rp_off hS h p'.1) (rpA_off hS r p'.2)
end
theorem mu_off {B H : Hp} {S : List Addr} (hS : ∀ a ∈ S, ∀ o, B a = some o → notTup o) : ∀ {P : List Addr} {cs : List (List D)}, Mu K B H P cs → (∀ c ∈ cs, ndA c = true) → Mu K (off B S) H P cs
  | [], [], _, _ => True.intro
  | [], _ :: _, h, _ => h.elim
  | _ :: _, [], h, _ => h.elim
  | p :: P, ds :: cs, h, n => by
    obtain ⟨⟨vs, a, r⟩, b, c, m⟩ := h
    refine ⟨⟨vs, a, rpA_off hS r (n ds List.mem_cons_self)⟩, ?_, c, mu_off hS m fun c hc => n c (List.mem_cons_of_mem _ hc)⟩
    unfold off
    split
    · rfl
    · exact b
theorem mu_pub {B H : Hp} {L : Cells} (e : Ex B (pub B L)) : ∀ {P : List Addr} {cs : List (List D)}, (∀ p ∈ L, p.1 ∉ P) → Mu K B H P cs → Mu K (pub B L) H P cs := fun {P cs} hP m =>
  m.keep e (fun _ _ => rfl) fun p hp => by
    obtain ⟨_, _, b⟩ := m.mem hp
    rw [pub_ne fun q hq z => hP q hq (z ▸ hp)]
    exact b
/-! expressions beside a region -/
def EvR (K : PySem.W.Frag) (P : List Addr) (L : Cells) (F : Hp → Prop) (ss : List Sl) (cs : List (List D)) (te : TE) (r : Sl) (cs' : List (List D)) : Prop :=
  ∀ B H σ, Okk K P ss cs B H σ → Held B H L → F B → ∀ Q : VK, (∀ v B' H', Stp P B H B' H' → Okk K P ss cs' B' H' σ → Held B' H' L → F B' → RS K B' v r → Q v H') → te σ H Q
def EtR (K : PySem.W.Frag) (P : List Addr) (L : Cells) (F : Hp → Prop) (ss : List Sl) (cs : List (List D)) (tt : TT) (b : Bool) (cs' : List (List D)) : Prop :=
  ∀ B H σ, Okk K P ss cs B H σ → Held B H L → F B → ∀ Q : Bool → Hp → Prop, (∀ B' H', Stp P B H B' H' → Okk K P ss cs' B' H' σ → Held B' H' L → F B' → Q b H') → tt σ H Q
def Mono (F : Hp → Prop) : Prop := ∀ B B', Ex B B' → F B → F B'
theorem Held.step {P : List Addr} {L : Cells} {B H B' H' : Hp} (h : Held B H L) (s : Stp P B H B' H') (hP : ∀ p ∈ L, p.1 ∉ P) : Held B' H' L :=
  ⟨fun p hp => s.fr _ _ (hP p hp) (h.at' p hp), fun p hp => by rw [s.nb _ _ (h.at' p hp)]; exact h.no p hp⟩
section
variable {P : List Addr} {L : Cells} {F : Hp → Prop} {ss ss' : List Sl} {cs cs1 : List (List D)} {te : TE} {tt : TT} {r : Sl} {d : D} {b : Bool}
theorem EvR.of (hP : ∀ p ∈ L, p.1 ∉ P) (hF : Mono F) (h : Ev K P ss cs te r cs1) : EvR K P L F ss cs te r cs1 := fun B H σ o hh f Q q =>
  h B H σ o Q fun v B1 H1 s1 o1 v1 => q v B1 H1 s1 o1 (hh.step s1 hP) (hF _ _ s1.ex f) v1
theorem EtR.of (hP : ∀ p ∈ L, p.1 ∉ P) (hF : Mono F) (h : EvT K P ss cs tt b cs1) : EtR K P L F ss cs tt b cs1 := fun B H σ o hh f Q q =>
  h B H σ o Q fun B1 H1 s1 o1 => q B1 H1 s1 o1 (hh.step s1 hP) (hF _ _ s1.ex f)
/-- behind an expression that read the region -/
theorem hide {P : List Addr} {L : Cells} {F : Hp → Prop} {ss ss' : List Sl} {cs cs1 : List (List D)} {B H B2 H2 : Hp} {σ : L2.St} (hP : ∀ p ∈ L, p.1 ∉ P) (hT : ∀ p ∈ L, notTup p.2) (hF : Mono F) (hc : ∀ c ∈ cs1, ndA c = true)
    (o : Okk K P ss cs B H σ) (hh : Held B H L) (f : F B) (s : Stp P (pub B L) H B2 H2) (o2 : Okk K P ss' cs1 B2 H2 σ) :
    ∃ B3, B3 = off B2 (L.map (·.1)) ∧ Stp P B H B3 H2 ∧ Okk K P ss cs1 B3 H2 σ ∧ Held B3 H2 L ∧ F B3 ∧ ∀ {v : V} {d : D}, Rp K B2 v d → nd d = true → Rp K B3 v d := by
  have hS : ∀ a ∈ L.map (·.1), ∀ u, B2 a = some u → notTup u := fun a ha u hu => by
    obtain ⟨p, hp, rfl⟩ := List.mem_map.mp ha
    rw [s.nb _ _ (hh.at' p hp), pub_mem hh hp] at hu
    cases hu
    exact hT p hp
  have nin : ∀ a o, B a = some o → a ∉ L.map (·.1) := fun a u e z => by
    obtain ⟨p, hp, rfl⟩ := List.mem_map.mp z
    rw [hh.no p hp] at e; cases e
  have eB : Ex B (off B2 (L.map (·.1))) := fun a u e => by
    unfold off
    rw [if_neg (nin a u e)]
    exact s.ex a u (pub_ex hh.no a u e)
  have st : Stp P B H (off B2 (L.map (·.1))) H2 := ⟨eB, s.fr, fun c u e => by
    unfold off
    split
    · rename_i z
      obtain ⟨p, hp, rfl⟩ := List.mem_map.mp z
      exact (hh.no p hp).symm
    · rename_i z
      rw [s.nb c u e, pub_ne fun p hp w => z (List.mem_map.mpr ⟨p, hp, w⟩)], s.dm⟩
  exact ⟨_, rfl, st, ⟨fun a u e => o2.ex a u (off_in a u e), o.sl.mono eB, mu_off hS o2.mu hc⟩, hh.step st hP, hF _ _ eB f, fun r n => rp_off hS r n⟩
theorem EvR.pub (hP : ∀ p ∈ L, p.1 ∉ P) (hT : ∀ p ∈ L, notTup p.2) (hF : Mono F) (hc : ∀ c ∈ cs1, ndA c = true) (hs : ∀ B σ, (∀ p ∈ L, RG.pub B L p.1 = some p.2) → Ex B (RG.pub B L) → F B → Slots K B σ ss → Slots K (RG.pub B L) σ ss')
    (h : Ev K P ss' cs te (.dat d) cs1) (hd : nd d = true) : EvR K P L F ss cs te (.dat d) cs1 := fun B H σ o hh f Q q => by
  have e1 := pub_ex hh.no
  refine h (RG.pub B L) H σ ⟨pub_in o.ex hh, hs B σ (fun p hp => pub_mem hh hp) e1 f o.sl, mu_pub e1 hP o.mu⟩ Q fun v B2 H2 s2 o2 v2 => ?_
  obtain ⟨B3, _, st, o3, h3, f3, z⟩ := hide hP hT hF hc o hh f s2 o2
  exact q v B3 H2 st o3 h3 f3 (z v2 hd)
theorem EtR.pub (hP : ∀ p ∈ L, p.1 ∉ P) (hT : ∀ p ∈ L, notTup p.2) (hF : Mono F) (hc : ∀ c ∈ cs1, ndA c = true) (hs : ∀ B σ, (∀ p ∈ L, RG.pub B L p.1 = some p.2) → Ex B (RG.pub B L) → F B → Slots K B σ ss → Slots K (RG.pub B L) σ ss')
    (h : EvT K P ss' cs tt b cs1) : EtR K P L F ss cs tt b cs1 := fun B H σ o hh f Q q => by
  have e1 := pub_ex hh.no
  refine h (RG.pub B L) H σ ⟨pub_in o.ex hh, hs B σ (fun p hp => pub_mem hh hp) e1 f o.sl, mu_pub e1 hP o.mu⟩ Q fun B2 H2 s2 o2 => ?_
  obtain ⟨B3, _, st, o3, h3, f3, _⟩ := hide hP hT hF hc o hh f s2 o2
  exact q B3 H2 st o3 h3 f3
end
/-! statements beside a region: PS what may change since the entry -/
def StR (K : PySem.W.Frag) (PS P : List Addr) (B0 H0 : Hp) (L : Cells) (F : Hp → Prop) (ss : List Sl) (cs : List (List D)) (σ : L2.St) (H : Hp) : Prop := ∃ B, Stp PS B0 H0 B H ∧ Okk K P ss cs B H σ ∧ Held B H L ∧ F B
section
variable {PS P : List Addr} {B0 H0 H : Hp} {L : Cells} {F : Hp → Prop} {ss : List Sl} {cs cs1 : List (List DV.D)} {σ : L2.St} {De : Ends} {te : TE} {tt : TT} {t u : TS} {r : Sl}
theorem sr_asg {i : Nat} (hsub : ∀ p ∈ P, p ∈ PS) (h : StR K PS P B0 H0 L F ss cs σ H) (he : EvR K P L F ss cs te r cs1) (k : ∀ σ' H', StR K PS P B0 H0 L F (ss.set i r) cs1 σ' H' → De.nx σ' H') : tAsg te (gName i) De σ H := by
  obtain ⟨B, s, o, hh, f⟩ := h
  exact he B H σ o hh f _ fun v B1 H1 s1 o1 h1 f1 v1 => k _ _ ⟨B1, s.trans (s1.mono hsub), ⟨o1.ex, o1.sl.set v1, o1.mu⟩, h1, f1⟩
theorem sr_if {b : Bool} (hsub : ∀ p ∈ P, p ∈ PS) (h : StR K PS P B0 H0 L F ss cs σ H) (he : EtR K P L F ss cs tt b cs1) (h1 : b = true → ∀ H', StR K PS P B0 H0 L F ss cs1 σ H' → t De σ H') (h2 : b = false → ∀ H', StR K PS P B0 H0 L F ss cs1 σ H' → u De σ H') : tIfS tt t u De σ H := by
  obtain ⟨B, s, o, hh, f⟩ := h
  refine he B H σ o hh f _ fun B1 H1 s1 o1 h1' f1 => ?_
  cases b with
  | true => exact h1 rfl H1 ⟨B1, s.trans (s1.mono hsub), o1, h1', f1⟩
  | false => exact h2 rfl H1 ⟨B1, s.trans (s1.mono hsub), o1, h1', f1⟩
theorem sr_ret (hsub : ∀ p ∈ P, p ∈ PS) (h : StR K PS P B0 H0 L F ss cs σ H) (he : EvR K P L F ss cs te r cs1) (k : ∀ v B' H', Stp PS B0 H0 B' H' → Okk K P ss cs1 B' H' σ → Held B' H' L → F B' → RS K B' v r → De.rt v H') : tRet te De σ H := by
  obtain ⟨B, s, o, hh, f⟩ := h
  exact he B H σ o hh f _ fun v B1 H1 s1 o1 h1 f1 v1 => k v B1 H1 (s.trans (s1.mono hsub)) o1 h1 f1 v1
/-- a cell of the region is written -/
theorem StR.write {p : Addr} {o o' : HO} (h : StR K PS P B0 H0 L F ss cs σ H) (hp : (p, o) ∈ L) (hn : (L.map (·.1)).Nodup) (hPS : p ∈ PS) (hP : p ∉ P) :
    StR K PS P B0 H0 (L.map fun q => if q.1 = p then (p, o') else q) F ss cs σ (upd H p o') := by
  obtain ⟨B, s, ok, hh, f⟩ := h
  have hB : B p = none := hh.no _ hp
  have hH : H p = some o := hh.at' _ hp
  have s' : Stp [p] B H B (upd H p o') := ⟨Ex.refl _, fun b u n e => by rw [upd_ne (by simpa using n)]; exact e, fun _ _ _ => rfl, fun b u e => by
    by_cases hb : b = p
    · subst hb; exact ⟨_, upd_same⟩
    · exact ⟨u, by rw [upd_ne hb]; exact e⟩⟩
  refine ⟨B, s.trans (s'.mono fun x hx => by rw [List.mem_singleton.mp hx]; exact hPS), ⟨fun b u e => ?_, ok.sl, ok.mu.keep (Ex.refl _) (fun x hx => upd_ne fun z => hP (z ▸ hx)) fun x hx => (ok.mu.mem hx).choose_spec.2⟩, ⟨fun q hq => ?_, fun q hq => ?_⟩, f⟩
  · rw [upd_ne fun z => by rw [z, hB] at e; cases e]
    exact ok.ex b u e
  · obtain ⟨q0, hq0, rfl⟩ := List.mem_map.mp hq
    by_cases e : q0.1 = p
    · rw [if_pos e]; exact upd_same
    · rw [if_neg e, upd_ne e]; exact hh.at' _ hq0
  · obtain ⟨q0, hq0, rfl⟩ := List.mem_map.mp hq
    by_cases e : q0.1 = p
    · rw [if_pos e]; exact hB
    · rw [if_neg e]; exact hh.no _ hq0
end
end RG
/-! QD: == and != of dicts with int and text keys, whose values are plain data, or such dicts. -/
namespace QD
open PySem PySem.Spec PyProof.Rows L2
/-- the entries of one dict beside those of the other, by e -/
def Ents (K : PySem.W.Frag) (H : Hp) (ks ls : List (Key × V)) (e : Key → Bool) : Prop := ∀ p ∈ ks, ∀ y, valV ls p.1 = some y → ∃ d1 d2, Dp K H p.2 d1 ∧ Dp K H y d2 ∧ SeqAt.shaped d1 = true ∧ SeqAt.shaped d2 = true ∧ e p.1 = PyData.eqv d1 d2
def sameB (ks ls : List (Key × V)) (e : Key → Bool) : Bool := ks.length == ls.length && ks.all fun p => (valV ls p.1).isSome && e p.1
section
variable {X : Cx} {pins : List (Addr × Obj)} {σ : L2.St} {H : Hp} {s : Shared}
theorem relO_none {u : Option Value} (r : RelO none u) : u = none := by
  cases u with
  | none => rfl
  | some _ => exact (show False from r).elim
theorem hitsD (I : Inv X pins σ H s) {ls : List (Key × V)} {vb : List (Key × Value)} (rb : KV ls vb) (e : Key → Bool) {A : Around} (hu : A.units + 64 < cLine) {ks : List (Key × V)} {va : List (Key × Value)} (ra : KV ks va) :
    Ents X.K H ks ls e → PySem.W.KeqHits A s vb va (ks.all fun p => (valV ls p.1).isSome && e p.1) := by
  unfold KV at ra
  induction ra with
  | nil => intro _; exact .nil
  | @cons p q ps qs h t ih =>
    intro hp
    obtain ⟨h1, h2⟩ := h
    obtain ⟨k, v⟩ := q
    have h1' : p.1 = k := h1
    have rv := rb.val p.1
    cases hv : valV ls p.1 with
    | none =>
      rw [hv] at rv
      have hn := relO_none rv
      have q : ((p :: ps).all fun p => (valV ls p.1).isSome && e p.1) = false := by simp [hv]
      rw [q]
      exact .miss (by rw [← h1']; exact hn)
    | some y =>
      rw [hv] at rv
      obtain ⟨u, hu1, ry⟩ := rv.some_of
      obtain ⟨d1, d2, a1, a2, b1, b2, he⟩ := hp p List.mem_cons_self y hv
      obtain ⟨as, r1⟩ := Dp.reads I d1 p.2 v a1 h2
      obtain ⟨bs, r2⟩ := Dp.reads I d2 y u a2 ry
      have q : ((p :: ps).all fun p => (valV ls p.1).isSome && e p.1) = (PyData.eqv d1 d2 && (ps.all fun p => (valV ls p.1).isSome && e p.1)) := by simp [hv, he]
      rw [q]
      exact .hit (by rw [← h1']; exact hu1) (SeqAt.eqAt_reads d1 d2 A s v u as bs r1 r2 (SeqAt.canLay_of_shaped b1) (SeqAt.canLay_of_shaped b2) (SeqAt.room_of_shaped b1 hu)) (ih fun p' hm => hp p' (List.mem_cons_of_mem _ hm))
end
def rEqDD (K : PySem.W.Frag) (neg : Bool) : R2 := fun x y H Q => ∃ a b ks ls e, x = .ref a ∧ y = .ref b ∧ Rd H a (.dK ks) ∧ Rd H b (.dK ls) ∧ Ents K H ks ls e ∧ Q (.bl (if neg then !sameB ks ls e else sameB ks ls e)) H
theorem op_eqDD {X : Cx} (hu : X.A.in1.units + 64 < cLine) : OpR X (compareOp .Eq) (rEqDD X.K false) := by
  intro pins s σ H x y v u Q I rx ry h
  obtain ⟨a, b, ks, ls, e, rfl, rfl, ea, eb, hp, q⟩ := h
  obtain rfl : v = Value.ref a := rx
  obtain rfl : u = Value.ref b := ry
  obtain ⟨_, ya, va, ra, da⟩ := dk_rd I.hok ea
  obtain ⟨_, yb, vb, rb, db⟩ := dk_rd I.hok eb
  have hl : (va.length == vb.length) = (ks.length == ls.length) := by rw [← ra.length, ← rb.length]
  have hA : X.A.units < cLine := by have : X.A.in1.units = X.A.units + 1 := rfl; omega
  exact PySem.W.keq_eq (knd := mixKind X.prog X.w) ya yb da db hA (fun _ => hitsD I rb e hu ra hp) (fin_bl I q (by simp [sameB, hl]))
theorem op_neDD {X : Cx} (hu : X.A.in1.units + 64 < cLine) : OpR X (compareOp .NotEq) (rEqDD X.K true) := by
  intro pins s σ H x y v u Q I rx ry h
  obtain ⟨a, b, ks, ls, e, rfl, rfl, ea, eb, hp, q⟩ := h
  obtain rfl : v = Value.ref a := rx
  obtain rfl : u = Value.ref b := ry
  obtain ⟨_, ya, va, ra, da⟩ := dk_rd I.hok ea
  obtain ⟨_, yb, vb, rb, db⟩ := dk_rd I.hok eb
  have hl : (va.length == vb.length) = (ks.length == ls.length) := by rw [← ra.length, ← rb.length]
  have hA : X.A.units < cLine := by have : X.A.in1.units = X.A.units + 1 := rfl; omega
  exact PySem.W.keq_ne (knd := mixKind X.prog X.w) ya yb da db hA (fun _ => hitsD I rb e hu ra hp) (fin_bl I q (by simp [sameB, hl]))
/-! dicts of such dicts -/
def Ents2 (K : PySem.W.Frag) (H : Hp) (ks ls : List (Key × V)) (e : Key → Bool) : Prop := ∀ p ∈ ks, ∀ y, valV ls p.1 = some y →
  (p.2 = y ∧ e p.1 = true) ∨ ∃ a b k2 l2 e2, p.2 = .ref a ∧ y = .ref b ∧ a ≠ b ∧ Rd H a (.dK k2) ∧ Rd H b (.dK l2) ∧ Ents K H k2 l2 e2 ∧ e p.1 = sameB k2 l2 e2
theorem toIn {prog : Program} {w : World} {A : Around} {s : Shared} {kb : List (Key × Value)} : ∀ {l : List (Key × Value)} {b : Bool}, PySem.W.KeqHits A s kb l b → PySem.W.KeqHitsIn prog w A s kb l b
  | _, _, .nil => .nil
  | _, _, .miss h => .miss h
  | _, _, .hit h e r => .hit h (e.inModel prog w) (toIn r)
theorem hits2 {X : Cx} {pins : List (Addr × Obj)} {σ : L2.St} {H : Hp} {s : Shared} (I : Inv X pins σ H s) {ls : List (Key × V)} {vb : List (Key × Value)} (rb : KV ls vb) (e : Key → Bool) {A : Around} (hu : A.in1.units + 64 < cLine) {ks : List (Key × V)} {va : List (Key × Value)} (ra : KV ks va) :
    (∀ p ∈ ks, ∃ a, p.2 = .ref a) → Ents2 X.K H ks ls e → PySem.W.KeqHitsIn X.prog X.w A s vb va (ks.all fun p => (valV ls p.1).isSome && e p.1) := by
  unfold KV at ra
  induction ra with
  | nil => intro _ _; exact .nil
  | @cons p q ps qs h t ih =>
    intro hr hp
    obtain ⟨h1, h2⟩ := h
    obtain ⟨k, v⟩ := q
    have h1' : p.1 = k := h1
    have rv := rb.val p.1
    have ih' := ih (fun p' hm => hr p' (List.mem_cons_of_mem _ hm)) (fun p' hm => hp p' (List.mem_cons_of_mem _ hm))
    cases hv : valV ls p.1 with
    | none =>
      rw [hv] at rv
      have hn := relO_none rv
      have q : ((p :: ps).all fun p => (valV ls p.1).isSome && e p.1) = false := by simp [hv]
      rw [q]
      exact .miss (by rw [← h1']; exact hn)
    | some y =>
      rw [hv] at rv
      obtain ⟨u, hu1, ry⟩ := rv.some_of
      have q : ((p :: ps).all fun p => (valV ls p.1).isSome && e p.1) = (e p.1 && (ps.all fun p => (valV ls p.1).isSome && e p.1)) := by simp [hv]
      rw [q]
      refine .hit (by rw [← h1']; exact hu1) ?_ ih'
      obtain ⟨a0, ha0⟩ := hr p List.mem_cons_self
      rcases hp p List.mem_cons_self y hv with ⟨e1, e2⟩ | ⟨a, b, k2, l2, e2, ea, eb, hne, ra2, rb2, en, he⟩
      · rw [ha0] at e1 h2
        subst e1
        cases h2
        cases ry
        rw [e2]
        exact (SeqAt.EqAt.same _).inModel X.prog X.w
      · rw [ea] at h2
        subst eb
        cases h2
        cases ry
        rw [he]
        obtain ⟨_, ya, wa, sa, da⟩ := dk_rd I.hok ra2
        obtain ⟨_, yb, wb, sb, db⟩ := dk_rd I.hok rb2
        have hl : (wa.length == wb.length) = (k2.length == l2.length) := by rw [← sa.length, ← sb.length]
        have hA : A.units < cLine := by have : A.in1.units = A.units + 1 := rfl; omega
        refine SeqAt.EqIn.of_refs hne fun E Q hq => PySem.W.keq_eqIn (knd := mixKind X.prog X.w) (r := k2.all fun p => (valV l2 p.1).isSome && e2 p.1) ya yb da db hA (fun _ => ?_) (by
          have z : (wa.length == wb.length && k2.all fun p => (valV l2 p.1).isSome && e2 p.1) = sameB k2 l2 e2 := by rw [hl]; rfl
          rw [z]; exact hq)
        exact toIn (hitsD (A := A.in1) I sb e2 hu sa en)
def rEqD2 (K : PySem.W.Frag) : R2 := fun x y H Q => ∃ a b ks ls e, x = .ref a ∧ y = .ref b ∧ Rd H a (.dK ks) ∧ Rd H b (.dK ls) ∧ (∀ p ∈ ks, ∃ a, p.2 = .ref a) ∧ Ents2 K H ks ls e ∧ Q (.bl (sameB ks ls e)) H
/-- == of two dicts of dicts -/
theorem op_eqD2 {X : Cx} (hu : X.A.in1.in1.units + 64 < cLine) : OpR X (compareOp .Eq) (rEqD2 X.K) := by
  intro pins s σ H x y v u Q I rx ry h
  obtain ⟨a, b, ks, ls, e, rfl, rfl, ea, eb, hr, hp, q⟩ := h
  obtain rfl : v = Value.ref a := rx
  obtain rfl : u = Value.ref b := ry
  obtain ⟨_, ya, va, ra, da⟩ := dk_rd I.hok ea
  obtain ⟨_, yb, vb, rb, db⟩ := dk_rd I.hok eb
  have hl : (va.length == vb.length) = (ks.length == ls.length) := by rw [← ra.length, ← rb.length]
  have hA : X.A.units < cLine := by have : X.A.in1.in1.units = X.A.units + 2 := rfl; omega
  exact PySem.W.keq_eqIn (knd := mixKind X.prog X.w) ya yb da db hA (fun _ => hits2 I rb e hu ra hr hp) (fin_bl I q (by simp [sameB, hl]))
end QD
/-! LK: a dict that is walked: hidden from the base while the walk's lock holds it. -/
namespace LK
open PySem L2 DV RG
variable {K : PySem.W.Frag}
/-! data without dicts and objects -/
mutual
def ndL : D → Bool
  | .non => true
  | .bl _ => true
  | .int _ => true
  | .str _ => true
  | .tup ds => ndLA ds
  | .lst ds => ndLA ds
  | .fro ds => ndLA ds
  | .nt ds => ndLA ds
  | .dic _ => false
  | .obj _ _ => false
def ndLA : List D → Bool
  | [] => true
  | d :: ds => ndL d && ndLA ds
end
mutual
theorem rp_hide {B : Hp} {a : Addr} {kvs : List (Key × V)} (hS : B a = some (.dK kvs)) : ∀ {v : V} {d : D}, Rp K B v d → ndL d = true → Rp K (off B [a]) v d
  | _, _, .non, _ => .non
  | _, _, .bl b, _ => .bl b
  | _, _, .int i, _ => .int i
  | _, _, .str x, _ => .str x
  | _, _, .tup (a := b) h r, p => by
    refine .tup ?_ (rpA_hide hS r (by simpa [ndL] using p))
    rcases h with h | ⟨u, h⟩
    · exact .inl (by unfold off; rw [if_neg fun z => by rw [List.mem_singleton.mp z, hS] at h; cases h]; exact h)
    · exact .inr ⟨u, by unfold off; rw [if_neg fun z => by rw [List.mem_singleton.mp z, hS] at h; cases h]; exact h⟩
  | _, _, .lst (a := b) h r, p => by
    refine .lst ?_ (rpA_hide hS r (by simpa [ndL] using p))
    unfold off
    rw [if_neg fun z => by rw [List.mem_singleton.mp z, hS] at h; cases h]
    exact h
  | _, _, .nt (a := b) h n r, p => by
    refine .nt ?_ n (rpA_hide hS r (by simpa [ndL] using p))
    unfold off
    rw [if_neg fun z => by rw [List.mem_singleton.mp z, hS] at h; cases h]
    exact h
  | _, _, .fro (a := b) h r, p => by
    refine .fro ?_ (rpA_hide hS r (by simpa [ndL] using p))
    rcases h with h | h
    · refine .inl ?_
      rcases h with h | ⟨u, h⟩
      · exact .inl (by unfold off; rw [if_neg fun z => by rw [List.mem_singleton.mp z, hS] at h; cases h]; exact h)
      · exact .inr ⟨u, by unfold off; rw [if_neg fun z => by rw [List.mem_singleton.mp z, hS] at h; cases h]; exact h⟩
    · exact .inr h
  | _, _, .dic _ _, p => by simp [ndL] at p
  | _, _, .obj _ _, p => by simp [ndL] at p
theorem rpA_hide {B : Hp} {a : Addr} {kvs : List (Key × V)} (hS : B a = some (.dK kvs)) : ∀ {vs : List V} {ds : List D}, RpA K B vs ds → ndLA ds = true → RpA K (off B [a]) vs ds
  | _, _, .nil, _ => .nil
  | _, _, .cons h r, p => by
    have p' := p
    simp [ndLA] at p'
    exact .cons (rp_hide hS h p'.1) (rpA_hide hS r p'.2)
end
def low : Sl → Sl
  | .dat d => if ndL d then .dat d else .any
  | r => r
theorem slots_low {B : Hp} {a : Addr} {kvs : List (Key × V)} {σ : L2.St} {ss : List Sl} (hS : B a = some (.dK kvs)) (h : Slots K B σ ss) : Slots K (off B [a]) σ (ss.map low) := by
  refine ⟨by rw [List.length_map]; exact h.len, fun i r hi hn => ?_⟩
  rw [List.getElem?_map] at hi
  cases hr : ss[i]? with
  | none => rw [hr] at hi; cases hi
  | some r0 =>
    rw [hr] at hi
    have e : low r0 = r := Option.some.inj hi
    subst e
    obtain ⟨v, h1, h2⟩ := h.get i r0 hr (fun z => by rw [z] at hn; exact hn rfl)
    refine ⟨v, h1, ?_⟩
    cases r0 with
    | any => exact absurd rfl hn
    | val w => exact h2
    | dat d =>
      by_cases p : ndL d = true
      · have e : low (.dat d) = .dat d := if_pos p
        rw [e]
        exact rp_hide hS h2 p
      · have e : low (.dat d) = .any := if_neg p
        rw [e] at hn
        exact absurd rfl hn
theorem mu_hide {B H : Hp} {a : Addr} {kvs : List (Key × V)} (hS : B a = some (.dK kvs)) {o : HO} : ∀ {P : List Addr} {cs : List (List D)}, Mu K B H P cs → (∀ c ∈ cs, ndLA c = true) → Mu K (off B [a]) (upd H a o) P cs
  | [], [], _, _ => True.intro
  | [], _ :: _, h, _ => h.elim
  | _ :: _, [], h, _ => h.elim
  | p :: P, ds :: cs, h, n => by
    obtain ⟨⟨vs, x, r⟩, b, c, m⟩ := h
    have ne : p ≠ a := fun z => by rw [z, hS] at b; cases b
    refine ⟨⟨vs, by rw [upd_ne ne]; exact x, rpA_hide hS r (n ds List.mem_cons_self)⟩, ?_, c, mu_hide hS m fun c hc => n c (List.mem_cons_of_mem _ hc)⟩
    unfold off
    split
    · rfl
    · exact b
/-! within the lock: the base holds the dict's frozen cell, which no data reads -/
mutual
theorem rp_fz {B : Hp} {a : Addr} {od : Obj} {kvs : List (Key × V)} (hS : B a = some (.frz od (.dK kvs))) : ∀ {v : V} {d : D}, Rp K B v d → Rp K (off B [a]) v d
  | _, _, .non => .non
  | _, _, .bl b => .bl b
  | _, _, .int i => .int i
  | _, _, .str x => .str x
  | _, _, .tup (a := b) h r => by
    refine .tup ?_ (rpA_fz hS r)
    rcases h with h | ⟨u, h⟩
    · exact .inl (by unfold off; rw [if_neg fun z => by rw [List.mem_singleton.mp z, hS] at h; cases h]; exact h)
    · exact .inr ⟨u, by unfold off; rw [if_neg fun z => by rw [List.mem_singleton.mp z, hS] at h; cases h]; exact h⟩
  | _, _, .lst (a := b) h r => by
    refine .lst ?_ (rpA_fz hS r)
    unfold off
    rw [if_neg fun z => by rw [List.mem_singleton.mp z, hS] at h; cases h]
    exact h
  | _, _, .nt (a := b) h n r => by
    refine .nt ?_ n (rpA_fz hS r)
    unfold off
    rw [if_neg fun z => by rw [List.mem_singleton.mp z, hS] at h; cases h]
    exact h
  | _, _, .dic (a := b) h r => by
    refine .dic ?_ (rpK_fz hS r)
    unfold off
    rw [if_neg fun z => by rw [List.mem_singleton.mp z, hS] at h; cases h]
    exact h
  | _, _, .obj (a := b) (dx := dx) h r => by
    refine .obj (dx := dx) ?_ (rpF_fz hS r)
    unfold off
    rw [if_neg fun z => by rw [List.mem_singleton.mp z, hS] at h; cases h]
    exact h
  | _, _, .fro (a := b) h r => by
    refine .fro ?_ (rpA_fz hS r)
    rcases h with h | h
    · refine .inl ?_
      rcases h with h | ⟨u, h⟩
      · exact .inl (by unfold off; rw [if_neg fun z => by rw [List.mem_singleton.mp z, hS] at h; cases h]; exact h)
      · exact .inr ⟨u, by unfold off; rw [if_neg fun z => by rw [List.mem_singleton.mp z, hS] at h; cases h]; exact h⟩
    · exact .inr h
theorem rpA_fz {B : Hp} {a : Addr} {od : Obj} {kvs : List (Key × V)} (hS : B a = some (.frz od (.dK kvs))) : ∀ {vs : List V} {ds : List D}, RpA K B vs ds → RpA K (off B [a]) vs ds
  | _, _, .nil => .nil
  | _, _, .cons h r => .cons (rp_fz hS h) (rpA_fz hS r)
theorem rpK_fz {B : Hp} {a : Addr} {od : Obj} {kvs : List (Key × V)} (hS : B a = some (.frz od (.dK kvs))) : ∀ {vs : List (Key × V)} {ds : List (Key × D)}, RpK K B vs ds → RpK K (off B [a]) vs ds
  | _, _, .nil => .nil
  | _, _, .cons h r => .cons (rp_fz hS h) (rpK_fz hS r)
theorem rpF_fz {B : Hp} {a : Addr} {od : Obj} {kvs : List (Key × V)} (hS : B a = some (.frz od (.dK kvs))) : ∀ {vs : List (Str × V)} {ds : List (Str × D)}, RpF K B vs ds → RpF K (off B [a]) vs ds
  | _, _, .nil => .nil
  | _, _, .cons h r => .cons (rp_fz hS h) (rpF_fz hS r)
end
theorem off_upd {B : Hp} {a : Addr} {o : HO} : Ex (off B [a]) (upd B a o) := fun b u e => by
  unfold off at e
  split at e
  · cases e
  · rename_i n
    rw [upd_ne fun z => n (List.mem_singleton.mpr z)]
    exact e
theorem rp_un {B : Hp} {a : Addr} {od : Obj} {kvs : List (Key × V)} {o : HO} (hS : B a = some (.frz od (.dK kvs))) {v : V} {d : D} (h : Rp K B v d) : Rp K (upd B a o) v d := (rp_fz hS h).mono off_upd
theorem rs_un {B : Hp} {a : Addr} {od : Obj} {kvs : List (Key × V)} {o : HO} (hS : B a = some (.frz od (.dK kvs))) {v : V} : ∀ {r : Sl}, RS K B v r → RS K (upd B a o) v r
  | .any, _ => True.intro
  | .dat _, h => rp_un hS h
  | .val _, h => h
theorem mu_in {B H : Hp} {a : Addr} {kvs : List (Key × V)} (hS : B a = some (.dK kvs)) {o : HO} : ∀ {P : List Addr} {cs : List (List D)}, Mu K B H P cs → (∀ c ∈ cs, ndLA c = true) → Mu K (upd B a o) (upd H a o) P cs
  | [], [], _, _ => True.intro
  | [], _ :: _, h, _ => h.elim
  | _ :: _, [], h, _ => h.elim
  | p :: P, ds :: cs, h, n => by
    obtain ⟨⟨vs, x, r⟩, b, c, m⟩ := h
    have ne : p ≠ a := fun z => by rw [z, hS] at b; cases b
    exact ⟨⟨vs, by rw [upd_ne ne]; exact x, (rpA_hide hS r (n ds List.mem_cons_self)).mono off_upd⟩, by rw [upd_ne ne]; exact b, c, mu_in hS m fun c hc => n c (List.mem_cons_of_mem _ hc)⟩
theorem mu_un {B H : Hp} {a : Addr} {od : Obj} {kvs : List (Key × V)} (hS : B a = some (.frz od (.dK kvs))) {o : HO} : ∀ {P : List Addr} {cs : List (List D)}, Mu K B H P cs → Mu K (upd B a o) (upd H a o) P cs
  | [], [], _ => True.intro
  | [], _ :: _, h => h.elim
  | _ :: _, [], h => h.elim
  | p :: P, ds :: cs, h => by
    obtain ⟨⟨vs, x, r⟩, b, c, m⟩ := h
    have ne : p ≠ a := fun z => by rw [z, hS] at b; cases b
    exact ⟨⟨vs, by rw [upd_ne ne]; exact x, (rpA_fz hS r).mono off_upd⟩, by rw [upd_ne ne]; exact b, c, mu_un hS m⟩
theorem mu_no {B H : Hp} {a : Addr} {o : HO} (h : B a = some o) {P : List Addr} {cs : List (List D)} (m : Mu K B H P cs) : a ∉ P := fun z => by
  obtain ⟨_, _, b⟩ := m.mem z
  rw [h] at b; cases b
theorem okk_in {P : List Addr} {ss : List Sl} {cs : List (List D)} {B H : Hp} {σ : L2.St} {a : Addr} {kvs : List (Key × V)} (o : Okk K P ss cs B H σ) (hS : B a = some (.dK kvs)) (hc : ∀ c ∈ cs, ndLA c = true) (u : HO) :
    Okk K P (ss.map low) cs (upd B a u) (upd H a u) σ := ⟨Ex.updB o.ex, (slots_low hS o.sl).mono off_upd, mu_in hS o.mu hc⟩
/-- behind the lock -/
theorem lock_stp {P : List Addr} {B0 H0 B H B2 H2 : Hp} {a : Addr} {kvs : List (Key × V)} {od : Obj} (s0 : Stp P B0 H0 B H) (hS : B a = some (.dK kvs)) (hE : Ex B H) (hP : a ∉ P)
    (s : Stp P (upd B a (.frz od (.dK kvs))) (upd H a (.frz od (.dK kvs))) B2 H2) : H2 a = some (.frz od (.dK kvs)) ∧ B2 a = some (.frz od (.dK kvs)) ∧ Stp P B0 H0 (upd B2 a (.dK kvs)) (upd H2 a (.dK kvs)) ∧ Ex B (upd B2 a (.dK kvs)) := by
  have hf : H2 a = some (.frz od (.dK kvs)) := s.fr a _ hP upd_same
  have hb : B2 a = some (.frz od (.dK kvs)) := s.ex a _ upd_same
  have eB : Ex B (upd B2 a (.dK kvs)) := fun b u e => by
    by_cases z : b = a
    · subst z; rw [hS] at e; cases e; exact upd_same
    · rw [upd_ne z]; exact s.ex b u (by rw [upd_ne z]; exact e)
  refine ⟨hf, hb, s0.trans ⟨eB, fun b u n e => ?_, fun b u e => ?_, fun b u e => ?_⟩, eB⟩
  · by_cases z : b = a
    · subst z
      rw [hE _ _ hS] at e
      cases e
      exact upd_same
    · rw [upd_ne z]; exact s.fr b u n (by rw [upd_ne z]; exact e)
  · by_cases z : b = a
    · subst z; rw [upd_same, hS]
    · rw [upd_ne z, s.nb b u (by rw [upd_ne z]; exact e), upd_ne z]
  · by_cases z : b = a
    · subst z; exact ⟨_, upd_same⟩
    · obtain ⟨u', h'⟩ := s.dm b u (by rw [upd_ne z]; exact e)
      exact ⟨u', by rw [upd_ne z]; exact h'⟩
theorem ex_un {B2 H2 : Hp} {a : Addr} {o : HO} (e : Ex B2 H2) : Ex (upd B2 a o) (upd H2 a o) := Ex.updB e
theorem slots_un {B : Hp} {a : Addr} {od : Obj} {kvs : List (Key × V)} {o : HO} {σ : L2.St} {ss : List Sl} (hS : B a = some (.frz od (.dK kvs))) (h : Slots K B σ ss) : Slots K (upd B a o) σ ss :=
  ⟨h.len, fun i r hi hn => let ⟨v, h1, h2⟩ := h.get i r hi hn; ⟨v, h1, rs_un hS h2⟩⟩
/-- an expression that walks a dict of the base under a lock -/
theorem ev_lock {P : List Addr} {ss : List Sl} {cs cs1 : List (List D)} {te : TE} {r : Sl} (hm : ∀ {kvs}, Mut (some (HO.dK kvs))) (hc : ∀ c ∈ cs, ndLA c = true)
    (h : ∀ B H σ, Okk K P ss cs B H σ → ∃ a kvs, B a = some (.dK kvs) ∧ ∀ od, Okk K P (ss.map low) cs (upd B a (.frz od (.dK kvs))) (upd H a (.frz od (.dK kvs))) σ → ∀ Q : VK,
      (∀ v B' H', Stp P (upd B a (.frz od (.dK kvs))) (upd H a (.frz od (.dK kvs))) B' H' → Ex B' H' → Mu K B' H' P cs1 → RS K B' v r → Q v H') → te σ (upd H a (.frz od (.dK kvs))) Q) :
    Ev K P ss cs (tLockE te) r cs1 := fun B H σ o Q q => by
  obtain ⟨a, kvs, hS, h⟩ := h B H σ o
  have hn := mu_no hS o.mu
  refine ⟨a, .dK kvs, o.ex _ _ hS, hm, fun od => h od (okk_in o hS hc _) _ fun v B2 H2 s2 e2 m2 v2 => ?_⟩
  obtain ⟨hf, hb, st, eB⟩ := lock_stp (Stp.refl P B H) hS o.ex hn s2
  exact ⟨hf, q v _ _ st ⟨ex_un e2, o.sl.mono eB, mu_un hb m2⟩ (rs_un hb v2)⟩
/-- a statement that walks a dict of the base under a lock -/
theorem st_lock {P : List Addr} {B0 H0 H : Hp} {ss : List Sl} {cs cs' : List (List D)} {σ : L2.St} {Dn : Ends} {t : TS} {r : Sl} (h : Sta K P B0 H0 ss cs σ H) (hm : ∀ {kvs}, Mut (some (HO.dK kvs))) (hc : ∀ c ∈ cs, ndLA c = true) (hd : Done K P B0 H0 r cs' Dn.rt)
    (k : ∀ B, Stp P B0 H0 B H → Okk K P ss cs B H σ → ∃ a kvs, B a = some (.dK kvs) ∧ ∀ od (D' : Ends), Okk K P (ss.map low) cs (upd B a (.frz od (.dK kvs))) (upd H a (.frz od (.dK kvs))) σ →
      (∀ ss' cs2 σ' H', Sta K P (upd B a (.frz od (.dK kvs))) (upd H a (.frz od (.dK kvs))) ss' cs2 σ' H' → (∀ B2 H2, Stp P B0 H0 B2 H2 → Okk K P ss' cs2 B2 H2 σ' → Ex B B2 → Dn.nx σ' H2) → D'.nx σ' H') →
      Done K P (upd B a (.frz od (.dK kvs))) (upd H a (.frz od (.dK kvs))) r cs' D'.rt → t D' σ (upd H a (.frz od (.dK kvs)))) : tLock t Dn σ H := by
  obtain ⟨B, s, o⟩ := h
  obtain ⟨a, kvs, hS, k⟩ := k B s o
  have hn := mu_no hS o.mu
  refine ⟨a, .dK kvs, o.ex _ _ hS, hm, fun od => k od _ (okk_in o hS hc _) (fun ss' cs2 σ' H' hst kk => ?_) (fun v B2 H2 s2 e2 m2 v2 => ?_)⟩
  · obtain ⟨B2, s2, o2⟩ := hst
    obtain ⟨hf, hb, st, eB⟩ := lock_stp s hS o.ex hn s2
    exact ⟨hf, kk _ _ st ⟨ex_un o2.ex, slots_un hb o2.sl, mu_un hb o2.mu⟩ eB⟩
  · obtain ⟨hf, hb, st, eB⟩ := lock_stp s hS o.ex hn s2
    exact ⟨hf, hd v _ _ st (ex_un e2) (mu_un hb m2) (rs_un hb v2)⟩
/-- a loop over a walk that is known here alone -/
theorem st_forP {α : Type} {P : List Addr} {B0 H0 B H : Hp} {ss : List Sl} {cs cs1 : List (List D)} {σ : L2.St} {D : Ends} {wi : TI} {g : TG} {tb : TS} {ds : List DV.D} (s : Stp P B0 H0 B H) (o : Okk K P ss cs B H σ)
    (hw : ∀ R : It → Hp → Prop, (∀ J B1 H1, Stp P B H B1 H1 → Okk K P ss cs1 B1 H1 σ → Walks K B1 J ds → R J H1) → wi σ H R)
    (J : Nat → α → Prop) (S : Nat → α → List Sl) (C : Nat → α → List (List DV.D)) (z0 : α) (j0 : J 0 z0) (l0 : LeS ss (S 0 z0)) (c0 : cs1 = C 0 z0)
    (hs : ∀ B1 H1, Stp P B0 H0 B1 H1 → ∀ i d z, ds[i]? = some d → J i z → ∃ G W, GR K (S i z) g d G W ∧
      ∀ σ' H', Sta K P B1 H1 G (C i z) σ' H' → tb { D with nx := Turn' K P B1 H1 J S C (i + 1), ct := Turn' K P B1 H1 J S C (i + 1), bk := D.nx } σ' H')
    (hd : ∀ z σ' H', J ds.length z → Sta K P B0 H0 (S ds.length z) (C ds.length z) σ' H' → D.nx σ' H') : tFor wi g tb D σ H := by
  refine hw _ fun It B1 H1 s1 o1 wk => ?_
  have sB : Stp P B0 H0 B1 H1 := s.trans s1
  refine ⟨fun i m σ H => m = ds.length - i ∧ i ≤ ds.length ∧ Turn' K P B1 H1 J S C i σ H, ⟨ds.length, by simp, Nat.zero_le _, z0, j0, B1, Stp.refl _ _ _, ?_⟩, ?_⟩
  · rw [← c0]
    exact ⟨o1.ex, o1.sl.le l0, o1.mu⟩
  rintro i m σ' H' ⟨rfl, hi, z, jz, hst⟩
  obtain ⟨B2, s2, o2⟩ := id hst
  obtain ⟨w1, w2⟩ := wk i B2 H' s2.ex o2.ex
  by_cases hlt : i < ds.length
  · have hd' : ds[i]? = some ds[i] := List.getElem?_eq_getElem hlt
    obtain ⟨go, yl⟩ := w1 _ hd'
    obtain ⟨G, W, hg, body⟩ := hs B1 H1 sB i _ z hd' jz
    refine .inr ⟨go, Turn' K P B1 H1 J S C (i + 1), fun σ3 H3 q => ⟨ds.length - (i + 1), by omega, rfl, hlt, q⟩, fun x H3 y => ?_⟩
    obtain ⟨B3, s3, e3, x3⟩ := yl x H3 y
    have o3 := o2.step0 s3 e3
    exact hg B3 H3 σ' x o3.ex o3.sl x3 _ fun σ4 s4 _ => body σ4 H3 ⟨B3, s2.trans s3.ofNil, o3.ex, s4, o3.mu⟩
  · have e : i = ds.length := by omega
    subst e
    exact .inl ⟨w2 (Nat.le_refl _), hd z σ' H' jz (hst.base sB)⟩
theorem RpK.get {B : Hp} : ∀ {vs : List (Key × V)} {ds : List (Key × D)} {i : Nat} {k : Key} {d : D}, RpK K B vs ds → ds[i]? = some (k, d) → ∃ v, vs[i]? = some (k, v) ∧ Rp K B v d
  | _, _, _, _, _, .nil, e => by simp at e
  | _, _, 0, _, _, .cons h _, e => by simp at e; obtain ⟨rfl, rfl⟩ := e; exact ⟨_, rfl, h⟩
  | _, _, i + 1, k, d, .cons _ r, e => by
    obtain ⟨v, h1, h2⟩ := RpK.get (i := i) (k := k) (d := d) r (by simpa using e)
    exact ⟨v, by simpa using h1, h2⟩
theorem RpK.len {B : Hp} : ∀ {vs : List (Key × V)} {ds : List (Key × D)}, RpK K B vs ds → vs.length = ds.length
  | _, _, .nil => rfl
  | _, _, .cons _ r => by rw [List.length_cons, List.length_cons, RpK.len r]
/-- the values of a locked dict -/
theorem wk_vals {B1 : Hp} {a : Addr} {od : Obj} {kvs : List (Key × V)} {ks : List (Key × D)} (hS : B1 a = some (.frz od (.dK kvs))) (r : RpK K B1 kvs ks) : Walks K B1 (Itd a od kvs) (ks.map (·.2)) := fun i B H e1 e2 => by
  have q : H a = some (.frz od (.dK kvs)) := e2 _ _ (e1 _ _ hS)
  refine ⟨fun d hd => ?_, fun hl => ⟨q, by rw [RpK.len r]; simpa using hl⟩⟩
  rw [List.getElem?_map] at hd
  cases hk : ks[i]? with
  | none => rw [hk] at hd; cases hd
  | some p =>
    obtain ⟨k, d'⟩ := p
    rw [hk] at hd
    have e : d' = d := Option.some.inj hd
    subst e
    obtain ⟨v, h1, h2⟩ := RpK.get r hk
    refine ⟨⟨q, (List.getElem?_eq_some_iff.mp h1).1⟩, fun x H' y => ?_⟩
    obtain ⟨rfl, k', hk'⟩ := y
    rw [h1] at hk'
    cases hk'
    exact ⟨B, Stp.refl _ _ _, e2, h2.mono e1⟩
/-- .. its pairs -/
def keyD : Key → D
  | .inl i => .int i
  | .inr x => .str x
theorem wk_items {B1 : Hp} {a : Addr} {od : Obj} {kvs : List (Key × V)} {ks : List (Key × D)} (hS : B1 a = some (.frz od (.dK kvs))) (r : RpK K B1 kvs ks) : Walks K B1 (Iti a od kvs) (ks.map fun p => D.tup [keyD p.1, p.2]) := fun i B H e1 e2 => by
  have q : H a = some (.frz od (.dK kvs)) := e2 _ _ (e1 _ _ hS)
  refine ⟨fun d hd => ?_, fun hl => ⟨q, by rw [RpK.len r]; simpa using hl⟩⟩
  rw [List.getElem?_map] at hd
  cases hk : ks[i]? with
  | none => rw [hk] at hd; cases hd
  | some p =>
    obtain ⟨k, d'⟩ := p
    rw [hk] at hd
    have e : D.tup [keyD k, d'] = d := Option.some.inj hd
    subst e
    obtain ⟨v, h1, h2⟩ := RpK.get r hk
    refine ⟨⟨q, (List.getElem?_eq_some_iff.mp h1).1⟩, fun x H' y => ?_⟩
    obtain ⟨T, k', v', hk', rfl, hT, rfl⟩ := y
    rw [h1] at hk'
    cases hk'
    have s := stp_new (o := .tup [kV k, v]) e2 hT
    refine ⟨_, s, e2.updB, .tup (.inl upd_same) (.cons ?_ (.cons (h2.mono (e1.trans s.ex)) .nil))⟩
    cases k with
    | inl i => exact .int i
    | inr x => exact .str x
/-- .. its keys -/
theorem wk_keys {B1 : Hp} {a : Addr} {od : Obj} {kvs : List (Key × V)} {ks : List (Key × D)} (hS : B1 a = some (.frz od (.dK kvs))) (r : RpK K B1 kvs ks) : Walks K B1 (Itk a od kvs) (ks.map fun p => keyD p.1) := fun i B H e1 e2 => by
  have q : H a = some (.frz od (.dK kvs)) := e2 _ _ (e1 _ _ hS)
  refine ⟨fun d hd => ?_, fun hl => ⟨q, by rw [RpK.len r]; simpa using hl⟩⟩
  rw [List.getElem?_map] at hd
  cases hk : ks[i]? with
  | none => rw [hk] at hd; cases hd
  | some p =>
    obtain ⟨k, d'⟩ := p
    rw [hk] at hd
    have e : keyD k = d := Option.some.inj hd
    subst e
    obtain ⟨v, h1, h2⟩ := RpK.get r hk
    refine ⟨⟨q, (List.getElem?_eq_some_iff.mp h1).1⟩, fun x H' y => ?_⟩
    obtain ⟨rfl, k', v', hk', rfl⟩ := y
    rw [h1] at hk'
    cases hk'
    refine ⟨B, Stp.refl _ _ _, e2, ?_⟩
    cases k with
    | inl i => exact .int i
    | inr x => exact .str x
end LK
/-! ET: enumerate of a tuple. -/
namespace ET
open PySem PySem.Spec PyProof.Rows L2
/-- enumerate(v) with no start, v told by how its iterator begins -/
theorem newOne {v : Value} {o : Obj} {G : Heap → Prop} (Bg : Begins v o G) : Meets (Builtin.«enumerate.__new__» ⟨[.type "enumerate", v], []⟩) (fun _ R s => G s.heap ∧
    R (.ok (.ret (.ref (s.heap.push o).objs.size))) { s with heap := (s.heap.push o).push { cls := .type "enumerate", data := .fields #[.none, .bool false, .ref s.heap.objs.size, rawInt 0, .none, .none] } }) := .of_wp fun prog w A R s hh => by
  obtain ⟨hp, gs, dr, tk, os⟩ := s
  obtain ⟨hG, hh⟩ := hh
  have hs := sub_enumerate
  have it : ∀ {A1 : Around} {E : Value → Shared → Prop} {Q : Value → Shared → Prop}, Q (.ref hp.objs.size) ⟨hp.push o, gs, dr, tk, os⟩ → wpAny (model prog w) A1 (pyIter v) Q E ⟨hp, gs, dr, tk, os⟩ := fun q => Bg.iter prog w _ _ ⟨hp, gs, dr, tk, os⟩ _ hG q
  wp_walk using it
  refine wpAny_stack_any fun st => wpAny_pure ?_
  split
  · rename_i cl _ _ _ _ _
    cases (cl == Value.type "enumerate") <;> (wp_walk using it; exact ⟨_, rfl, hh⟩)
  · (wp_walk using it); exact ⟨_, rfl, hh⟩
section
variable {prog : Program} {w : World} {A : Around} {E : Value → Shared → Prop} {s : Shared}
theorem callOne {v : Value} {o : Obj} {G : Heap → Prop} {Q : Value → Shared → Prop} (Bg : Begins v o G) (hG : G s.heap)
    (h : ∀ h1, IsEnum h1 (s.heap.objs.size + 1) s.heap.objs.size 0 .none ∧ h1.get? s.heap.objs.size = some o ∧ (∀ b u, s.heap.get? b = some u → h1.get? b = some u) → Q (.ref (s.heap.objs.size + 1)) { s with heap := h1 }) :
    wpAny (model prog w) A (call (.type "enumerate") [v]) Q E s := by
  refine callType_new F.called_enumerate (by decide) (F.typeCall_enumerate_1 _) (F.newCall_enumerate_1 _) (fun ob => F.args_object_init_2 ob _) F.entry_enumerate_new (newOne Bg) ⟨hG, ?_⟩
  have sz : (s.heap.push o).objs.size = s.heap.objs.size + 1 := Heap.size_push ..
  have en : IsEnum ((s.heap.push o).push { cls := .type "enumerate", data := .fields #[.none, .bool false, .ref s.heap.objs.size, rawInt 0, .none, .none] }) (s.heap.objs.size + 1) s.heap.objs.size 0 .none := by
    have q := Heap.get?_push_size (s.heap.push o) (o := { cls := .type "enumerate", data := .fields #[.none, .bool false, .ref s.heap.objs.size, rawInt 0, .none, .none] }) rfl
    rw [sz] at q
    exact q
  show _ ∧ _
  rw [sz]
  exact ⟨⟨_, en, rfl⟩, h _ ⟨en, Heap.get?_push_of_some _ (Heap.get?_push_size _ Bg.free), fun b u x => Heap.get?_push_of_some _ (Heap.get?_push_of_some _ x)⟩⟩
end
/-- the tuple at a, each item in a new pair -/
def ItT (K : PySem.W.Frag) (a : Addr) (n : Nat) : It where
  go i H := ∃ xs x, SqT K H a xs ∧ xs[i]? = some x ∧ xs.length = n
  yld i H v H' := ∃ T x, v = .ref T ∧ H T = none ∧ H' = upd H T (.tup [.int (i : Nat), x]) ∧ ∀ xs, SqT K H a xs → xs[i]? = some x
  stop i H := ∃ xs, SqT K H a xs ∧ xs.length = n ∧ n ≤ i
def Cs (a e it : Addr) (n i : Nat) (h : Heap) : Prop := i ≤ n ∧ (∃ old, IsEnum h e it ((i : Nat) : Int) old) ∧ h.IsTupleIter it a i
theorem turnT {P : Program} {w : World} {K : PySem.W.Frag} {elts : List Expr} {kk : Nat} {tpos : Pos} {a e it : Addr} {n : Nat} (ne : e ≠ it) (na : a ≠ it) (nea : e ≠ a) : Turn P w K (.Tuple elts kk tpos) (ItT K a n) [e, it] e (Cs a e it n) where
  mem := List.mem_cons_self
  obj i h st b hb := by
    obtain ⟨_, ⟨old, p1⟩, ⟨o2, p2, _, d2⟩⟩ := st
    rcases (by simpa using hb : b = e ∨ b = it) with rfl | rfl
    · exact ⟨_, p1, nofun⟩
    · exact ⟨o2, p2, fun v q => by rw [d2] at q; cases q⟩
  keep i h h' st k := by
    obtain ⟨p0, ⟨old, p1⟩, p2⟩ := st
    exact ⟨p0, ⟨old, k e (by simp) _ p1⟩, p2.at (k it (by simp))⟩
  item := by
    intro X hP hw hK hc i pins s σ H E I free st go
    subst hP hw hK
    obtain ⟨p0, ⟨old, p1⟩, p2⟩ := st
    obtain ⟨xs, x, qa, ex, hn⟩ := go
    have hlt := (List.getElem?_eq_some_iff.mp ex).1
    obtain ⟨ua, ra, ta, _⟩ := I.tuple qa
    obtain ⟨u, eu, ru⟩ := ra.get ex
    have none1 : X.A.in1.handled = none := I.ok.hd hc
    have el : e < s.heap.objs.size := Heap.lt_size p1
    have il : it < s.heap.objs.size := by obtain ⟨_, q, _⟩ := p2; exact Heap.lt_size q
    refine PySem.wpAny_pyNext_enum_itemC (Draws.tuple none1 it a na ua.toArray) p1 ⟨p2, ta⟩ (by simpa using (List.getElem?_eq_some_iff.mp eu).1) ne (by simp [ne, nea]) fun v1 h1 tk e1 n1 n2 nT _ old1 => ?_
    have w1 : v1 = u := by simpa [eu] using e1.symm
    subst w1
    refine ⟨_, rfl, wpAny_letOwnedTupleGo_enum (s := { s with heap := h1, toks := tk + 1 }) n1 fun h2 m1 same => ?_⟩
    have newT : h2.get? s.heap.objs.size = some { cls := .type "tuple", data := .seq #[.int ((i : Nat) : Int) tk, v1] } := (same.2 _ (Nat.ne_of_gt el)).trans nT
    have I1 : Inv X pins σ (upd H s.heap.objs.size (.tup [.int (i : Nat), x])) { s with heap := h2, toks := tk + 1 } :=
      I.turnedNew (t' := tk + 1) (ch := [e, it]) (fun c o hn' q => (same.2 c fun z => hn' (by simp [z])).trans (old1 c o (fun z => hn' (by simp [z])) (fun z => hn' (by simp [z])) q)) free (Nat.le_refl _) ⟨by show 2 ≤ sizeLine; decide, [.int ((i : Nat) : Int) tk, v1], .cons ⟨_, rfl⟩ (.cons ru .nil), _, newT, rfl, _, rfl⟩
    refine ⟨.ref _, _, I1, rfl, ⟨_, x, rfl, I.hok.fresh (Nat.le_refl _), rfl, fun l q => I.tuple_inj q qa ▸ ex⟩, ⟨by omega, ⟨v1, ?_⟩, n2.1.at fun o q => (same.2 it (Ne.symm ne)).trans q⟩, fun c h => ?_⟩
    · have z : ((i + 1 : Nat) : Int) = (i : Int) + 1 := by omega
      rw [z]
      exact m1
    · rcases (by simpa using h : c = e ∨ c = it) with rfl | rfl
      · rw [upd_ne (Nat.ne_of_lt el)]; exact (free _ (by simp)).1
      · rw [upd_ne (Nat.ne_of_lt il)]; exact (free _ (by simp)).1
  done := by
    intro X hP hw hK hc i pins s σ H E I free st fin
    subst hP hw hK
    obtain ⟨p0, ⟨old, p1⟩, p2⟩ := st
    obtain ⟨xs, qa, hn, he⟩ := fin
    obtain ⟨ua, ra, ta, _⟩ := I.tuple qa
    have la := ra.length
    have none1 : X.A.in1.handled = none := I.ok.hd hc
    have ei : i = ua.toArray.size := by rw [List.size_toArray]; omega
    subst ei
    exact wpAny_pyNext_enum_endD (Draws.tuple none1 it a na ua.toArray) p1 ⟨p2, ta⟩ fun h1 old1 => ⟨rfl, I.turnedL (t' := s.toks) (ch := [e, it]) (fun c o n q => old1 c o (fun z => n (by simp [z])) q) free⟩
  self A i s Q E st h := let ⟨_, ⟨_, he⟩, _⟩ := st; wpAny_pyIter_enum he h
/-- enumerate(t) -/
def iEnumT (K : PySem.W.Frag) (ta : TA) : TI := fun σ H R => ta σ H fun vs H1 => ∃ a xs, vs = [.ref a] ∧ SqT K H1 a xs ∧ R (ItT K a xs.length) H1
theorem pi_enumT {X : Cx} {x : Expr} {ta : TA} {np cp tp : Pos} {elts : List Expr} {n : Nat} (hg : Gl X "enumerate") (hm : X.mg "enumerate" = none) (ha : PA X [x] ta) (hs : starEach [x] X.env = [(false, eval x X.env)] := by rfl) :
    PI X (.Tuple elts n tp) (.Call (.Name "enumerate" np) [x] [] cp) (iEnumT X.K ta) where
  run pins s σ H R I h := by
    refine Call_ (ld_blt I hg hm boot_enumerate (PyProof.Rows.callWith_type1 (thn (ha.run cp pins s σ H _ I h) fun us t ⟨vs, G, I1, rv, a, xs, ev, qa, q⟩ => ?_) hs rfl))
    subst ev
    obtain ⟨u1, rfl, r1⟩ := vals1 rv
    cases r1
    obtain ⟨ua, ra, ta', _⟩ := I1.tuple qa
    have at' := ta'
    obtain ⟨oa, ga, _⟩ := at'
    have al := Heap.lt_size ga
    have far : ∀ k, FpOk X pins G (t.heap.objs.size + k) := fun k => I1.fpOk (Nat.le_add_right _ _) (I1.hok.fresh (Nat.le_add_right _ _))
    refine callOne (begins_tuple a ua.toArray) ta' fun h1 ⟨z0, z1, old⟩ => wpAny_pyIter_enum z0 ⟨_, _, _, _, G, rfl, I1.kept (t' := t.toks) old, turnT (Nat.succ_ne_self _) (Nat.ne_of_lt al) (Nat.ne_of_gt (Nat.lt_succ_of_lt al)), ⟨Nat.zero_le _, ⟨.none, z0⟩, ⟨_, z1, rfl, rfl⟩⟩, fun c hc => ?_, q⟩
    rcases (by simpa using hc : c = t.heap.objs.size + 1 ∨ c = t.heap.objs.size) with rfl | rfl
    · exact far 1
    · exact far 0
end ET
namespace DV
open PySem L2
variable {K : PySem.W.Frag} {P : List Addr} {ss : List Sl} {cs cs1 : List (List D)} {ta : TA} {ds : List D}
theorem wd_enumT (h : EvA K P ss cs ta [.dat (.tup ds)] cs1) : WD K P ss cs (ET.iEnumT K ta) (enumD ds) cs1 := fun B H σ o R q =>
  h B H σ o _ fun vs B1 H1 s1 o1 r1 => by
    obtain ⟨v, rfl, h1⟩ := rs1 r1
    have a' : Rp K B1 v (.tup ds) := h1
    cases a' with
    | @tup a xs _ h5 r =>
      refine ⟨_, xs, rfl, .inl (RdEx o1.ex h5), q _ B1 H1 s1 o1 fun i B2 H2 e1 e2 => ?_⟩
      have z : SqT K H2 a xs := .inl (RdEx e2 (RdEx e1 h5))
      refine ⟨fun d hd => ?_, fun hl => ⟨xs, z, rfl, by rw [r.length]; rw [enumD_len] at hl; exact hl⟩⟩
      obtain ⟨e, he, rfl⟩ := enumD_get hd
      obtain ⟨v, h1, h2⟩ := r.get he
      refine ⟨⟨xs, v, z, h1, rfl⟩, fun x H' y => ?_⟩
      obtain ⟨T, x', rfl, hT, rfl, f⟩ := y
      have e := f xs z
      rw [h1] at e
      cases e
      have s := stp_new (o := .tup [.int (i : Nat), v]) e2 hT
      exact ⟨_, s, e2.updB, .tup (.inl upd_same) (.cons (.int _) (.cons (h2.mono (e1.trans s.ex)) .nil))⟩
end DV
/-! BM: rows, changes and bases as data; what the reading methods of a base tell. -/
namespace SP
open PySem L2 DV PM
abbrev Row := List Int
abbrev Rs := List (Str × List (Int × Row))
def rowD (r : Row) : D := .tup (r.map D.int)
def optD : Option Row → D
  | none => .non
  | some r => rowD r
inductive Ch where
  | ins (t : Str) (r : Row) | del (t : Str) (r : Row) | set (t : Str) (o n : Row)
namespace Ch
def tab : Ch → Str | .ins t _ => t | .del t _ => t | .set t _ _ => t
def old : Ch → Option Row | .ins _ _ => none | .del _ r => some r | .set _ o _ => some o
def new : Ch → Option Row | .ins _ r => some r | .del _ _ => none | .set _ _ n => some n
end Ch
def encCh : Ch → D
  | .ins t r => .tup [.str "insert", .str t, rowD r]
  | .del t r => .tup [.str "delete", .str t, rowD r]
  | .set t o n => .tup [.str "set", .str t, rowD o, rowD n]
def inD (l : List (Int × Row)) : D := .dic (l.map fun p => ((Sum.inl p.1 : Key), rowD p.2))
def tabD (R : Rs) : D := .dic (R.map fun t => ((Sum.inr t.1 : Key), inD t.2))
def baseD (CB C : Addr) (T : List Tab) (R : Rs) : D := .obj CB [("schema", schD C T), ("_tables", tabD R)]
def ledOf (cols : List Col) (row : Row) : List (Str × Int) := (List.zip cols row.tail).filterMap fun p => p.1.2.map fun t => (t, p.2)
/-- whether a row may stand in a base over a schema: the rows of a table, each under its id -/
def rowsOk (T : List Tab) (R : Rs) : Prop := R.map (·.1) = T.map (·.1) ∧ (∀ t ∈ R, (t.2.map (·.1)).Nodup ∧ t.2.length ≤ 1000) ∧ ∀ t ∈ R, ∀ p ∈ t.2, p.2.head? = some p.1 ∧ ∀ cols, T.lookup t.1 = some cols → p.2.length = cols.length + 1
def preOAN : Pre := fun rs Pl cs r cs' => ∃ c, rs = [.dat (encCh c)] ∧ Pl = [] ∧ cs = [] ∧ r = .dat (.tup [optD c.old, optD c.new]) ∧ cs' = []
def preLed (C : Addr) : Pre := fun rs Pl cs r cs' => ∃ T n cols row, rs = [.dat (schD C T), .dat (.str n), .dat (rowD row)] ∧ T.lookup n = some cols ∧ cols.length ≤ 1000 ∧ Pl = [] ∧ cs = [] ∧ r = .dat (.lst ((ledOf cols row).map fun p => D.tup [.str p.1, .int p.2])) ∧ cs' = []
def preRowAt (CB C : Addr) : Pre := fun rs Pl cs r cs' => ∃ T R n l k, rs = [.dat (baseD CB C T R), .dat (.str n), .dat (.int k)] ∧ R.lookup n = some l ∧ Pl = [] ∧ cs = [] ∧ r = .dat (optD (l.lookup k)) ∧ cs' = []
def placesOf (cols : List Col) (t : Str) : List Nat := ((cols.zipIdx 0).filter fun p => decide (p.1.2 = some t)).map fun p => p.2 + 1
def isLed (T : List Tab) (R : Rs) (t : Str) (k : Int) : Bool := T.any fun tab => ((R.lookup tab.1).getD []).any fun p => (placesOf tab.2 t).any fun i => decide (p.2.getD i 0 = k)
def preIsLed (CB C : Addr) : Pre := fun rs Pl cs r cs' => ∃ T R n k, rs = [.dat (baseD CB C T R), .dat (.str n), .dat (.int k)] ∧ schOk T ∧ rowsOk T R ∧ PyData.strOk n = true ∧ Pl = [] ∧ cs = [] ∧ r = .dat (.bl (isLed T R n k)) ∧ cs' = []
def getR (R : Rs) (t : Str) (k : Int) : Option Row := ((R.lookup t).getD []).lookup k
def keyOf (old new : Option Row) : Int := match old with
  | none => (new.getD []).headD 0
  | some o => o.headD 0
def tailB (T : List Tab) (R : Rs) (n : Str) (cols : List Col) (key : Int) : Option Row → Bool
  | none => !isLed T R n key
  | some nw => (ledOf cols nw).all fun p => (getR R p.1 p.2).isSome
def allowsB (T : List Tab) (R : Rs) (n : Str) (cols : List Col) (old new : Option Row) : Bool := decide (getR R n (keyOf old new) = old) && tailB T R n cols (keyOf old new) new
/-- references lead to tables that are there -/
def refsOk (T : List Tab) : Prop := ∀ t ∈ T, ∀ c ∈ t.2, ∀ m, c.2 = some m → m ∈ T.map (·.1)
/-- a change's rows: not both missing, not empty -/
def rowsCh (old new : Option Row) : Prop := (old.isSome = true ∨ new.isSome = true) ∧ (∀ o, old = some o → o ≠ []) ∧ ∀ o, new = some o → o ≠ []
def preAllows (CB C : Addr) : Pre := fun rs Pl cs r cs' => ∃ T R n cols old new, rs = [.dat (baseD CB C T R), .dat (.str n), .dat (optD old), .dat (optD new)] ∧ schOk T ∧ refsOk T ∧ rowsOk T R ∧ T.lookup n = some cols ∧ rowsCh old new ∧ Pl = [] ∧ cs = [] ∧ r = .dat (.bl (allowsB T R n cols old new)) ∧ cs' = []
def putL (l : List (Int × Row)) (i : Int) (r : Row) : List (Int × Row) := if (l.any fun p => decide (p.1 = i)) = true then l.map (fun p => if p.1 = i then (p.1, r) else p) else l ++ [(i, r)]
def delL (l : List (Int × Row)) (i : Int) : List (Int × Row) := l.filter fun p => decide (p.1 ≠ i)
def setT (R : Rs) (n : Str) (f : List (Int × Row) → List (Int × Row)) : Rs := R.map fun t => if t.1 = n then (t.1, f t.2) else t
def stepL (c : Ch) (l : List (Int × Row)) : List (Int × Row) := match c.new with
  | none => delL l (keyOf c.old c.new)
  | some r => putL l (r.headD 0) r
def stepCh (R : Rs) (c : Ch) : Rs := setT R c.tab (stepL c)
def okCh (T : List Tab) (R : Rs) (c : Ch) : Bool := allowsB T R c.tab ((T.lookup c.tab).getD []) c.old c.new
/-- the index of the first change that is not allowed, and the rows then -/
def advF (T : List Tab) : List Ch → Rs → Nat → Option Nat × Rs
  | [], R, _ => (none, R)
  | c :: cs, R, i => if okCh T R c = true then advF T cs (stepCh R c) (i + 1) else (some i, R)
/-- a change over a schema -/
def chOk (T : List Tab) (c : Ch) : Prop := ∃ cols, T.lookup c.tab = some cols ∧ (∀ r, c.old = some r → r.length = cols.length + 1) ∧ (∀ r, c.new = some r → r.length = cols.length + 1) ∧ (∀ o n, c.old = some o → c.new = some n → o.headD 0 = n.headD 0)
/-- what an instance of the class Base is told to be -/
structure BaseCls (K : PySem.W.Frag) (C : Addr) : Prop where
  cl : Cls K C
  n1 : NoAttr K C "schema"
  n2 : NoAttr K C "_tables"
section
variable {K : PySem.W.Frag} {P : List Addr} {ss : List Sl} {cs cs1 cs2 : List (List D)} {te tk : TE}
theorem RpK.valN {B : Hp} {k : Key} : ∀ {vs : List (Key × V)} {ds : List (Key × D)}, RpK K B vs ds → valD ds k = none → valV vs k = none
  | _, _, .nil, _ => rfl
  | _, _ :: ds, .cons (k := k') h r, e => by
    by_cases hk : k' = k
    · subst hk
      simp [valD] at e
    · have e' : valD ds k = none := by simpa [valD, List.find?_cons, hk] using e
      have := RpK.valN r e'
      simpa [valV, List.find?_cons, hk] using this
/-- d[k] with an int or a text -/
inductive KeyD : D → Key → Prop
  | int (i : Int) : KeyD (.int i) (.inl i)
  | str (x : Str) : KeyD (.str x) (.inr x)
theorem KeyD.val {B : Hp} {v : V} {d : D} {k : Key} (h : KeyD d k) (r : Rp K B v d) : v = kV k := by
  cases h <;> cases r <;> rfl
theorem ev_dgetK {ks : List (Key × D)} {dk d : D} {k : Key} (h : Ev K P ss cs te (.dat (.dic ks)) cs1) (hk : Ev K P ss cs1 tk (.dat dk) cs2) (hq : KeyD dk k) (hv : valD ks k = some d) : Ev K P ss cs (tDGet te tk) (.dat d) cs2 := fun B H σ o Q q =>
  h B H σ o _ fun v B1 H1 s1 o1 v1 => hk B1 H1 σ o1 _ fun u B2 H2 s2 o2 u2 => by
    have a' : Rp K B2 v (.dic ks) := Rp.mono s2.ex v1
    have e := hq.val (show Rp K B2 u dk from u2)
    subst e
    cases a' with
    | @dic a kvs _ h5 r =>
      obtain ⟨w, h1, h2⟩ := r.val hv
      exact ⟨_, w, rfl, .inl ⟨kvs, k, .inl (o2.ex _ _ h5), rfl, h1.symm⟩, q w B2 H2 (s1.trans s2) o2 h2⟩
/-- d.get(k) -/
theorem ev_dget1K {ks : List (Key × D)} {dk : D} {k : Key} (h : Ev K P ss cs te (.dat (.dic ks)) cs1) (hk : Ev K P ss cs1 tk (.dat dk) cs2) (hq : KeyD dk k) : Ev K P ss cs (tDGet1 te tk) (.dat ((valD ks k).getD .non)) cs2 := fun B H σ o Q q =>
  h B H σ o _ fun v B1 H1 s1 o1 v1 => by
    have a0 : Rp K B1 v (.dic ks) := v1
    cases a0 with
    | @dic a kvs _ h5 r =>
      refine ⟨a, rfl, .inl ⟨kvs, .inl (o1.ex _ _ h5)⟩, hk B1 H1 σ o1 _ fun u B2 H2 s2 o2 u2 => ?_⟩
      have e := hq.val (show Rp K B2 u dk from u2)
      subst e
      cases hv : valD ks k with
      | none =>
        have hn := RpK.valN r hv
        refine ⟨none, .inl ⟨kvs, k, .inl (o2.ex _ _ (s2.ex _ _ h5)), rfl, hn.symm⟩, ?_⟩
        rw [hv] at q
        exact q .non B2 H2 (s1.trans s2) o2 .non
      | some d =>
        obtain ⟨w, h1, h2⟩ := r.val hv
        refine ⟨some w, .inl ⟨kvs, k, .inl (o2.ex _ _ (s2.ex _ _ h5)), rfl, h1.symm⟩, ?_⟩
        rw [hv] at q
        exact q w B2 H2 (s1.trans s2) o2 (h2.mono s2.ex)
theorem valD_tab {R : Rs} {n : Str} {l : List (Int × Row)} (h : R.lookup n = some l) : valD (R.map fun t => ((Sum.inr t.1 : Key), inD t.2)) (.inr n) = some (inD l) := by
  induction R with
  | nil => cases h
  | cons t R ih =>
    obtain ⟨a, c⟩ := t
    by_cases e : n = a
    · subst e
      have : c = l := by simpa [List.lookup] using h
      subst this
      simp [valD]
    · have e' : (n == a) = false := by simpa using e
      have h2 : R.lookup n = some l := by simpa [List.lookup, e'] using h
      have := ih h2
      unfold valD at this ⊢
      have ne : ¬ (Sum.inr a : Key) = Sum.inr n := fun z => e (Sum.inr.inj z).symm
      simpa [List.find?_cons, ne] using this
theorem valD_in {l : List (Int × Row)} {k : Int} : (valD (l.map fun p => ((Sum.inl p.1 : Key), rowD p.2)) (.inl k)).getD .non = optD (l.lookup k) := by
  induction l with
  | nil => rfl
  | cons t l ih =>
    obtain ⟨a, c⟩ := t
    by_cases e : k = a
    · subst e
      simp [valD, List.lookup, optD]
    · have e' : (k == a) = false := by simpa using e
      unfold valD at ih ⊢
      have ne : ¬ (Sum.inl a : Key) = Sum.inl k := fun z => e (Sum.inl.inj z).symm
      simpa [List.find?_cons, List.lookup, e', ne] using ih
end
/-- where the dict of a table's rows lies -/
theorem path_in {K : PySem.W.Frag} {B : Hp} {v : V} {CB C : Addr} {T : List Tab} {R : Rs} {n : Str} {l : List (Int × Row)} (h : Rp K B v (baseD CB C T R)) (hR : R.lookup n = some l) :
    ∃ s dx fvs t kvo a kvi, v = .ref s ∧ B s = some (.ins CB dx fvs) ∧ fvs.lookup ("_tables" : Str) = some (.ref t) ∧ B t = some (.dK kvo) ∧ valV kvo (.inr n) = some (.ref a) ∧ B a = some (.dK kvi) ∧ RpK K B kvi (l.map fun p => ((Sum.inl p.1 : Key), rowD p.2)) ∧ s ≠ a ∧ t ≠ a := by
  unfold baseD at h
  cases h with
  | @obj s _ dx fvs _ h5 rf =>
    obtain ⟨vt, h1, h2⟩ := rf.lookup (f := "_tables") (d := tabD R) rfl
    unfold tabD at h2
    cases h2 with
    | @dic t kvo _ h6 rk =>
      obtain ⟨vi, h3, h4⟩ := rk.val (valD_tab hR)
      unfold inD at h4
      cases h4 with
      | @dic a kvi _ h7 ri =>
        refine ⟨s, dx, fvs, t, kvo, a, kvi, rfl, h5, h1, h6, h3, h7, ri, fun z => ?_, fun z => ?_⟩
        · subst z; rw [h5] at h7; cases h7
        · subst z
          rw [h6] at h7
          cases h7
          have e1 := RpK.valN ri (k := .inr n) (by
            unfold valD
            rw [List.find?_map]
            have : (l.find? ((fun kv => decide (kv.1 = (Sum.inr n : Key))) ∘ fun p => ((Sum.inl p.1 : Key), rowD p.2))) = none := by
              rw [List.find?_eq_none]
              intro x _
              simp
            rw [this]
            rfl)
          rw [h3] at e1
          cases e1
theorem led_filter {cols : List Col} {row : Row} : (((List.zip cols row.tail).filter fun p => p.1.2.isSome).map fun p => D.tup [.str (p.1.2.getD ""), .int p.2]) = (ledOf cols row).map fun p => D.tup [.str p.1, .int p.2] := by
  unfold ledOf
  generalize List.zip cols row.tail = l
  induction l with
  | nil => rfl
  | cons p l ih =>
    obtain ⟨⟨n, t⟩, v⟩ := p
    cases t with
    | none => simpa using ih
    | some t => simpa using ih
end SP
namespace T3
open PySem L2 DV PM SP
section
variable {P : Program} {w : World} {K : PySem.W.Frag} {mg : Str → Option Value} {base : Heap} {C CB : Addr}
end
end T3
namespace SP
open PySem L2 DV PM LK
variable {K : PySem.W.Frag}
theorem rpA_ints {B : Hp} : ∀ {xs : List V} {ns : List Int}, RpA K B xs (ns.map D.int) → xs = ns.map V.int
  | _, [], .nil => rfl
  | _, n :: ns, .cons h r => by
    cases h
    rw [List.map_cons, rpA_ints r]
theorem inV_ints {k : Int} : ∀ ns : List Int, inV (.int k) (ns.map V.int) = decide (k ∈ ns)
  | [] => rfl
  | n :: ns => by
    have ih := inV_ints (k := k) ns
    unfold inV at ih ⊢
    rw [List.map_cons, List.any_cons, ih]
    by_cases hk : k = n
    · subst hk; simp [eqV]
    · simp [eqV, hk, Ne.symm hk]
/-- x in ns, numbers -/
theorem od_inI {k : Int} {ns : List Int} : OpD K (rIn K false) (.dat (.int k)) (.dat (.lst (ns.map D.int))) (.dat (.bl (decide (k ∈ ns)))) := fun B H v y e h1 h2 Q q => by
  have a' : Rp K B v (.int k) := h1
  have b' : Rp K B y (.lst (ns.map D.int)) := h2
  cases a'
  cases b' with
  | @lst a xs _ h5 r =>
    have ex := rpA_ints r
    subst ex
    refine ⟨a, _, rfl, .inl (.inl (.inl (e _ _ h5))), rfl, by simp [flatV], ?_⟩
    rw [if_neg Bool.false_ne_true, inV_ints]
    exact q _ B H (Stp.refl _ _ _) e (.bl _)
theorem slots_val {B : Hp} {σ : L2.St} {ss : List Sl} {i : Nat} {v : V} (h : Slots K B σ ss) (hv : σ[i]? = some (some v)) : Slots K B σ (ss.set i (.val v)) := by
  have q := h.set (i := i) (v := v) (r := .val v) rfl
  have e : σ.set i (some v) = σ := by
    apply List.ext_getElem?
    intro j
    rw [List.getElem?_set]
    by_cases hj : i = j
    · subst hj
      rw [if_pos rfl, if_pos (List.getElem?_eq_some_iff.mp hv).1, hv]
    · rw [if_neg hj]
  rw [e] at q
  exact q
theorem slots_dat {B : Hp} {σ : L2.St} {ss : List Sl} {i : Nat} {v : V} {d : D} (h : Slots K B σ ss) (hi : ss[i]? = some (.val v)) (hv : Rp K B v d) : Slots K B σ (ss.set i (.dat d)) := by
  obtain ⟨w, h1, h2⟩ := h.get i _ hi (by intro z; cases z)
  cases (show w = v from h2)
  have q := h.set (i := i) (v := v) (r := .dat d) hv
  have e : σ.set i (some v) = σ := by
    apply List.ext_getElem?
    intro j
    rw [List.getElem?_set]
    by_cases hj : i = j
    · subst hj
      rw [if_pos rfl, if_pos (List.getElem?_eq_some_iff.mp h1).1, h1]
    · rw [if_neg hj]
  rw [e] at q
  exact q
theorem rpK_hide {B : Hp} {a : Addr} {kvs : List (Key × V)} (hS : B a = some (.dK kvs)) : ∀ {vs : List (Key × V)} {ds : List (Key × D)}, RpK K B vs ds → (∀ p ∈ ds, ndL p.2 = true) → RpK K (RG.off B [a]) vs ds
  | _, _, .nil, _ => .nil
  | _, _, .cons h r, p => .cons (rp_hide hS h (p _ List.mem_cons_self)) (rpK_hide hS r fun q hq => p q (List.mem_cons_of_mem _ hq))
theorem ndLA_ints (ns : List Int) : ndLA (ns.map D.int) = true := by
  induction ns with
  | nil => rfl
  | cons n ns ih => simp [ndLA, ndL, ih]
theorem ndLA_all : ∀ {ds : List D}, (∀ d ∈ ds, ndL d = true) → ndLA ds = true
  | [], _ => rfl
  | d :: ds, h => by simp [ndLA, h d List.mem_cons_self, ndLA_all fun e he => h e (List.mem_cons_of_mem _ he)]
theorem ndL_row (r : Row) : ndL (rowD r) = true := by
  unfold rowD
  simp [ndL, ndLA_ints]
theorem lookup_mem {α : Type} : ∀ {T : List (Str × α)} {t : Str × α}, (T.map (·.1)).Nodup → t ∈ T → T.lookup t.1 = some t.2
  | [], t, _, h => by cases h
  | (a, c) :: T, t, nd, h => by
    rw [List.map_cons, List.nodup_cons] at nd
    rcases List.mem_cons.mp h with rfl | h
    · simp [List.lookup]
    · have ne : (t.1 == a) = false := by
        have : t.1 ≠ a := fun z => nd.1 (List.mem_map.mpr ⟨t, h, z⟩)
        simpa using this
      simp only [List.lookup, ne]
      exact lookup_mem nd.2 h
theorem mem_lookup {α : Type} : ∀ {T : List (Str × α)} {n : Str} {x : α}, T.lookup n = some x → (n, x) ∈ T
  | [], _, _, h => by cases h
  | (a, c) :: T, n, x, h => by
    by_cases e : n = a
    · subst e
      have : c = x := by simpa [List.lookup] using h
      subst this
      exact List.mem_cons_self
    · have e' : (n == a) = false := by simpa using e
      exact List.mem_cons_of_mem _ (mem_lookup (by simpa [List.lookup, e'] using h))
theorem places_lt {cols : List Col} {t : Str} {i : Nat} (h : i ∈ placesOf cols t) : i < cols.length + 1 := by
  unfold placesOf at h
  obtain ⟨p, hp, rfl⟩ := List.mem_map.mp h
  have := List.mem_filter.mp hp
  obtain ⟨c, j⟩ := p
  have h1 := List.mem_zipIdx this.1
  simp at h1
  omega
end SP
namespace T3
open PySem L2 DV PM SP LK
section
variable {P : Program} {w : World} {K : PySem.W.Frag} {mg : Str → Option Value} {base : Heap} {C CB : Addr}
end
end T3
namespace SP
open PySem L2 DV PM LK
variable {K : PySem.W.Frag}
theorem sh_opt (o : Option Row) : D.sh 1 (optD o) = true := by
  cases o with
  | none => rfl
  | some r =>
    show D.shA 0 (r.map D.int) = true
    exact D.shA_all fun d hd => by obtain ⟨i, _, rfl⟩ := List.mem_map.mp hd; rfl
theorem nb_opt (o : Option Row) : D.nb (optD o) = true := by
  cases o with
  | none => rfl
  | some r =>
    show D.nbA (r.map D.int) = true
    exact D.nbA_all fun d hd => by obtain ⟨i, _, rfl⟩ := List.mem_map.mp hd; rfl
theorem ints_inj : ∀ {a b : List Int}, a.map D.int = b.map D.int → a = b
  | [], [], _ => rfl
  | [], _ :: _, h => by cases h
  | _ :: _, [], h => by cases h
  | a :: as, b :: bs, h => by
    rw [List.map_cons, List.map_cons] at h
    injection h with h1 h2
    injection h1 with h1
    rw [h1, ints_inj h2]
theorem opt_inj {a b : Option Row} : optD a = optD b ↔ a = b := by
  constructor
  · intro h
    cases a with
    | none => cases b with
      | none => rfl
      | some b => cases h
    | some a => cases b with
      | none => cases h
      | some b =>
        have : D.tup (a.map D.int) = D.tup (b.map D.int) := h
        injection this with h1
        rw [ints_inj h1]
  · intro h; rw [h]
end SP
namespace T3
open PySem L2 DV PM SP LK
section
variable {P : Program} {w : World} {K : PySem.W.Frag} {mg : Str → Option Value} {base : Heap} {C CB : Addr}
end
end T3
namespace SP
open PySem L2 DV PM LK
variable {K : PySem.W.Frag}
/-- a dict comprehension over a walk that is known here alone -/
theorem dc_at {β : Type} {ss : List Sl} {g : TG} {tk tv : TE} {vs : List Nat} {l : List β} {enc kd : β → D} {It : It} {B1 H1 : Hp} {σ : L2.St} {Q : VK} (o1 : Okk K [] ss [] B1 H1 σ) (wk : Walks K B1 It (l.map enc)) (key : β → Key) (hkey : ∀ x, KeyD (kd x) (key x)) (val : β → D) (hz : l.length ≤ 1000000) (nd : (l.map key).Nodup)
    (hs : ∀ (i : Nat) (x : β), l[i]? = some x → ∃ G W, GR K (wipeS ss vs) g (enc x) G W ∧ (∀ k ∈ W, k ∈ vs) ∧ Ev K [] G [] tk (.dat (kd x)) [] ∧ Ev K [] G [] tv (.dat (val x)) [])
    (q : ∀ v B' H', Stp [] B1 H1 B' H' → Okk K [] ss [] B' H' σ → Rp K B' v (.dic (l.map fun x => (key x, val x))) → Q v H') :
    ∀ Dp, H1 Dp = none → ∃ W : Nat → Nat → Hp → Prop, (∃ m, W 0 m (upd H1 Dp (.dK []))) ∧ ∀ i m H, W i m H →
      (It.stop i H ∧ Q (.ref Dp) H) ∨ (It.go i H ∧ ∃ Nx : Hp → Prop, (∀ H', Nx H' → ∃ m', m' < m ∧ W (i + 1) m' H') ∧ ∀ x H', It.yld i H x H' → g x (wipe σ vs) H' fun σ2 H2 => wipe σ2 vs = wipe σ vs ∧ tYes σ2 H2 fun b H3 =>
        if b = true then tk σ2 H3 fun y H4 => tv σ2 H4 fun z H5 => ∃ kvs k, y = kV k ∧ H5 Dp = some (.dK kvs) ∧ kvs.length < sizeLine ∧ Nx (upd H5 Dp (.dK (putK kvs k z))) else Nx H3) := by
  intro Dp hDp
  have hB1 : B1 Dp = none := o1.ex.free hDp
  let out : Nat → List (Key × D) := fun i => (l.take i).map fun x => (key x, val x)
  let I : Nat → Hp → Prop := fun i H' => ∃ B' kvs, Stp [] B1 H1 B' H' ∧ Okk K [] ss [] B' H' σ ∧ H' Dp = some (.dK kvs) ∧ B' Dp = none ∧ RpK K B' kvs (out i)
  have i0 : I 0 (upd H1 Dp (.dK [])) :=
    ⟨B1, [], ⟨Ex.refl _, fun b u n e => Ex.new hDp b u e, fun _ _ _ => rfl, fun b u e => ⟨u, Ex.new hDp b u e⟩⟩, ⟨fun b u e => Ex.new hDp b u (o1.ex b u e), o1.sl, True.intro⟩, upd_same, hB1, .nil⟩
  refine ⟨fun i m H' => m = l.length - i ∧ i ≤ l.length ∧ I i H', ⟨l.length, by simp, Nat.zero_le _, i0⟩, ?_⟩
  rintro i m H' ⟨rfl, hi, B2, kvs, s2, o2, hd2, hb2, r2⟩
  obtain ⟨w1, w2⟩ := wk i B2 H' s2.ex o2.ex
  by_cases hlt : i < l.length
  · have hx : l[i]? = some l[i] := List.getElem?_eq_getElem hlt
    generalize l[i] = x at hx
    have hd' : (l.map enc)[i]? = some (enc x) := by rw [List.getElem?_map, hx]; rfl
    obtain ⟨go, yl⟩ := w1 _ hd'
    obtain ⟨G, W, hg, hW, hk, hv⟩ := hs i x hx
    refine .inr ⟨go, I (i + 1), fun H3 q => ⟨l.length - (i + 1), by omega, rfl, hlt, q⟩, fun y H3 hy => ?_⟩
    obtain ⟨B3, s3, e3, x3⟩ := yl y H3 hy
    have o3 := o2.step0 s3 e3
    refine hg B3 H3 (wipe σ vs) y o3.ex (o3.sl.wipe vs) x3 _ fun σ4 s4 on => ⟨on.wipe hW, ?_⟩
    show tk σ4 H3 _
    refine hk B3 H3 σ4 ⟨o3.ex, s4, True.intro⟩ _ fun kv B5 H5 s5 o5 v5 => ?_
    have ekv := (hkey x).val (show Rp K B5 kv (kd x) from v5)
    subst ekv
    refine hv B5 H5 σ4 o5 _ fun v B6 H6 s6 o6 v6 => ?_
    have s26 : Stp [] B2 H' B6 H6 := (s3.trans s5).trans s6
    have hd6 : H6 Dp = some (.dK kvs) := s26.fr _ _ (by simp) hd2
    have hb6 : B6 Dp = none := by rw [s26.nb _ _ hd2]; exact hb2
    have r6 : RpK K B6 kvs (out i) := RpK.mono s26.ex r2
    have hl : kvs.length = i := by rw [r6.length]; show ((l.take i).map _).length = i; rw [List.length_map, List.length_take]; omega
    have hnew : ∀ p ∈ kvs, p.1 ≠ key x := fun p hp z => by
      have h1 : p.1 ∈ kvs.map (·.1) := List.mem_map.mpr ⟨p, hp, rfl⟩
      rw [r6.keys, z] at h1
      obtain ⟨q', hq', eq'⟩ := List.mem_map.mp h1
      obtain ⟨y', hy', rfl⟩ := List.mem_map.mp hq'
      have ek : key y' = key x := eq'
      obtain ⟨j, hj, ej⟩ := List.getElem_of_mem hy'
      have hj' : j < i := by rw [List.length_take] at hj; omega
      have hjl : l[j]? = some y' := by
        rw [List.getElem_take] at ej
        rw [List.getElem?_eq_getElem (by omega), ej]
      have a1 : (l.map key)[j]? = some (key x) := by rw [List.getElem?_map, hjl, ← ek]; rfl
      have a2 : (l.map key)[i]? = some (key x) := by rw [List.getElem?_map, hx]; rfl
      obtain ⟨l1, g1⟩ := List.getElem?_eq_some_iff.mp a1
      obtain ⟨l2, g2⟩ := List.getElem?_eq_some_iff.mp a2
      exact List.pairwise_iff_getElem.mp nd j i l1 l2 hj' (g1.trans g2.symm)
    refine ⟨kvs, key x, rfl, hd6, lt_line (by omega), ?_⟩
    rw [putK_new hnew]
    have key' : ∀ b, b ≠ Dp → upd H6 Dp (.dK (kvs ++ [(key x, v)])) b = H6 b := fun b n => upd_ne n
    have hne : ∀ b u, H1 b = some u → b ≠ Dp := fun b u e z => by rw [z, hDp] at e; cases e
    have s16 := s2.trans s26
    refine ⟨B6, _, ⟨s16.ex, fun b u n e => by rw [key' b (hne b u e)]; exact s16.fr b u n e, s16.nb, fun b u e => by rw [key' b (hne b u e)]; exact s16.dm b u e⟩, ⟨fun b u e => ?_, o2.sl.mono s26.ex, True.intro⟩, upd_same, hb6, ?_⟩
    · rw [key' b (fun z => by rw [z, hb6] at e; cases e)]; exact o6.ex b u e
    · show RpK K B6 _ ((l.take (i + 1)).map _)
      rw [List.take_add_one, hx, List.map_append]
      exact RpK.append r6 (.cons v6 .nil)
  · have e : i = l.length := by omega
    subst e
    have ho : out l.length = l.map fun x => (key x, val x) := by show (l.take l.length).map _ = _; rw [List.take_length]
    rw [ho] at r2
    have eB : Ex B2 (upd B2 Dp (.dK kvs)) := Ex.new hb2
    refine .inl ⟨w2 (by rw [List.length_map]; exact Nat.le_refl _), q _ (upd B2 Dp (.dK kvs)) H' ⟨s2.ex.trans eB, s2.fr, fun b u e => ?_, s2.dm⟩ ⟨fun b u e => ?_, o2.sl.mono eB, True.intro⟩ (Rp.dic upd_same (RpK.mono eB r2))⟩
    · rw [upd_ne (ne_of_none e hDp)]
      exact s2.nb b u e
    · by_cases hb : b = Dp
      · subst hb; rw [upd_same] at e; cases e; exact hd2
      · rw [upd_ne hb] at e; exact o2.ex b u e
theorem rpK_mono {B B' : Hp} (e : Ex B B') {vs : List (Key × V)} {ds : List (Key × D)} (h : RpK K B vs ds) : RpK K B' vs ds := RpK.mono e h
end SP
namespace SP
open PySem L2 DV PM
def preBRows (CB C : Addr) : Pre := fun rs Pl cs r cs' => ∃ T R n l, rs = [.dat (baseD CB C T R), .dat (.str n)] ∧ R.lookup n = some l ∧ (l.map (·.1)).Nodup ∧ l.length ≤ 1000 ∧ Pl = [] ∧ cs = [] ∧ r = .dat (inD l) ∧ cs' = []
end SP
namespace T3
open PySem L2 DV PM SP LK
section
variable {P : Program} {w : World} {K : PySem.W.Frag} {mg : Str → Option Value} {base : Heap} {C CB : Addr}
end
end T3
/-! EQ: == of the rows of tables. -/
namespace SP
open PySem L2 DV PM QD
variable {K : PySem.W.Frag}
theorem rpA_intsE {B : Hp} : ∀ {xs : List V} {ns : List Int}, RpA K B xs (ns.map D.int) → xs = ns.map V.int
  | _, [], .nil => rfl
  | _, n :: ns, .cons h r => by
    cases h
    rw [List.map_cons, rpA_intsE r]
theorem vints_inj : ∀ {a b : List Int}, a.map V.int = b.map V.int → a = b
  | [], [], _ => rfl
  | [], _ :: _, h => by cases h
  | _ :: _, [], h => by cases h
  | a :: as, b :: bs, h => by
    rw [List.map_cons, List.map_cons] at h
    injection h with h1 h2
    injection h1 with h1
    rw [h1, vints_inj h2]
theorem row_det {B : Hp} {v : V} {r r' : Row} (h : Rp K B v (rowD r)) (h' : Rp K B v (rowD r')) : r = r' := by
  unfold rowD at h h'
  cases h with
  | @tup a xs _ h1 r1 => cases h' with
    | @tup _ ys _ h2 r2 =>
      have e1 := rpA_intsE r1
      have e2 := rpA_intsE r2
      subst e1
      subst e2
      rcases h1 with h1 | ⟨o, h1⟩
      · rcases h2 with h2 | ⟨o', h2⟩
        · rw [h1] at h2
          injection h2 with h2
          injection h2 with h2
          exact vints_inj h2
        · rw [h1] at h2
          injection h2 with h2
          cases h2
      · rcases h2 with h2 | ⟨o', h2⟩
        · rw [h1] at h2
          injection h2 with h2
          cases h2
        · rw [h1] at h2
          injection h2 with h2
          injection h2 with _ h2
          injection h2 with h2
          exact vints_inj h2
theorem row_eqv (r r' : Row) : PyData.eqv (rowD r).py (rowD r').py = decide (r = r') := by
  have nbr : ∀ r : Row, D.nb (rowD r) = true := fun r => D.nbA_all fun d hd => by obtain ⟨i, _, rfl⟩ := List.mem_map.mp hd; rfl
  have q := D.eqv_iff (rowD r) (rowD r') (nbr r) (nbr r')
  by_cases e : r = r'
  · rw [decide_eq_true e]; exact q.mpr (by rw [e])
  · rw [decide_eq_false e]
    cases z : PyData.eqv (rowD r).py (rowD r').py with
    | false => rfl
    | true =>
      have h := q.mp z
      unfold rowD at h
      injection h with h
      have inj : ∀ {a b : List Int}, a.map D.int = b.map D.int → a = b := by
        intro a
        induction a with
        | nil => intro b h; cases b with | nil => rfl | cons _ _ => cases h
        | cons x a ih =>
          intro b h
          cases b with
          | nil => cases h
          | cons y b =>
            rw [List.map_cons, List.map_cons] at h
            injection h with h1 h2
            injection h1 with h1
            rw [h1, ih h2]
      exact absurd (inj h) e
def inKs (l : List (Int × Row)) : List (Key × D) := l.map fun p => ((Sum.inl p.1 : Key), rowD p.2)
def eqIn (l l' : List (Int × Row)) : Bool := l.length == l'.length && l.all fun p => decide (l'.lookup p.1 = some p.2)
def eIn (l l' : List (Int × Row)) : Key → Bool
  | .inl i => decide (l.lookup i = l'.lookup i)
  | .inr _ => false
theorem RpK.lenE {B : Hp} : ∀ {vs : List (Key × V)} {ds : List (Key × D)}, RpK K B vs ds → vs.length = ds.length
  | _, _, .nil => rfl
  | _, _, .cons _ r => by rw [List.length_cons, List.length_cons, RpK.lenE r]
theorem valD_inE {l : List (Int × Row)} {k : Int} : valD (inKs l) (.inl k) = (l.lookup k).map rowD := by
  induction l with
  | nil => rfl
  | cons t l ih =>
    obtain ⟨a, c⟩ := t
    by_cases e : k = a
    · subst e
      simp [inKs, valD, List.lookup]
    · have e' : (k == a) = false := by simpa using e
      unfold inKs valD at ih ⊢
      have ne : ¬ (Sum.inl a : Key) = Sum.inl k := fun z => e (Sum.inl.inj z).symm
      simpa [List.find?_cons, List.lookup, e', ne] using ih
theorem look_of {l : List (Int × Row)} (nd : (l.map (·.1)).Nodup) {p : Int × Row} (h : p ∈ l) : l.lookup p.1 = some p.2 := by
  induction l with
  | nil => cases h
  | cons t l ih =>
    obtain ⟨a, c⟩ := t
    rw [List.map_cons, List.nodup_cons] at nd
    rcases List.mem_cons.mp h with rfl | h
    · simp [List.lookup]
    · have ne : (p.1 == a) = false := by
        have : p.1 ≠ a := fun z => nd.1 (List.mem_map.mpr ⟨p, h, z⟩)
        simpa using this
      simp only [List.lookup, ne]
      exact ih nd.2 h
theorem RpK.memE {B : Hp} : ∀ {vs : List (Key × V)} {ds : List (Key × D)} {q : Key × V}, RpK K B vs ds → q ∈ vs → ∃ d, (q.1, d) ∈ ds ∧ Rp K B q.2 d
  | _, _, _, .nil, h => by cases h
  | _, _, q, .cons r1 r2, h => by
    rcases List.mem_cons.mp h with rfl | h
    · exact ⟨_, List.mem_cons_self, r1⟩
    · obtain ⟨d, h1, h2⟩ := RpK.memE r2 h
      exact ⟨d, List.mem_cons_of_mem _ h1, h2⟩
theorem ents_in {B H : Hp} (e : Ex B H) {ks ls : List (Key × V)} {l l' : List (Int × Row)} (r : RpK K B ks (inKs l)) (r' : RpK K B ls (inKs l')) (nd : (l.map (·.1)).Nodup) : Ents K H ks ls (eIn l l') := fun p hp y hy => by
  obtain ⟨d, h1, h2⟩ := RpK.memE r hp
  obtain ⟨x, hx, e1⟩ := List.mem_map.mp h1
  injection e1 with e1 e2
  subst e2
  have hl := look_of nd hx
  have hv : valD (inKs l') p.1 = (l'.lookup x.1).map rowD := by rw [← e1]; exact valD_inE
  cases hl' : l'.lookup x.1 with
  | none =>
    rw [hl'] at hv
    rw [RpK.valN r' hv] at hy
    cases hy
  | some r2 =>
    rw [hl'] at hv
    obtain ⟨y', hy', rr⟩ := r'.val hv
    rw [hy] at hy'
    cases hy'
    have sh : ∀ r : Row, D.sh 1 (rowD r) = true := fun r => D.shA_all fun d hd => by obtain ⟨i, _, rfl⟩ := List.mem_map.mp hd; rfl
    refine ⟨_, _, Rp.dp e h2 (D.sh_pl _ _ (sh _)), Rp.dp e rr (D.sh_pl _ _ (sh _)), D.shaped (sh _), D.shaped (sh _), ?_⟩
    rw [row_eqv, ← e1]
    show decide (l.lookup x.1 = l'.lookup x.1) = _
    rw [hl, hl']
    simp
theorem all_keys {B : Hp} {f : Key → Bool} : ∀ {vs : List (Key × V)} {ds : List (Key × D)}, RpK K B vs ds → (vs.all fun p => f p.1) = ds.all fun p => f p.1
  | _, _, .nil => rfl
  | _, _, .cons _ r => by rw [List.all_cons, List.all_cons, all_keys r]
theorem some_keys {B : Hp} {k : Key} {vs : List (Key × V)} {ds : List (Key × D)} (r : RpK K B vs ds) : (valV vs k).isSome = (valD ds k).isSome := by
  cases h : valD ds k with
  | none => rw [RpK.valN r h]; rfl
  | some d =>
    obtain ⟨v, h1, _⟩ := r.val h
    rw [h1]; rfl
theorem same_in {B : Hp} {ks ls : List (Key × V)} {l l' : List (Int × Row)} (r : RpK K B ks (inKs l)) (r' : RpK K B ls (inKs l')) (nd : (l.map (·.1)).Nodup) : sameB ks ls (eIn l l') = eqIn l l' := by
  unfold sameB eqIn
  have e1 : (ks.all fun p => (valV ls p.1).isSome && eIn l l' p.1) = l.all fun p => decide (l'.lookup p.1 = some p.2) := by
    rw [all_keys (f := fun k => (valV ls k).isSome && eIn l l' k) r]
    unfold inKs
    rw [List.all_map]
    have : ∀ p ∈ l, ((fun q : Key × D => (valV ls q.1).isSome && eIn l l' q.1) ∘ fun p => ((Sum.inl p.1 : Key), rowD p.2)) p = decide (l'.lookup p.1 = some p.2) := fun p hp => by
      show ((valV ls (Sum.inl p.1)).isSome && decide (l.lookup p.1 = l'.lookup p.1)) = _
      rw [some_keys r', valD_inE, look_of nd hp]
      cases l'.lookup p.1 with
      | none => simp
      | some x => simp [eq_comm]
    rw [List.all_eq, List.all_eq]
    congr 1
    apply propext
    constructor
    · intro h x hx; rw [← this x hx]; exact h x hx
    · intro h x hx; rw [this x hx]; exact h x hx
  rw [e1, RpK.lenE r, RpK.lenE r']
  simp [inKs]
theorem od_eqIn {l l' : List (Int × Row)} {neg : Bool} (nd : (l.map (·.1)).Nodup) : OpD K (rEqDD K neg) (.dat (inD l)) (.dat (inD l')) (.dat (.bl (if neg then !eqIn l l' else eqIn l l'))) := fun B H x y e h1 h2 Q q => by
  have a' : Rp K B x (.dic (inKs l)) := h1
  have b' : Rp K B y (.dic (inKs l')) := h2
  cases a' with
  | @dic a ks _ h5 r => cases b' with
    | @dic b ls _ h6 r' =>
      refine ⟨a, b, ks, ls, eIn l l', rfl, rfl, .inl (e _ _ h5), .inl (e _ _ h6), ents_in e r r' nd, ?_⟩
      rw [same_in r r' nd]
      exact q _ B H (Stp.refl _ _ _) e (.bl _)
theorem in_det {B : Hp} : ∀ {kvs : List (Key × V)} {l l' : List (Int × Row)}, RpK K B kvs (inKs l) → RpK K B kvs (inKs l') → l = l'
  | [], l, l', h, h' => by
    have e1 := RpK.lenE h
    have e2 := RpK.lenE h'
    unfold inKs at e1 e2
    rw [List.length_map] at e1 e2
    rw [List.length_eq_zero_iff.mp e1.symm, List.length_eq_zero_iff.mp e2.symm]
  | (k, v) :: kvs, l, l', h, h' => by
    cases l with
    | nil => have e1 := RpK.lenE h; simp [inKs] at e1
    | cons t l => cases l' with
      | nil => have e1 := RpK.lenE h'; simp [inKs] at e1
      | cons t' l' =>
        obtain ⟨a, c⟩ := t
        obtain ⟨a', c'⟩ := t'
        have g : RpK K B ((k, v) :: kvs) (((Sum.inl a : Key), rowD c) :: inKs l) := h
        have g' : RpK K B ((k, v) :: kvs) (((Sum.inl a' : Key), rowD c') :: inKs l') := h'
        cases g with
        | cons r1 r2 =>
          cases g' with
          | cons r1' r2' =>
            rw [row_det r1 r1', in_det r2 r2']
theorem eqIn_self {l : List (Int × Row)} (nd : (l.map (·.1)).Nodup) : eqIn l l = true := by
  unfold eqIn
  simp only [beq_self_eq_true, Bool.true_and, List.all_eq_true, decide_eq_true_eq]
  exact fun p hp => look_of nd hp
def tabKs (R : Rs) : List (Key × D) := R.map fun t => ((Sum.inr t.1 : Key), inD t.2)
def eqTab (R R' : Rs) : Bool := R.length == R'.length && R.all fun t => match R'.lookup t.1 with
  | some l' => eqIn t.2 l'
  | none => false
def eTab (R R' : Rs) : Key → Bool
  | .inr n => match R.lookup n, R'.lookup n with
    | some l, some l' => eqIn l l'
    | _, _ => false
  | .inl _ => false
theorem look_ofT {α : Type} {l : List (Str × α)} (nd : (l.map (·.1)).Nodup) {p : Str × α} (h : p ∈ l) : l.lookup p.1 = some p.2 := by
  induction l with
  | nil => cases h
  | cons t l ih =>
    obtain ⟨a, c⟩ := t
    rw [List.map_cons, List.nodup_cons] at nd
    rcases List.mem_cons.mp h with rfl | h
    · simp [List.lookup]
    · have ne : (p.1 == a) = false := by
        have : p.1 ≠ a := fun z => nd.1 (List.mem_map.mpr ⟨p, h, z⟩)
        simpa using this
      simp only [List.lookup, ne]
      exact ih nd.2 h
theorem valD_tabN {R : Rs} {n : Str} (h : R.lookup n = none) : valD (tabKs R) (.inr n) = none := by
  induction R with
  | nil => rfl
  | cons t R ih =>
    obtain ⟨a, c⟩ := t
    by_cases e : n = a
    · subst e; simp [List.lookup] at h
    · have e' : (n == a) = false := by simpa using e
      have := ih (by simpa [List.lookup, e'] using h)
      unfold tabKs valD at this ⊢
      have ne : ¬ (Sum.inr a : Key) = Sum.inr n := fun z => e (Sum.inr.inj z).symm
      simpa [List.find?_cons, ne] using this
theorem od_eqTab {R R' : Rs} (nd : (R.map (·.1)).Nodup) (ni : ∀ t ∈ R, (t.2.map (·.1)).Nodup) : OpD K (rEqD2 K) (.dat (tabD R)) (.dat (tabD R')) (.dat (.bl (eqTab R R'))) := fun B H x y ex h1 h2 Q q => by
  have a' : Rp K B x (.dic (tabKs R)) := h1
  have b' : Rp K B y (.dic (tabKs R')) := h2
  cases a' with
  | @dic a ks _ h5 r => cases b' with
    | @dic b ls _ h6 r' =>
      refine ⟨a, b, ks, ls, eTab R R', rfl, rfl, .inl (ex _ _ h5), .inl (ex _ _ h6), fun p hp => ?_, fun p hp y hy => ?_, ?_⟩
      · obtain ⟨d, hd, rp⟩ := RpK.memE r hp
        obtain ⟨t, ht, e1⟩ := List.mem_map.mp hd
        injection e1 with e1 e2
        subst e2
        unfold inD at rp
        generalize p.2 = v at rp
        cases rp
        exact ⟨_, rfl⟩
      · obtain ⟨d, hd, rp⟩ := RpK.memE r hp
        obtain ⟨t, ht, e1⟩ := List.mem_map.mp hd
        injection e1 with e1 e2
        subst e2
        have hl := look_ofT nd ht
        cases hl' : R'.lookup t.1 with
        | none =>
          have := RpK.valN r' (valD_tabN hl')
          rw [e1, hy] at this
          cases this
        | some l' =>
          obtain ⟨y', hy', rr⟩ := r'.val (valD_tab hl')
          rw [e1, hy] at hy'
          cases hy'
          have hee : eTab R R' p.1 = eqIn t.2 l' := by
            rw [← e1]
            show (match R.lookup t.1, R'.lookup t.1 with | some l, some l' => eqIn l l' | _, _ => false) = _
            rw [hl, hl']
          rw [hee]
          unfold inD at rp rr
          generalize p.2 = v at rp
          cases rp with
          | @dic a1 k2 _ c1 s1 => cases rr with
            | @dic b1 l2 _ c2 s2 =>
              by_cases e : a1 = b1
              · subst e
                rw [c1] at c2
                injection c2 with c2
                injection c2 with c2
                subst c2
                have := in_det (l := t.2) (l' := l') s1 s2
                subst this
                exact .inl ⟨rfl, eqIn_self (ni t ht)⟩
              · exact .inr ⟨a1, b1, k2, l2, eIn t.2 l', rfl, rfl, e, .inl (ex _ _ c1), .inl (ex _ _ c2), ents_in ex s1 s2 (ni t ht), (same_in s1 s2 (ni t ht)).symm⟩
      · have es : sameB ks ls (eTab R R') = eqTab R R' := by
          unfold sameB eqTab
          have e1 : (ks.all fun p => (valV ls p.1).isSome && eTab R R' p.1) = R.all fun t => match R'.lookup t.1 with
              | some l' => eqIn t.2 l'
              | none => false := by
            rw [all_keys (f := fun k => (valV ls k).isSome && eTab R R' k) r]
            unfold tabKs
            rw [List.all_map]
            have : ∀ t ∈ R, ((fun q : Key × D => (valV ls q.1).isSome && eTab R R' q.1) ∘ fun t => ((Sum.inr t.1 : Key), inD t.2)) t = (match R'.lookup t.1 with | some l' => eqIn t.2 l' | none => false) := fun t ht => by
              show ((valV ls (Sum.inr t.1)).isSome && (match R.lookup t.1, R'.lookup t.1 with | some l, some l' => eqIn l l' | _, _ => false)) = _
              rw [some_keys r', look_ofT nd ht]
              cases hl' : R'.lookup t.1 with
              | none => rw [valD_tabN hl']; rfl
              | some l' =>
                have z : valD (tabKs R') (.inr t.1) = some (inD l') := valD_tab hl'
                rw [z]; rfl
            rw [List.all_eq, List.all_eq]
            congr 1
            apply propext
            constructor
            · intro h x hx; rw [← this x hx]; exact h x hx
            · intro h x hx; rw [this x hx]; exact h x hx
          rw [e1, RpK.lenE r, RpK.lenE r']
          simp [tabKs]
        rw [es]
        exact q _ B H (Stp.refl _ _ _) ex (.bl _)
end SP
/-! H1: the laws' own rows: columns of a table, whether a row's targets are there. -/
namespace SP
open PySem L2 DV PM LK
variable {K : PySem.W.Frag} {P : List Addr} {ss : List Sl} {cs cs1 cs2 : List (List D)} {te tk : TE}
/-- k not in d -/
theorem ev_dnotin {ks : List (Key × D)} {dk : D} {k : Key} (hk : Ev K P ss cs tk (.dat dk) cs1) (h : Ev K P ss cs1 te (.dat (.dic ks)) cs2) (hq : KeyD dk k) : Ev K P ss cs (tDNotIn tk te) (.dat (.bl (!(valD ks k).isSome))) cs2 := fun B H σ o Q q =>
  hk B H σ o _ fun u B1 H1 s1 o1 u1 => h B1 H1 σ o1 _ fun v B2 H2 s2 o2 v2 => by
    have e := hq.val (show Rp K B1 u dk from u1)
    subst e
    have a' : Rp K B2 v (.dic ks) := v2
    cases a' with
    | @dic a kvs _ h5 r =>
      refine ⟨a, valV kvs k, rfl, .inl ⟨kvs, k, .inl (o2.ex _ _ h5), rfl, rfl⟩, ?_⟩
      rw [some_keys r]
      exact q _ B2 H2 (s1.trans s2) o2 (.bl _)
def preLCols : Pre := fun rs Pl cs r cs' => ∃ T n cols, rs = [.dat (encTs T), .dat (.str n)] ∧ tabsOk T ∧ (T.map (·.1)).Nodup ∧ T.lookup n = some cols ∧ Pl = [] ∧ cs = [] ∧ r = .dat (.lst (cols.map encC)) ∧ cs' = []
def hasT (R : Rs) (cols : List Col) (row : Row) : Bool := (cols.zipIdx 0).all fun p => match p.1.2 with
  | none => true
  | some t => (((R.lookup t).getD []).lookup (row.getD (p.2 + 1) 0)).isSome
def preHasT : Pre := fun rs Pl cs r cs' => ∃ T R n cols row, rs = [.dat (encTs T), .dat (tabD R), .dat (.str n), .dat (rowD row)] ∧ schOk T ∧ refsOk T ∧ R.map (·.1) = T.map (·.1) ∧ T.lookup n = some cols ∧ row.length = cols.length + 1 ∧ Pl = [] ∧ cs = [] ∧ r = .dat (.bl (hasT R cols row)) ∧ cs' = []
theorem filter_look {α : Type} {n : Str} {x : α} : ∀ {T : List (Str × α)}, (T.map (·.1)).Nodup → T.lookup n = some x → (T.filter fun t => decide (t.1 = n)).map (·.2) = [x]
  | [], _, h => by cases h
  | (a, c) :: T, nd, h => by
    rw [List.map_cons, List.nodup_cons] at nd
    by_cases e : n = a
    · subst e
      have : c = x := by simpa [List.lookup] using h
      subst this
      rw [List.filter_cons_of_pos (by simp)]
      have : (T.filter fun t => decide (t.1 = n)) = [] := by
        rw [List.filter_eq_nil_iff]
        intro t ht z
        exact nd.1 (List.mem_map.mpr ⟨t, ht, of_decide_eq_true z⟩)
      rw [this]
      rfl
    · have e' : (n == a) = false := by simpa using e
      rw [List.filter_cons_of_neg (by simpa using fun z => e z.symm)]
      exact filter_look nd.2 (by simpa [List.lookup, e'] using h)
end SP
namespace T3
open PySem L2 DV PM SP LK
abbrev s_l_columns : Stmt := topS 40
abbrev N_l_columns : List Str := ["tables", "table", "name", "columns"]
theorem sc_l_columns : FnScope N_l_columns ["tables", "table"] (defScope s_l_columns) := ⟨rfl, rfl, rfl, by decide +kernel, rfl, by decide +kernel, by decide +kernel⟩

section
variable {P : Program} {w : World} {K : PySem.W.Frag} {mg : Str → Option Value} {base : Heap}
theorem ok_lcols {f : Addr} {fd : FuncData} (F : Fun K "_law_columns" "_law_columns" s_l_columns f fd) : FnOk P w K mg base CX0 1 f fd ["tables", "table"] (spM K preLCols) := by
  refine ok_body F sc_l_columns (fun rs Pl cs r cs' h => ?_) (fun X hX hr => ?_)
  · obtain ⟨T, n, cols, rfl, _⟩ := h
    rfl
  obtain ⟨cdv, A, outer, s, H, E, rfl⟩ := hX
  have nd := sc_l_columns.nd
  refine ⟨_, (pss_one (ps_ret (pe_ix ix_seq (pe_lc (own := [("name", 2), ("columns", 3)]) (g := (gTup K 2 (gCons (gName 2) (gCons (gName 3) gNil)))) (tt := (tTest (tOp (eqA K) (tVar 2) (tVar 1)))) (te := (tVar 3)) rfl nd (pi_list (pv 0)) (blkOk_by (N := N_l_columns) (sc := defScope s_l_columns) (by decide +kernel)) (by intro _ _ _ _ _; exact (pg_tup (by rfl) (by exact (pgs_cons (by exact (pg_name (i := 2) nd (by rfl) (by first | exact .inl rfl | exact .inr rfl))) (by exact (pgs_cons (by exact (pg_name (i := 3) nd (by rfl) (by first | exact .inl rfl | exact .inr rfl))) (by exact pgs_nil))))))) (by intro _ _ _ _ _; exact (pts_one (pt_cmpR (op_eqA hr.units) (pv 2) (pv 1) (nomark _)))) (by intro _ _ _ _ _; exact (pv 3))) pe_int (fun _ _ => rfl)))), ?_⟩
  intro rs Pl cl r cs' hp B0 H0 σ Dn st hP hd hn
  obtain ⟨T, n, cols, rfl, hT, hnd, hl, rfl, rfl, rfl, rfl⟩ := hp
  have e : ((T.filter fun t => decide (t.1 = n)).map fun t => D.lst (t.2.map encC)) = [D.lst (cols.map encC)] := by
    have z := filter_look hnd hl
    have : (T.filter fun t => decide (t.1 = n)).map (fun t => D.lst (t.2.map encC)) = ((T.filter fun t => decide (t.1 = n)).map (·.2)).map fun c => D.lst (c.map encC) := by rw [List.map_map]; rfl
    rw [this, z]
    rfl
  refine st_ret st (ev_op (EvF.ev (ef_filterE (l := T) (enc := encT) (wd_lst (ev_var (i := 0) rfl)) (fun t => D.lst (t.2.map encC)) (fun t => decide (t.1 = n)) (by have := hT.1; omega) (fun p i t acc hx => ⟨_, _, g_tup (g_cons g_name (g_cons g_name g_nil)), by decide, et_test (ev_op (ev_var rfl) (ev_var rfl) od_eqS), fun _ => ev_var rfl⟩))) (ev_int (i := 0)) (od_ixL (by rw [e]; exact atI_nat (xs := [D.lst (cols.map encC)]) (j := 0) rfl))) hd
end
end T3
/-! IX: t.index(x), t a tuple that the program has laid and that is known to have no dict. -/
namespace IX
open PySem PySem.Spec PyProof.Rows L2 DV
def rTIndex (K : PySem.W.Frag) : V → List V → Hp → VK → Prop := fun x xs H Q => ∃ p, ∃ ys : List Str, ∃ z j, x = .ref p ∧ xs = [.str z] ∧ SqT K H p (ys.map V.str) ∧ ys[j]? = some z ∧ (∀ m, m < j → ys[m]? ≠ some z) ∧ Q (.int (j : Nat)) H
theorem mt_tidx {X : Cx} : MtR X "tuple.index" (rTIndex X.K) := mt_tup_index
def tTIdx (K : PySem.W.Frag) (to : TE) (t : TA) : TE := fun σ H Q => to σ H fun x H1 => (∃ p o ys, x = .ref p ∧ H1 p = some (.frz o (.tup ys)) ∧ o.dict = none) ∧ t σ H1 fun xs H2 => rTIndex K x xs H2 Q
section
variable {X : Cx} {o e : Expr} {es : List Expr} {to : TE} {t : TA} {apos cpos : Pos}
theorem pe_tidx (ho : PE X o to) (ha : PA X (e :: es) t)
    (hbase : attributeBase o "index" X.env (eval o X.env) = eval o X.env := by rfl)
    (hfew : ((backTo cpos (starEach (e :: es) X.env)).all (fun x => !x.1) && (backToKw cpos (keywordEach [] X.env)).all (fun x => x.1.isSome)
      && decide ((e :: es).length + ([] : List Keyword).length + (if ([] : List Keyword).isEmpty then 0 else 1) < 30)) = true := by rfl)
    (hline : (apos.endLine == cpos.line) = true := by rfl) (hs : starEach (e :: es) X.env = (false, eval e X.env) :: starEach es X.env := by rfl) (hplain : (backTo cpos (starEach es X.env)).any (·.1) = false := by rfl) :
    PE X (.Call (.Attribute o "index" apos) (e :: es) [] cpos) (tTIdx X.K to t) := by
  refine ⟨fun pins s σ H Q I h => ?_⟩
  refine wpAny_Call_method_late hbase hfew hline rfl (thn (ho.run pins s σ H _ I h) fun v s1 ⟨x, H1, I1, r1, ty, q1⟩ => ?_)
  obtain ⟨p, ob, ys, rfl, hp, hd⟩ := ty
  cases r1
  obtain ⟨e1, hz, its, rv, ob', e2, hc, _⟩ := I1.hok p _ hp
  rw [e1] at e2
  cases e2
  refine ⟨"tuple", "tuple.index", PySem.F.plainAttrs_tuple, PySem.F.slot_tuple_index, PySem.F.type_tuple_index, ⟨ob, e1, hc⟩, fun a ea => ?_, ?_⟩
  · cases ea
    exact ⟨ob, e1, hd⟩
  · have hA := ha.run cpos pins s1 σ H1 _ I1 q1
    rw [hs] at hA ⊢
    refine Calls.callWith_builtin (by show (false || (backTo cpos (starEach es X.env)).any (·.1)) = false; rw [hplain] <;> rfl) (Calls.evalArgs_plain ?_)
    exact thn hA fun us s2 ⟨vs, H2, I2, r2, q2⟩ => mt_tidx pins s2 σ H2 (.ref p) vs _ us Q I2 rfl r2 q2
end
/-- the first place of n -/
def idxN (n : Str) : List Str → Nat
  | [] => 0
  | a :: r => if a = n then 0 else idxN n r + 1
theorem idxN_get {n : Str} : ∀ {l : List Str}, n ∈ l → l[idxN n l]? = some n ∧ ∀ m, m < idxN n l → l[m]? ≠ some n
  | [], h => by cases h
  | a :: r, h => by
    by_cases e : a = n
    · have z : idxN n (a :: r) = 0 := if_pos e
      rw [z]
      exact ⟨by simp [e], fun m hm => by omega⟩
    · have z : idxN n (a :: r) = idxN n r + 1 := if_neg e
      have h' : n ∈ r := by
        rcases List.mem_cons.mp h with q | q
        · exact absurd q.symm e
        · exact q
      obtain ⟨h1, h2⟩ := idxN_get h'
      rw [z]
      refine ⟨by simpa using h1, fun m hm => ?_⟩
      cases m with
      | zero => simpa using e
      | succ m => simpa using h2 m (by omega)
section
variable {K : PySem.W.Frag} {P : List Addr} {ss : List Sl} {cs cs1 cs2 : List (List D)} {te : TE} {ta : TA}
theorem rpA_strs {B : Hp} : ∀ {ys : List Str} {vs : List V}, RpA K B vs (ys.map D.str) → vs = ys.map V.str
  | [], _, .nil => rfl
  | y :: ys, _, .cons h r => by
    cases h
    rw [rpA_strs r]; rfl
theorem ev_tidx {ys : List Str} {z : Str} (h : Ev K P ss cs te (.dat (.nt (ys.map D.str))) cs1) (ha : EvA K P ss cs1 ta [.dat (.str z)] cs2) (hz : z ∈ ys) : Ev K P ss cs (tTIdx K te ta) (.dat (.int (idxN z ys : Nat))) cs2 := fun B H σ o Q q =>
  h B H σ o _ fun x B1 H1 s1 o1 v1 => by
    have a' : Rp K B1 x (.nt (ys.map D.str)) := v1
    cases a' with
    | @nt a ob xs _ h5 hd r =>
      refine ⟨⟨a, ob, xs, rfl, o1.ex _ _ h5, hd⟩, ha B1 H1 σ o1 _ fun us B2 H2 s2 o2 r2 => ?_⟩
      obtain ⟨w, rfl, hw⟩ := rs1 r2
      have b' : Rp K B2 w (.str z) := hw
      cases b'
      have e := rpA_strs r
      subst e
      obtain ⟨i1, i2⟩ := idxN_get hz
      exact ⟨a, ys, z, idxN z ys, rfl, rfl, .inl (.inr ⟨_, o2.ex _ _ (s2.ex _ _ h5)⟩), i1, i2, q _ B2 H2 (s1.trans s2) o2 (.int _)⟩
end
end IX
/-! V1: integers in texts; places of columns, targets of references. -/
namespace SP
open PySem L2 DV PM
variable {K : PySem.W.Frag} {P : List Addr} {ss : List Sl} {cs cs1 cs2 : List (List D)} {te tk : TE}
def digsOf (w : Str) : Str := if Txt.startswith w "-" = true then cutS w (some 1) none else w
def goodD (w : Str) : Bool := Txt.isascii (digsOf w) && (Txt.isdigit (digsOf w) && decide ((digsOf w).length ≤ 7))
def readIntF (w : Str) (lo hi : Int) : Option Int := if goodD w = true then (match PySem.intText? w with
  | some n => if (decide ((toString n : Str) = w) && (decide (lo ≤ n) && decide (n ≤ hi))) = true then some n else none
  | none => none) else none
def optI : Option Int → D
  | none => .non
  | some i => .int i
/-- a text of digits is read, to a small number -/
def okInt (w : Str) : Prop := w.length ≤ 600 ∧ (goodD w = true → ∃ n, PySem.intText? w = some n ∧ n.natAbs < 10 ^ 9)
def preReadI : Pre := fun rs Pl cs r cs' => ∃ w lo hi, rs = [.dat (.str w), .dat (.int lo), .dat (.int hi)] ∧ okInt w ∧ Pl = [] ∧ cs = [] ∧ r = .dat (optI (readIntF w lo hi)) ∧ cs' = []
def preReadEnd : Pre := fun rs Pl cs r cs' => ∃ w, rs = [.dat (.str w)] ∧ okInt w ∧ Pl = [] ∧ cs = [] ∧ r = .dat (optI (readIntF w (-1000) 1000)) ∧ cs' = []
def isEndF (w : Str) : Bool := decide (w = "-") || (readIntF w (-1000) 1000).isSome
def preIsEnd : Pre := fun rs Pl cs r cs' => ∃ w, rs = [.dat (.str w)] ∧ okInt w ∧ Pl = [] ∧ cs = [] ∧ r = .dat (.bl (isEndF w)) ∧ cs' = []
def rIntS : List V → Hp → VK → Prop := fun xs H Q => ∃ a n, xs = [.str a] ∧ PySem.intText? a = some n ∧ a.length ≤ 640 ∧ Q (.int n) H
theorem call_intS1 {X : Cx} : CallR X (.type "int") rIntS := call_int_str
def rStrI : List V → Hp → VK → Prop := fun xs H Q => ∃ i : Int, xs = [.int i] ∧ i.natAbs.log2 < 1920 ∧ Q (.str (toString i)) H
theorem call_strI1 {X : Cx} : CallR X (.type "str") rStrI := call_str_int
theorem cb_intS {a : Str} {n : Int} (h : PySem.intText? a = some n) (hl : a.length ≤ 640) : CbD K rIntS [.dat (.str a)] (.dat (.int n)) := fun B H vs e hv Q q => by
  obtain ⟨v, rfl, h1⟩ := rs1 hv
  cases (show Rp K B v (.str a) from h1)
  exact ⟨a, n, rfl, h, hl, q _ B H (Stp.refl _ _ _) e (.int _)⟩
theorem cb_strI {n : Int} (h : n.natAbs.log2 < 1920) : CbD K rStrI [.dat (.int n)] (.dat (.str (toString n))) := fun B H vs e hv Q q => by
  obtain ⟨v, rfl, h1⟩ := rs1 hv
  cases (show Rp K B v (.int n) from h1)
  exact ⟨n, rfl, h, q _ B H (Stp.refl _ _ _) e (.str _)⟩
theorem ev_m1 {rr : V → List V → Hp → VK → Prop} {a b : Str} {d : D} (h : Ev K P ss cs te (.dat (.str a)) cs1) (hk : Ev K P ss cs1 tk (.dat (.str b)) cs2) (hr : ∀ H (Q : VK), (∀ v, Rp K (fun _ => none) v d → Q v H) → rr (.str a) [.str b] H Q) (hd : d.flat = true := by rfl) : Ev K P ss cs (tM1 rr te tk) (.dat d) cs2 := fun B H σ o Q q =>
  h B H σ o _ fun v B1 H1 s1 o1 v1 => by
    have a' : Rp K B1 v (.str a) := v1
    cases a'
    refine ⟨⟨a, rfl⟩, hk B1 H1 σ o1 _ fun u B2 H2 s2 o2 u2 => ?_⟩
    have b' : Rp K B2 u (.str b) := u2
    cases b'
    exact hr H2 Q fun w hw => q w B2 H2 (s1.trans s2) o2 (hw.flatAny hd)
/-- xs.index(x) of a list of texts -/
theorem ev_lidx {ys : List Str} {x : Str} {j : Nat} (h : Ev K P ss cs te (.dat (.lst (ys.map D.str))) cs1) (hk : Ev K P ss cs1 tk (.dat (.str x)) cs2) (hj : ys[j]? = some x) (hno : ∀ m, m < j → ys[m]? ≠ some x) : Ev K P ss cs (tBM K "list" (rIndex K) te (tCons tk tNil)) (.dat (.int (j : Nat))) cs2 := fun B H σ o Q q =>
  h B H σ o _ fun v B1 H1 s1 o1 v1 => by
    have a' : Rp K B1 v (.lst (ys.map D.str)) := v1
    cases a' with
    | @lst a vs _ h5 r =>
      have ev := RpA.strs r
      subst ev
      refine ⟨.inl ⟨rfl, _, .inl (.inl (o1.ex _ _ h5))⟩, hk B1 H1 σ o1 _ fun u B2 H2 s2 o2 u2 => ?_⟩
      have b' : Rp K B2 u (.str x) := u2
      cases b'
      refine ⟨a, ys.map V.str, .str x, j, .str x, rfl, rfl, .inl (.inl (o2.ex _ _ (s2.ex _ _ h5))), rfl, DV.flat_strs ys, by rw [List.getElem?_map, hj]; rfl, by simp [eqV], fun m z' hm hz => ?_, q _ B2 H2 (s1.trans s2) o2 (.int _)⟩
      rw [List.getElem?_map] at hz
      cases hy : ys[m]? with
      | none => rw [hy] at hz; cases hz
      | some y =>
        rw [hy] at hz
        have e : V.str y = z' := Option.some.inj hz
        subst e
        have ne : y ≠ x := fun z => hno m hm (by rw [hy, z])
        simpa [eqV] using ne
/-- the first place of x -/
def firstAt (x : Str) : List Str → Option Nat
  | [] => none
  | y :: ys => if y = x then some 0 else (firstAt x ys).map (· + 1)
theorem firstAt_ok {x : Str} : ∀ {ys : List Str} {j : Nat}, firstAt x ys = some j → ys[j]? = some x ∧ ∀ m, m < j → ys[m]? ≠ some x
  | [], j, h => by cases h
  | y :: ys, j, h => by
    unfold firstAt at h
    by_cases e : y = x
    · rw [if_pos e] at h
      cases h
      exact ⟨by rw [e]; rfl, fun m hm => by omega⟩
    · rw [if_neg e] at h
      obtain ⟨i, hi, rfl⟩ := Option.map_eq_some_iff.mp h
      obtain ⟨a, b⟩ := firstAt_ok hi
      refine ⟨by simpa using a, fun m hm => ?_⟩
      cases m with
      | zero => simpa using e
      | succ m => simpa using b m (by omega)
def tgtDv : Col → D
  | (_, none) => .non
  | (_, some m) => .str m
theorem digs_len (w : Str) : (digsOf w).length ≤ w.length := by
  unfold digsOf
  split
  · show (((w.cps.toList.drop (HT.sIx w.length 0 (some 1))).take (HT.sIx w.length w.length none - HT.sIx w.length 0 (some 1))).toArray).size ≤ w.length
    rw [List.size_toArray, List.length_take, List.length_drop, Array.length_toList]
    show min _ (w.length - _) ≤ w.length
    omega
  · exact Nat.le_refl _
theorem lookS {m : Str} {a b c : D} (h1 : (m == ("tables" : Str)) = false) (h2 : (m == ("_columns" : Str)) = false) (h3 : (m == ("_rows" : Str)) = false) : List.lookup m [(("tables" : Str), a), ("_columns", b), ("_rows", c)] = none := by
  simp only [List.lookup, h1, h2, h3]
def preColPlace (C : Addr) : Pre := fun rs Pl cs r cs' => ∃ T t c cols j, rs = [.dat (schD C T), .dat (.str t), .dat (.str c)] ∧ T.lookup t = some cols ∧ cols.length ≤ 1000 ∧ firstAt c (cols.map (·.1)) = some j ∧ Pl = [] ∧ cs = [] ∧ r = .dat (.int (1 + (j : Nat))) ∧ cs' = []
def preTarget (C : Addr) : Pre := fun rs Pl cs r cs' => ∃ T t c cols m, rs = [.dat (schD C T), .dat (.str t), .dat (.str c)] ∧ T.lookup t = some cols ∧ cols.length ≤ 1000 ∧ (cols.map (·.1)).Nodup ∧ cols.lookup c = some (some m) ∧ Pl = [] ∧ cs = [] ∧ r = .dat (.str m) ∧ cs' = []
end SP
namespace T3
open PySem L2 DV PM SP
abbrev s_read_integer : Stmt := topS 8
abbrev N_read_integer : List Str := ["word", "low", "high", "digits", "value"]
theorem sc_read_integer : FnScope N_read_integer ["word", "low", "high"] (defScope s_read_integer) := ⟨rfl, rfl, rfl, by decide +kernel, rfl, by decide +kernel, by decide +kernel⟩

abbrev s_read_end : Stmt := topS 17
abbrev N_read_end : List Str := ["word"]
theorem sc_read_end : FnScope N_read_end ["word"] (defScope s_read_end) := ⟨rfl, rfl, rfl, by decide +kernel, rfl, by decide +kernel, by decide +kernel⟩

abbrev s_is_end : Stmt := topS 16
abbrev N_is_end : List Str := ["word"]
theorem sc_is_end : FnScope N_is_end ["word"] (defScope s_is_end) := ⟨rfl, rfl, rfl, by decide +kernel, rfl, by decide +kernel, by decide +kernel⟩

abbrev s_column_place : Stmt := topS 4
abbrev N_column_place : List Str := ["schema", "table", "column", "name", "target"]
theorem sc_column_place : FnScope N_column_place ["schema", "table", "column"] (defScope s_column_place) := ⟨rfl, rfl, rfl, by decide +kernel, rfl, by decide +kernel, by decide +kernel⟩

abbrev s_target_of : Stmt := topS 5
abbrev N_target_of : List Str := ["schema", "table", "reference", "name", "target"]
theorem sc_target_of : FnScope N_target_of ["schema", "table", "reference"] (defScope s_target_of) := ⟨rfl, rfl, rfl, by decide +kernel, rfl, by decide +kernel, by decide +kernel⟩

section
variable {P : Program} {w : World} {K : PySem.W.Frag} {mg : Str → Option Value} {base : Heap} {C : Addr}
theorem ok_readi {f : Addr} {fd : FuncData} (F : Fun K "read_integer" "read_integer" s_read_integer f fd) (b_len : mg "len" = none) (b_int : mg "int" = none) (b_str : mg "str" = none) (g_MOST_DIGITS : ∃ t, mg "MOST_DIGITS" = some (.int 7 t)) : FnOk P w K mg base CX0 1 f fd ["word", "low", "high"] (spM K preReadI) := by
  refine ok_body F sc_read_integer (fun rs Pl cs r cs' h => ?_) (fun X hX hr => ?_)
  · obtain ⟨w, lo, hi, rfl, _⟩ := h
    rfl
  obtain ⟨cdv, A, outer, s, H, E, rfl⟩ := hX
  have nd := sc_read_integer.nd
  obtain ⟨tk7, g_MOST_DIGITS⟩ := g_MOST_DIGITS
  refine ⟨_, (pss_cons (ps_set (i := 3) nd rfl (.inl rfl) (pe_ifExp (pt_val (pe_m1 PySem.F.slot_str_startswith PySem.F.type_str_startswith mt_startswith (pv 0) pe_str)) (pe_slice sl_3 (pv 0) (po_some pe_int) po_none) (pv 0)))
      (pss_cons (ps_if (PW.pt (pw_or (pt_not (pt_val (pe_m0 PySem.F.slot_str_isascii PySem.F.type_str_isascii mt_isascii (pv 3)))) (pw_or (pt_not (pt_val (pe_m0 PySem.F.slot_str_isdigit PySem.F.type_str_isdigit mt_isdigit (pv 3)))) (pw_or1 (pt_cmpR op_gt (pe_callB call_len1 (by rfl) b_len PySem.boot_len (pa_cons (pv 3) pa_nil)) (pe_glob (v := .int (7)) rfl g_MOST_DIGITS ⟨_, rfl⟩) (nomark _)))))) (pss_one (ps_ret pe_non)) pss_nil)
      (pss_cons (ps_set (i := 4) nd rfl (.inl rfl) (pe_callTy call_intS1 (by rfl) b_int (by decide +kernel) (pa_cons (pv 0) pa_nil)))
      (pss_one (ps_ret (pe_ifExp (PW.pt (pw_and (pt_cmpR (op_eqA hr.units) (pe_callTy call_strI1 (by rfl) b_str (by decide +kernel) (pa_cons (pv 4) pa_nil)) (pv 0) (nomark _)) (pw_and1 (pt_chain op_le op_le (pv 1) (pv 4) (pv 2))))) (pv 4) pe_non)))))), ?_⟩
  intro rs Pl cs r cs' hp B0 H0 σ Dn st hPl hd hn
  obtain ⟨wd, lo, hi, rfl, ⟨hl, hok⟩, rfl, rfl, rfl, rfl⟩ := hp
  have st : Sta K [] B0 H0 [.dat (.str wd), .dat (.int lo), .dat (.int hi), .any, .any] [] σ H0 := st
  refine st_seq (st_asg (i := 3) (cs1 := []) (r := .dat (.str (digsOf wd))) st (ev_if (b := Txt.startswith wd "-") (et_B (ev_m1 (ev_var (i := 0) rfl) ev_str (fun H Q q => ⟨_, _, rfl, rfl, q _ (.bl _)⟩))) (fun z => Ev.eq (ev_sl (ev_var (i := 0) rfl) (eo_some (ev_int (i := 1))) eo_none (sd_S (by omega))) (by unfold digsOf; rw [if_pos z])) (fun z => Ev.eq (ev_var (i := 0) rfl) (by unfold digsOf; rw [if_neg (by rw [z]; decide)]))) (fun σ1 H1 st1 => ?_))
  dsimp only []
  have st1 : Sta K [] B0 H0 [.dat (.str wd), .dat (.int lo), .dat (.int hi), .dat (.str (digsOf wd)), .any] [] σ1 H1 := st1
  have hm : ∀ {H : Hp} {m : Bool} {Q : VK}, (∀ v, Rp K (fun _ => none) v (.bl m) → Q v H) → Q (.bl m) H := fun k => k _ (.bl _)
  refine st_seq ?_
  refine st_if (b := !goodD wd) (cs1 := []) st1 ?_ (fun hb H2 st2 => ?_) (fun hb H2 st2 => ?_)
  · have e : (!goodD wd) = ((!Txt.isascii (digsOf wd)) || ((!Txt.isdigit (digsOf wd)) || decide (((digsOf wd).length : Int) > 7))) := by
      unfold goodD
      have : decide ((digsOf wd).length ≤ 7) = !decide (((digsOf wd).length : Int) > 7) := by
        by_cases h : (digsOf wd).length ≤ 7
        · rw [decide_eq_true h, decide_eq_false (by omega)]; rfl
        · rw [decide_eq_false h, decide_eq_true (by omega)]; rfl
      rw [this]
      cases Txt.isascii (digsOf wd) <;> cases Txt.isdigit (digsOf wd) <;> simp
    rw [e]
    refine et_or (et_not (et_B (ev_m0 (ev_var (i := 3) rfl) (fun H Q q => ⟨_, rfl, rfl, True.intro, q _ (.bl _)⟩)))) (fun _ => et_or (et_not (et_B (ev_m0 (ev_var (i := 3) rfl) (fun H Q q => ⟨_, rfl, rfl, True.intro, q _ (.bl _)⟩)))) (fun _ => et_test (ev_op (ev_cb (ea_cons (ev_var (i := 3) rfl) ea_nil) (cb_lenS (by
      have : (digsOf wd).length ≤ wd.length := digs_len wd
      omega))) ev_int (od_I0 (d := .bl (decide (((digsOf wd).length : Int) > 7))) fun _ => .bl _))))
  · have hr : readIntF wd lo hi = none := by
      unfold readIntF
      rw [if_neg (by simpa using hb)]
    rw [hr] at hd
    exact st_ret st2 ev_non hd
  refine st_next ?_
  have hg : goodD wd = true := by simpa using hb
  obtain ⟨n, hn1, hn2⟩ := hok hg
  dsimp only []
  refine st_seq (st_asg (i := 4) (cs1 := []) (r := .dat (.int n)) st2 (ev_cb (ea_cons (ev_var (i := 0) rfl) ea_nil) (cb_intS hn1 (by omega))) (fun σ3 H3 st3 => ?_))
  dsimp only []
  have st3 : Sta K [] B0 H0 [.dat (.str wd), .dat (.int lo), .dat (.int hi), .dat (.str (digsOf wd)), .dat (.int n)] [] σ3 H3 := st3
  have hr : readIntF wd lo hi = if (decide ((toString n : Str) = wd) && (decide (lo ≤ n) && decide (n ≤ hi))) = true then some n else none := by
    unfold readIntF
    rw [if_pos hg, hn1]
  rw [hr] at hd
  have hb2 : n.natAbs.log2 < 1920 := by
    by_cases h0 : n.natAbs = 0
    · rw [h0]; decide
    · have h1 := Nat.log2_self_le h0
      by_cases hlt : n.natAbs.log2 < 1920
      · exact hlt
      · exfalso
        have h2 : 2 ^ 30 ≤ 2 ^ n.natAbs.log2 := Nat.pow_le_pow_right (by decide) (by omega)
        have h3 : (2 : Nat) ^ 30 = 1073741824 := by decide
        have h4 : (10 : Nat) ^ 9 = 1000000000 := by decide
        omega
  refine st_ret st3 (ev_if (b := decide ((toString n : Str) = wd) && (decide (lo ≤ n) && decide (n ≤ hi))) (et_and (et_test (ev_op (ev_cb (ea_cons (ev_var (i := 4) rfl) ea_nil) (cb_strI hb2)) (ev_var (i := 0) rfl) od_eqS)) (fun _ => et_test (ev_chain (cs3 := []) (ev_var (i := 1) rfl) (ev_var (i := 4) rfl) (fun _ => ev_var (i := 2) rfl)))) (fun z => Ev.eq (ev_var (i := 4) rfl) (by rw [if_pos z]; rfl)) (fun z => Ev.eq ev_non (by rw [if_neg (by rw [z]; decide)]; rfl))) hd
theorem ok_readend {f fR : Addr} {fd fdR : FuncData} (F : Fun K "read_end" "read_end" s_read_end f fd) (G_read_integer : Def P w K mg base 1 "read_integer" fR fdR ["word", "low", "high"] (spM K preReadI)) (g_LOWEST_END : ∃ t, mg "LOWEST_END" = some (.int (-1000) t)) (g_HIGHEST_END : ∃ t, mg "HIGHEST_END" = some (.int 1000 t)) : FnOk P w K mg base CX0 2 f fd ["word"] (spM K preReadEnd) := by
  refine ok_body F sc_read_end (fun rs Pl cs r cs' h => ?_) (fun X hX hr => ?_)
  · obtain ⟨w, rfl, _⟩ := h
    rfl
  obtain ⟨cdv, A, outer, s, H, E, rfl⟩ := hX
  have nd := sc_read_end.nd
  obtain ⟨tk1, g_LOWEST_END⟩ := g_LOWEST_END
  obtain ⟨tk2, g_HIGHEST_END⟩ := g_HIGHEST_END
  refine ⟨_, (pss_one (ps_ret (pe_def G_read_integer hr (by decide) (by rfl) (pa_cons (pv 0) (pa_cons (pe_glob (v := .int (-1000)) rfl g_LOWEST_END ⟨_, rfl⟩) (pa_cons (pe_glob (v := .int (1000)) rfl g_HIGHEST_END ⟨_, rfl⟩) pa_nil)))))), ?_⟩
  intro rs Pl cs r cs' hp B0 H0 σ Dn st hPl hd hn
  obtain ⟨wd, rfl, hok, rfl, rfl, rfl, rfl⟩ := hp
  exact st_ret st (ev_call0 (ea_cons (ev_var (i := 0) rfl) (ea_cons ev_int (ea_cons ev_int ea_nil))) ⟨wd, -1000, 1000, rfl, hok, rfl, rfl, rfl, rfl⟩) hd
theorem ok_isend {f fR : Addr} {fd fdR : FuncData} (F : Fun K "is_end" "is_end" s_is_end f fd) (G_read_end : Def P w K mg base 2 "read_end" fR fdR ["word"] (spM K preReadEnd)) : FnOk P w K mg base CX0 3 f fd ["word"] (spM K preIsEnd) := by
  refine ok_body F sc_is_end (fun rs Pl cs r cs' h => ?_) (fun X hX hr => ?_)
  · obtain ⟨w, rfl, _⟩ := h
    rfl
  obtain ⟨cdv, A, outer, s, H, E, rfl⟩ := hX
  have nd := sc_is_end.nd
  refine ⟨_, (pss_one (ps_ret (pe_or (pe_cmpR (op_eqA hr.units) (pv 0) pe_str (nomark _)) (pe_one (pe_cmpR op_notN' (pe_def G_read_end hr (by decide) (by rfl) (pa_cons (pv 0) pa_nil)) pe_non (nomark _)))))), ?_⟩
  intro rs Pl cs r cs' hp B0 H0 σ Dn st hPl hd hn
  obtain ⟨wd, rfl, hok, rfl, rfl, rfl, rfl⟩ := hp
  refine st_ret st (Ev.eq (ev_orV (b := !(optI (readIntF wd (-1000) 1000)).isN) (ev_op (ev_var (i := 0) rfl) ev_str od_eqS) (fun _ => ev_op (ev_call0 (ea_cons (ev_var (i := 0) rfl) ea_nil) ⟨wd, rfl, hok, rfl, rfl, rfl, rfl⟩) ev_non od_notN)) ?_) hd
  unfold isEndF
  cases readIntF wd (-1000) 1000 <;> rfl
theorem ok_colplace {f fC : Addr} {fd fdC : FuncData} (F : Fun K "column_place" "column_place" s_column_place f fd) (cls_S : Cls K C) (M_columns : Meth K C "columns" fC) (G_columns : FnOk P w K mg base CX0 1 fC fdC ["self", "table"] (spM K (preCols C))) (B_columns : Binds K fdC ["self", "table"] []) : FnOk P w K mg base CX0 2 f fd ["schema", "table", "column"] (spM K (preColPlace C)) := by
  refine ok_body F sc_column_place (fun rs Pl cs r cs' h => ?_) (fun X hX hr => ?_)
  · obtain ⟨T, t, c, cols, j, rfl, _⟩ := h
    rfl
  obtain ⟨cdv, A, outer, s, H, E, rfl⟩ := hX
  have nd := sc_column_place.nd
  refine ⟨_, (pss_one (ps_ret (pe_op op_addA pe_int (pe_bm PySem.F.plainAttrs_list PySem.F.slot_list_index PySem.F.type_list_index mt_index (pe_lc (own := [("name", 3), ("target", 4)]) (g := (gTup K 2 (gCons (gName 3) (gCons (gName 4) gNil)))) (tt := tYes) (te := (tVar 3)) rfl nd (pi_tup (pe_meth (pv 0) cls_S M_columns G_columns (hr.mono (by decide)) B_columns .nil pass0 (pa_cons (pv 1) pa_nil))) (blkOk_by (N := N_column_place) (sc := defScope s_column_place) (by decide +kernel)) (by intro _ _ _ _ _; exact (pg_tup (by rfl) (by exact (pgs_cons (by exact (pg_name (i := 3) nd (by rfl) (by first | exact .inl rfl | exact .inr rfl))) (by exact (pgs_cons (by exact (pg_name (i := 4) nd (by rfl) (by first | exact .inl rfl | exact .inr rfl))) (by exact pgs_nil))))))) (by intro _ _ _ _ _; exact pts_nil) (by intro _ _ _ _ _; exact (pv 3))) (pa_cons (pv 2) pa_nil))))), ?_⟩
  intro rs Pl cs r cs' hp B0 H0 σ Dn st hPl hd hn
  obtain ⟨T, t, c, cols, j, rfl, hT, hc, hj, rfl, rfl, rfl, rfl⟩ := hp
  obtain ⟨h1, h2⟩ := firstAt_ok hj
  have hw : WD K [] [.dat (schD C T), .dat (.str t), .dat (.str c), .any, .any] [] (iTup K (tMeth C "columns" (spM K (preCols C)) [] E0 (tVar 0) (tCons (tVar 1) tNil))) (cols.map encC) [] := wd_tup (ev_meth1 (ev_var (i := 0) rfl) (lookS (by decide +kernel) (by decide +kernel) (by decide +kernel)) (ea_cons (ev_var (i := 1) rfl) ea_nil) ⟨T, t, cols, rfl, hT, rfl, rfl, rfl, rfl⟩)
  refine st_ret st (ev_op ev_int (ev_lidx (ys := cols.map (·.1)) ((EvF.ev (ef_mapE (l := cols) (enc := encC) hw (fun c => .str c.1) (by omega) (fun p i c acc hx => ?_))).eq (by rw [List.map_map]; rfl)) (ev_var (i := 2) rfl) h1 h2) od_addI) hd
  obtain ⟨n, m⟩ := c
  cases m with
  | none => exact ⟨_, _, (g_tup (g_cons g_name (g_cons g_name g_nil)) : GR K _ _ (.tup [.str n, .non]) _ _), by decide, ev_var rfl⟩
  | some m => exact ⟨_, _, (g_tup (g_cons g_name (g_cons g_name g_nil)) : GR K _ _ (.tup [.str n, .str m]) _ _), by decide, ev_var rfl⟩
theorem ok_target {f fC : Addr} {fd fdC : FuncData} (F : Fun K "target_of" "target_of" s_target_of f fd) (cls_S : Cls K C) (M_columns : Meth K C "columns" fC) (G_columns : FnOk P w K mg base CX0 1 fC fdC ["self", "table"] (spM K (preCols C))) (B_columns : Binds K fdC ["self", "table"] []) : FnOk P w K mg base CX0 2 f fd ["schema", "table", "reference"] (spM K (preTarget C)) := by
  refine ok_body F sc_target_of (fun rs Pl cs r cs' h => ?_) (fun X hX hr => ?_)
  · obtain ⟨T, t, c, cols, m, rfl, _⟩ := h
    rfl
  obtain ⟨cdv, A, outer, s, H, E, rfl⟩ := hX
  have nd := sc_target_of.nd
  refine ⟨_, (pss_one (ps_ret (pe_ix ix_seq (pe_lc (own := [("name", 3), ("target", 4)]) (g := (gTup K 2 (gCons (gName 3) (gCons (gName 4) gNil)))) (tt := (tTest (tOp (eqA K) (tVar 3) (tVar 2)))) (te := (tVar 4)) rfl nd (pi_tup (pe_meth (pv 0) cls_S M_columns G_columns (hr.mono (by decide)) B_columns .nil pass0 (pa_cons (pv 1) pa_nil))) (blkOk_by (N := N_target_of) (sc := defScope s_target_of) (by decide +kernel)) (by intro _ _ _ _ _; exact (pg_tup (by rfl) (by exact (pgs_cons (by exact (pg_name (i := 3) nd (by rfl) (by first | exact .inl rfl | exact .inr rfl))) (by exact (pgs_cons (by exact (pg_name (i := 4) nd (by rfl) (by first | exact .inl rfl | exact .inr rfl))) (by exact pgs_nil))))))) (by intro _ _ _ _ _; exact (pts_one (pt_cmpR (op_eqA hr.units) (pv 3) (pv 2) (nomark _)))) (by intro _ _ _ _ _; exact (pv 4))) pe_int (fun _ _ => rfl)))), ?_⟩
  intro rs Pl cs r cs' hp B0 H0 σ Dn st hPl hd hn
  obtain ⟨T, t, c, cols, m, rfl, hT, hc, hnd, hj, rfl, rfl, rfl, rfl⟩ := hp
  have hw : WD K [] [.dat (schD C T), .dat (.str t), .dat (.str c), .any, .any] [] (iTup K (tMeth C "columns" (spM K (preCols C)) [] E0 (tVar 0) (tCons (tVar 1) tNil))) (cols.map encC) [] := wd_tup (ev_meth1 (ev_var (i := 0) rfl) (lookS (by decide +kernel) (by decide +kernel) (by decide +kernel)) (ea_cons (ev_var (i := 1) rfl) ea_nil) ⟨T, t, cols, rfl, hT, rfl, rfl, rfl, rfl⟩)
  have e : ((cols.filter fun x => decide (x.1 = c)).map tgtDv) = [D.str m] := by
    have z := filter_look hnd hj
    have : (cols.filter fun x => decide (x.1 = c)).map tgtDv = ((cols.filter fun x => decide (x.1 = c)).map (·.2)).map fun o => (match o with | none => D.non | some m => D.str m) := by
      rw [List.map_map]
      apply List.map_congr_left
      intro x _
      obtain ⟨a, b⟩ := x
      cases b <;> rfl
    rw [this, z]
    rfl
  refine st_ret st (ev_op (EvF.ev (ef_filterE (l := cols) (enc := encC) hw tgtDv (fun x => decide (x.1 = c)) (by omega) (fun p i x acc hx => ?_))) (ev_int (i := 0)) (od_ixL (by rw [e]; exact atI_nat (xs := [D.str m]) (j := 0) rfl))) hd
  obtain ⟨n, o⟩ := x
  cases o with
  | none => exact ⟨_, _, (g_tup (g_cons g_name (g_cons g_name g_nil)) : GR K _ _ (.tup [.str n, .non]) _ _), by decide, et_test (ev_op (ev_var rfl) (ev_var rfl) od_eqS), fun _ => ev_var rfl⟩
  | some o => exact ⟨_, _, (g_tup (g_cons g_name (g_cons g_name g_nil)) : GR K _ _ (.tup [.str n, .str o]) _ _), by decide, et_test (ev_op (ev_var rfl) (ev_var rfl) od_eqS), fun _ => ev_var rfl⟩
end
end T3
/-! TB: the rows of tables, held as dicts that may change. -/
namespace SP
open PySem L2 DV PM QD RG
variable {K : PySem.W.Frag}
theorem rpK_app {B : Hp} : ∀ {vs ws : List (Key × V)} {ds es : List (Key × D)}, RpK K B vs ds → RpK K B ws es → RpK K B (vs ++ ws) (ds ++ es)
  | _, _, _, _, .nil, s => s
  | _, _, _, _, .cons h r, s => .cons h (rpK_app r s)
theorem any_in {B : Hp} {kvs : List (Key × V)} {l : List (Int × Row)} {i : Int} (h : RpK K B kvs (inKs l)) : (kvs.any fun kv => decide (kv.1 = (Sum.inl i : Key))) = l.any fun p => decide (p.1 = i) := by
  have e := valV_any (Sum.inl i : Key) kvs
  rw [e, some_keys h, valD_inE]
  clear e h
  induction l with
  | nil => rfl
  | cons t l ih =>
    obtain ⟨a, c⟩ := t
    by_cases e : i = a
    · subst e; simp [List.lookup]
    · have e' : (i == a) = false := by simpa using e
      have e2 : decide (a = i) = false := by simpa using fun z => e z.symm
      simp only [List.lookup, e', List.any_cons, e2, Bool.false_or]
      exact ih
theorem rpK_repl {B : Hp} {v : V} {r : Row} {i : Int} (hv : Rp K B v (rowD r)) : ∀ {kvs : List (Key × V)} {l : List (Int × Row)}, RpK K B kvs (inKs l) →
    RpK K B (kvs.map fun kv => if kv.1 = (Sum.inl i : Key) then (kv.1, v) else kv) (inKs (l.map fun p => if p.1 = i then (p.1, r) else p))
  | _, [], h => by
    have : RpK K B _ [] := h
    cases this
    exact .nil
  | _, (a, c) :: l, h => by
    have g : RpK K B _ (((Sum.inl a : Key), rowD c) :: inKs l) := h
    cases g with
    | cons h1 h2 =>
      rw [List.map_cons, List.map_cons]
      by_cases e : a = i
      · subst e
        rw [if_pos rfl, if_pos rfl]
        exact .cons hv (rpK_repl hv h2)
      · rw [if_neg (fun z => e (Sum.inl.inj z)), if_neg e]
        exact .cons h1 (rpK_repl hv h2)
theorem rpK_put {B : Hp} {v : V} {r : Row} {i : Int} {kvs : List (Key × V)} {l : List (Int × Row)} (h : RpK K B kvs (inKs l)) (hv : Rp K B v (rowD r)) : RpK K B (putK kvs (.inl i) v) (inKs (putL l i r)) := by
  unfold putK putL
  rw [any_in h]
  by_cases e : (l.any fun p => decide (p.1 = i)) = true
  · rw [if_pos e, if_pos e]; exact rpK_repl hv h
  · rw [if_neg e, if_neg e]
    have : inKs (l ++ [(i, r)]) = inKs l ++ [((Sum.inl i : Key), rowD r)] := by simp [inKs]
    rw [this]
    exact rpK_app h (.cons hv .nil)
theorem rpK_del {B : Hp} {i : Int} : ∀ {kvs : List (Key × V)} {l : List (Int × Row)}, RpK K B kvs (inKs l) → RpK K B (dropK kvs (.inl i)) (inKs (delL l i))
  | _, [], h => by
    have : RpK K B _ [] := h
    cases this
    exact .nil
  | _, (a, c) :: l, h => by
    have g : RpK K B _ (((Sum.inl a : Key), rowD c) :: inKs l) := h
    cases g with
    | @cons _ v _ vs _ h1 h2 =>
      have ih := rpK_del (i := i) h2
      unfold dropK delL at ih ⊢
      by_cases e : a = i
      · subst e
        rw [List.filter_cons_of_neg (by simp), List.filter_cons_of_neg (by simp)]
        exact ih
      · rw [List.filter_cons_of_pos (by simpa using e), List.filter_cons_of_pos (by simpa using e)]
        exact .cons h1 ih
/-- a dict of tables at t, the dicts of their rows at as -/
structure Tabs (K : PySem.W.Frag) (B H : Hp) (t : Addr) (as : List Addr) (R : Rs) : Prop where
  len : as.length = R.length
  top : H t = some (.dK (List.zipWith (fun r a => ((Sum.inr r.1 : Key), V.ref a)) R as))
  inn : ∀ (i : Nat) (a : Addr) (r : Str × List (Int × Row)), as[i]? = some a → R[i]? = some r → ∃ vs, H a = some (.dK vs) ∧ RpK K B vs (inKs r.2)
  nd : (t :: as).Nodup
  no : ∀ a ∈ t :: as, B a = none
theorem Tabs.has {B H : Hp} {t : Addr} {as : List Addr} {R : Rs} (h : Tabs K B H t as R) : ∀ a ∈ t :: as, ∃ kvs, H a = some (.dK kvs) := fun a ha => by
  rcases List.mem_cons.mp ha with rfl | ha
  · exact ⟨_, h.top⟩
  · obtain ⟨i, hi, e⟩ := List.getElem_of_mem ha
    have hR : i < R.length := by rw [← h.len]; exact hi
    obtain ⟨vs, h1, _⟩ := h.inn i a R[i] (by rw [List.getElem?_eq_getElem hi, e]) (List.getElem?_eq_getElem hR)
    exact ⟨vs, h1⟩
theorem Tabs.step {P : List Addr} {B H B' H' : Hp} {t : Addr} {as : List Addr} {R : Rs} (h : Tabs K B H t as R) (s : Stp P B H B' H') (hP : ∀ a ∈ t :: as, a ∉ P) : Tabs K B' H' t as R where
  len := h.len
  top := s.fr _ _ (hP t List.mem_cons_self) h.top
  inn i a r ha hr := by
    obtain ⟨vs, h1, h2⟩ := h.inn i a r ha hr
    exact ⟨vs, s.fr _ _ (hP a (List.mem_cons_of_mem _ (List.mem_of_getElem? ha))) h1, RpK.mono s.ex h2⟩
  nd := h.nd
  no a ha := by
    obtain ⟨kvs, hk⟩ := h.has a ha
    rw [s.nb a _ hk]
    exact h.no a ha
theorem nodup_at {α : Type} {l : List α} (nd : l.Nodup) {i j : Nat} (hi : i < l.length) (hj : j < l.length) (e : l[i] = l[j]) : i = j := by
  rcases Nat.lt_trichotomy i j with h | h | h
  · exact absurd e (List.pairwise_iff_getElem.mp nd i j hi hj h)
  · exact h
  · exact absurd e.symm (List.pairwise_iff_getElem.mp nd j i hj hi h)
/-- the rows of one table change -/
theorem Tabs.write {B H : Hp} {t : Addr} {as : List Addr} {R : Rs} (h : Tabs K B H t as R) {i : Nat} {a : Addr} {n : Str} {l l' : List (Int × Row)} {vs' : List (Key × V)} (ha : as[i]? = some a) (hr : R[i]? = some (n, l)) (r' : RpK K B vs' (inKs l')) :
    Tabs K B (upd H a (.dK vs')) t as (R.set i (n, l')) where
  len := by rw [List.length_set]; exact h.len
  top := by
    have ne : t ≠ a := fun z => (List.nodup_cons.mp h.nd).1 (z ▸ List.mem_of_getElem? ha)
    rw [upd_ne ne, h.top]
    congr 2
    apply List.ext_getElem?
    intro j
    rw [List.getElem?_zipWith, List.getElem?_zipWith, List.getElem?_set]
    by_cases e : i = j
    · subst e
      rw [if_pos rfl, if_pos (List.getElem?_eq_some_iff.mp hr).1, hr]
      cases as[i]? <;> rfl
    · rw [if_neg e]
  inn j b r hb hrj := by
    rw [List.getElem?_set] at hrj
    by_cases e : i = j
    · subst e
      rw [if_pos rfl, if_pos (List.getElem?_eq_some_iff.mp hr).1] at hrj
      cases hrj
      rw [ha] at hb
      cases hb
      exact ⟨vs', upd_same, r'⟩
    · rw [if_neg e] at hrj
      obtain ⟨vs, h1, h2⟩ := h.inn j b r hb hrj
      refine ⟨vs, ?_, h2⟩
      rw [upd_ne fun z => ?_]
      · exact h1
      · subst z
        obtain ⟨i1, g1⟩ := List.getElem?_eq_some_iff.mp ha
        obtain ⟨i2, g2⟩ := List.getElem?_eq_some_iff.mp hb
        exact e (nodup_at (List.nodup_cons.mp h.nd).2 i1 i2 (g1.trans g2.symm))
  nd := h.nd
  no := h.no
/-! the tables told to the base while an expression reads them -/
def cellsOf (H : Hp) (S : List Addr) : Cells := S.filterMap fun a => (H a).map fun o => (a, o)
theorem cells_mem {H : Hp} {S : List Addr} {p : Addr × HO} : p ∈ cellsOf H S ↔ p.1 ∈ S ∧ H p.1 = some p.2 := by
  unfold cellsOf
  rw [List.mem_filterMap]
  constructor
  · rintro ⟨a, ha, e⟩
    cases ho : H a with
    | none => rw [ho] at e; cases e
    | some o =>
      rw [ho] at e
      have e' : (a, o) = p := Option.some.inj e
      subst e'
      exact ⟨ha, ho⟩
  · rintro ⟨h1, h2⟩
    exact ⟨p.1, h1, by rw [h2]; rfl⟩
theorem held_of {B H : Hp} {S : List Addr} (no : ∀ a ∈ S, B a = none) : Held B H (cellsOf H S) := ⟨fun p hp => (cells_mem.mp hp).2, fun p hp => no _ (cells_mem.mp hp).1⟩
theorem Tabs.pub {B H : Hp} {t : Addr} {as : List Addr} {R : Rs} (h : Tabs K B H t as R) {S : List Addr} (hS : ∀ a ∈ t :: as, a ∈ S) (no : ∀ a ∈ S, B a = none) : Rp K (RG.pub B (cellsOf H S)) (.ref t) (tabD R) := by
  have hh := held_of (B := B) (H := H) no
  have at' : ∀ a ∈ t :: as, ∀ o, H a = some o → RG.pub B (cellsOf H S) a = some o := fun a ha o ho => pub_mem hh (p := (a, o)) (cells_mem.mpr ⟨hS a ha, ho⟩)
  have eB := RG.pub_ex hh.no
  unfold tabD
  refine .dic (at' t List.mem_cons_self _ h.top) ?_
  have gen : ∀ (R : Rs) (bs : List Addr), bs.length = R.length → (∀ (i : Nat) (a : Addr) (r : Str × List (Int × Row)), bs[i]? = some a → R[i]? = some r → a ∈ t :: as ∧ ∃ vs, H a = some (.dK vs) ∧ RpK K B vs (inKs r.2)) →
      RpK K (RG.pub B (cellsOf H S)) (List.zipWith (fun r a => ((Sum.inr r.1 : Key), V.ref a)) R bs) (R.map fun t => ((Sum.inr t.1 : Key), inD t.2)) := by
    intro R
    induction R with
    | nil => intro bs _ _; exact .nil
    | cons r R ih =>
      intro bs hl hin
      cases bs with
      | nil => cases hl
      | cons b bs =>
        obtain ⟨hm, vs, h1, h2⟩ := hin 0 b r rfl rfl
        refine .cons (.dic (at' b hm _ h1) (RpK.mono eB h2)) (ih bs (by simpa using hl) fun i a r' ha hr => hin (i + 1) a r' (by simpa using ha) (by simpa using hr))
  exact gen R as h.len fun i a r ha hr => ⟨List.mem_cons_of_mem _ (List.mem_of_getElem? ha), h.inn i a r ha hr⟩
/-- a base that may change: its object, its tables -/
structure BaseAt (K : PySem.W.Frag) (B H : Hp) (p dx t : Addr) (as : List Addr) (CB C : Addr) (v0 : V) (T : List Tab) (R : Rs) : Prop where
  obj : H p = some (.ins CB dx [("schema", v0), ("_tables", .ref t)])
  nop : B p = none
  out : p ∉ t :: as
  tabs : Tabs K B H t as R
  sch : Rp K B v0 (schD C T)
theorem BaseAt.step {P : List Addr} {B H B' H' : Hp} {p dx t : Addr} {as : List Addr} {CB C : Addr} {v0 : V} {T : List Tab} {R : Rs} (h : BaseAt K B H p dx t as CB C v0 T R) (s : Stp P B H B' H') (hP : ∀ a ∈ p :: t :: as, a ∉ P) : BaseAt K B' H' p dx t as CB C v0 T R where
  obj := s.fr _ _ (hP p List.mem_cons_self) h.obj
  nop := by rw [s.nb _ _ h.obj]; exact h.nop
  out := h.out
  tabs := h.tabs.step s fun a ha => hP a (List.mem_cons_of_mem _ ha)
  sch := h.sch.mono s.ex
theorem BaseAt.no {B H : Hp} {p dx t : Addr} {as : List Addr} {CB C : Addr} {v0 : V} {T : List Tab} {R : Rs} (h : BaseAt K B H p dx t as CB C v0 T R) : ∀ a ∈ p :: t :: as, B a = none := fun a ha => by
  rcases List.mem_cons.mp ha with rfl | ha
  · exact h.nop
  · exact h.tabs.no a ha
theorem BaseAt.pub {B H : Hp} {p dx t : Addr} {as : List Addr} {CB C : Addr} {v0 : V} {T : List Tab} {R : Rs} (h : BaseAt K B H p dx t as CB C v0 T R) : Rp K (RG.pub B (cellsOf H (p :: t :: as))) (.ref p) (baseD CB C T R) := by
  have hh := held_of (B := B) (H := H) h.no
  unfold baseD
  refine .obj (pub_mem hh (p := (p, _)) (cells_mem.mpr ⟨List.mem_cons_self, h.obj⟩)) (.cons (h.sch.mono (RG.pub_ex hh.no)) (.cons (h.tabs.pub (fun a ha => List.mem_cons_of_mem _ ha) h.no) .nil))
theorem BaseAt.notTup {B H : Hp} {p dx t : Addr} {as : List Addr} {CB C : Addr} {v0 : V} {T : List Tab} {R : Rs} (h : BaseAt K B H p dx t as CB C v0 T R) : ∀ q ∈ cellsOf H (p :: t :: as), notTup q.2 := fun q hq => by
  obtain ⟨h1, h2⟩ := cells_mem.mp hq
  rcases List.mem_cons.mp h1 with e | h1
  · rw [e, h.obj] at h2
    injection h2 with h2
    rw [← h2]
    exact ⟨fun xs z => (by cases z), fun u xs z => (by cases z)⟩
  · obtain ⟨kvs, hk⟩ := h.tabs.has _ h1
    rw [hk] at h2
    injection h2 with h2
    rw [← h2]
    exact ⟨fun xs z => (by cases z), fun u xs z => (by cases z)⟩
/-- an expression that reads a base that may change, as data -/
theorem BaseAt.read {P : List Addr} {B H : Hp} {p dx t : Addr} {as : List Addr} {CB C : Addr} {v0 : V} {T : List Tab} {R : Rs} {ss : List Sl} {cs cs1 : List (List D)} {σ : L2.St} {te : TE} {d : D} {i : Nat} (h : BaseAt K B H p dx t as CB C v0 T R) (o : Okk K P ss cs B H σ) (hP : ∀ a ∈ p :: t :: as, a ∉ P) (hc : ∀ c ∈ cs1, ndA c = true) (hi : ss[i]? = some (.val (.ref p)))
    (he : Ev K P (ss.set i (.dat (baseD CB C T R))) cs te (.dat d) cs1) (hd : nd d = true) {Q : VK} (q : ∀ v B' H', Stp P B H B' H' → Okk K P ss cs1 B' H' σ → BaseAt K B' H' p dx t as CB C v0 T R → Rp K B' v d → Q v H') : te σ H Q := by
  have hh := held_of (B := B) (H := H) h.no
  have e1 := RG.pub_ex hh.no
  have hP' : ∀ q ∈ cellsOf H (p :: t :: as), q.1 ∉ P := fun q hq => hP _ (cells_mem.mp hq).1
  refine he (RG.pub B (cellsOf H (p :: t :: as))) H σ ⟨RG.pub_in o.ex hh, slots_dat (o.sl.mono e1) hi h.pub, RG.mu_pub e1 hP' o.mu⟩ Q fun v B2 H2 s2 o2 v2 => ?_
  obtain ⟨B3, _, st, o3, h3, f3, z⟩ := RG.hide (F := fun _ => True) hP' h.notTup (fun _ _ _ _ => True.intro) hc o hh True.intro s2 o2
  exact q v B3 H2 st o3 (h.step st hP) (z v2 hd)
theorem BaseAt.readT {P : List Addr} {B H : Hp} {p dx t : Addr} {as : List Addr} {CB C : Addr} {v0 : V} {T : List Tab} {R : Rs} {ss : List Sl} {cs cs1 : List (List D)} {σ : L2.St} {tt : TT} {b : Bool} {i : Nat} (h : BaseAt K B H p dx t as CB C v0 T R) (o : Okk K P ss cs B H σ) (hP : ∀ a ∈ p :: t :: as, a ∉ P) (hc : ∀ c ∈ cs1, ndA c = true) (hi : ss[i]? = some (.val (.ref p)))
    (he : EvT K P (ss.set i (.dat (baseD CB C T R))) cs tt b cs1) {Q : Bool → Hp → Prop} (q : ∀ B' H', Stp P B H B' H' → Okk K P ss cs1 B' H' σ → BaseAt K B' H' p dx t as CB C v0 T R → Q b H') : tt σ H Q := by
  have hh := held_of (B := B) (H := H) h.no
  have e1 := RG.pub_ex hh.no
  have hP' : ∀ q ∈ cellsOf H (p :: t :: as), q.1 ∉ P := fun q hq => hP _ (cells_mem.mp hq).1
  refine he (RG.pub B (cellsOf H (p :: t :: as))) H σ ⟨RG.pub_in o.ex hh, slots_dat (o.sl.mono e1) hi h.pub, RG.mu_pub e1 hP' o.mu⟩ Q fun B2 H2 s2 o2 => ?_
  obtain ⟨B3, _, st, o3, h3, f3, z⟩ := RG.hide (F := fun _ => True) hP' h.notTup (fun _ _ _ _ => True.intro) hc o hh True.intro s2 o2
  exact q B3 H2 st o3 (h.step st hP)
/-- a loop beside something else that holds between two turns -/
def TurnX (K : PySem.W.Frag) {α : Type} (PS P : List Addr) (B1 H1 : Hp) (J : Nat → α → Prop) (S : Nat → α → List Sl) (C : Nat → α → List (List D)) (X : Nat → α → Hp → Hp → Prop) (i : Nat) (σ : L2.St) (H : Hp) : Prop := ∃ z, J i z ∧ ∃ B, Stp PS B1 H1 B H ∧ Okk K P (S i z) (C i z) B H σ ∧ X i z B H
theorem st_forX {α : Type} {PS P : List Addr} {B0 H0 B H : Hp} {ss : List Sl} {cs cs1 : List (List D)} {σ : L2.St} {De : Ends} {wi : TI} {g : TG} {tb : TS} {ds : List D} (hsub : ∀ p ∈ P, p ∈ PS) (s : Stp PS B0 H0 B H) (o : Okk K P ss cs B H σ) (hw : WD K P ss cs wi ds cs1)
    (J : Nat → α → Prop) (S : Nat → α → List Sl) (C : Nat → α → List (List D)) (X : Nat → α → Hp → Hp → Prop) (z0 : α) (j0 : J 0 z0) (l0 : LeS ss (S 0 z0)) (c0 : cs1 = C 0 z0) (x0 : ∀ B1 H1, Stp P B H B1 H1 → X 0 z0 B1 H1) (sb : ∀ i z B H B' H', X i z B H → Stp [] B H B' H' → X i z B' H')
    (hs : ∀ B1 H1, Stp PS B0 H0 B1 H1 → ∀ i d z, ds[i]? = some d → J i z → ∃ G W, GR K (S i z) g d G W ∧
      ∀ B2 σ' H', Stp PS B1 H1 B2 H' → Okk K P G (C i z) B2 H' σ' → X i z B2 H' → tb { De with nx := TurnX K PS P B1 H1 J S C X (i + 1), ct := TurnX K PS P B1 H1 J S C X (i + 1), bk := De.nx } σ' H')
    (hd : ∀ z B2 σ' H', J ds.length z → Stp PS B0 H0 B2 H' → Okk K P (S ds.length z) (C ds.length z) B2 H' σ' → X ds.length z B2 H' → De.nx σ' H') : tFor wi g tb De σ H := by
  refine hw B H σ o _ fun It B1 H1 s1 o1 wk => ?_
  have sB : Stp PS B0 H0 B1 H1 := s.trans (s1.mono hsub)
  refine ⟨fun i m σ H => m = ds.length - i ∧ i ≤ ds.length ∧ TurnX K PS P B1 H1 J S C X i σ H, ⟨ds.length, by simp, Nat.zero_le _, z0, j0, B1, Stp.refl _ _ _, ?_, x0 B1 H1 s1⟩, ?_⟩
  · rw [← c0]
    exact ⟨o1.ex, o1.sl.le l0, o1.mu⟩
  rintro i m σ' H' ⟨rfl, hi, z, jz, B2, s2, o2, x2⟩
  obtain ⟨w1, w2⟩ := wk i B2 H' s2.ex o2.ex
  by_cases hlt : i < ds.length
  · have hd' : ds[i]? = some ds[i] := List.getElem?_eq_getElem hlt
    obtain ⟨go, yl⟩ := w1 _ hd'
    obtain ⟨G, W, hg, body⟩ := hs B1 H1 sB i _ z hd' jz
    refine .inr ⟨go, TurnX K PS P B1 H1 J S C X (i + 1), fun σ3 H3 q => ⟨ds.length - (i + 1), by omega, rfl, hlt, q⟩, fun x H3 y => ?_⟩
    obtain ⟨B3, s3, e3, x3⟩ := yl x H3 y
    have o3 := o2.step0 s3 e3
    exact hg B3 H3 σ' x o3.ex o3.sl x3 _ fun σ4 s4 _ => body B3 σ4 H3 (s2.trans s3.ofNil) ⟨o3.ex, s4, o3.mu⟩ (sb _ _ _ _ _ _ x2 s3)
  · have e : i = ds.length := by omega
    subst e
    exact .inl ⟨w2 (Nat.le_refl _), hd z B2 σ' H' jz (sB.trans s2) o2 x2⟩
end SP
namespace SP
open PySem L2 DV PM LK RG
variable {K : PySem.W.Frag}
def optN : Option Nat → D
  | none => .non
  | some i => .int (i : Nat)
def room (n : Nat) (R : Rs) : Prop := ∀ t ∈ R, t.2.length + n ≤ 1000
def spAdv (K : PySem.W.Frag) (CB C : Addr) : Sp := fun vs H Q _ => ∃ B p dx t as v0 T R chs vch, vs = [.ref p, vch] ∧ Ex B H ∧ BaseAt K B H p dx t as CB C v0 T R ∧ Rp K B vch (.lst (List.map encCh chs)) ∧ schOk T ∧ refsOk T ∧ rowsOk T R ∧ (∀ c ∈ chs, chOk T c) ∧ room chs.length R ∧
  ∀ v B' H', Stp as B H B' H' → Ex B' H' → BaseAt K B' H' p dx t as CB C v0 T (advF T chs R 0).2 → Rp K B' v (optN (advF T chs R 0).1) → Q v H'
theorem len_putL (l : List (Int × Row)) (i : Int) (r : Row) : (putL l i r).length ≤ l.length + 1 := by
  unfold putL
  split
  · rw [List.length_map]; omega
  · simp
theorem len_delL (l : List (Int × Row)) (i : Int) : (delL l i).length ≤ l.length := List.length_filter_le _ _
theorem keys_putL (l : List (Int × Row)) (i : Int) (r : Row) : (putL l i r).map (·.1) = if i ∈ l.map (·.1) then l.map (·.1) else l.map (·.1) ++ [i] := by
  unfold putL
  by_cases e : (l.any fun p => decide (p.1 = i)) = true
  · have hm : i ∈ l.map (·.1) := by
      obtain ⟨p, hp, h⟩ := List.any_eq_true.mp e
      exact List.mem_map.mpr ⟨p, hp, of_decide_eq_true h⟩
    rw [if_pos e, if_pos hm, List.map_map]
    apply List.map_congr_left
    intro p _
    show (if p.1 = i then (p.1, r) else p).1 = p.1
    split <;> rfl
  · have hm : ¬ i ∈ l.map (·.1) := fun h => by
      obtain ⟨p, hp, h⟩ := List.mem_map.mp h
      exact e (List.any_eq_true.mpr ⟨p, hp, decide_eq_true h⟩)
    rw [if_neg e, if_neg hm]
    simp
theorem nd_putL {l : List (Int × Row)} {i : Int} {r : Row} (nd : (l.map (·.1)).Nodup) : ((putL l i r).map (·.1)).Nodup := by
  rw [keys_putL]
  split
  · exact nd
  · rename_i h
    rw [List.nodup_append]
    exact ⟨nd, by simp, fun a ha b hb => by rw [List.mem_singleton.mp hb]; exact fun z => h (z ▸ ha)⟩
theorem mem_putL {l : List (Int × Row)} {i : Int} {r : Row} {p : Int × Row} (h : p ∈ putL l i r) : p ∈ l ∨ p = (i, r) := by
  unfold putL at h
  split at h
  · obtain ⟨q, hq, e⟩ := List.mem_map.mp h
    by_cases z : q.1 = i
    · rw [if_pos z] at e
      subst e
      rw [z]
      exact .inr rfl
    · rw [if_neg z] at e
      subst e
      exact .inl hq
  · rcases List.mem_append.mp h with h | h
    · exact .inl h
    · exact .inr (by simpa using h)
theorem setT_eq {R : Rs} {n : Str} {l : List (Int × Row)} {f : List (Int × Row) → List (Int × Row)} {i : Nat} (nd : (R.map (·.1)).Nodup) (h : R[i]? = some (n, l)) : R.set i (n, f l) = setT R n f := by
  unfold setT
  apply List.ext_getElem?
  intro j
  rw [List.getElem?_set, List.getElem?_map]
  by_cases e : i = j
  · subst e
    rw [if_pos rfl, if_pos (List.getElem?_eq_some_iff.mp h).1, h]
    simp
  · rw [if_neg e]
    cases hj : R[j]? with
    | none => rfl
    | some t =>
      have ne : t.1 ≠ n := fun z => by
        obtain ⟨i1, g1⟩ := List.getElem?_eq_some_iff.mp h
        obtain ⟨j1, g2⟩ := List.getElem?_eq_some_iff.mp hj
        refine e (nodup_at nd (by rw [List.length_map]; exact i1) (by rw [List.length_map]; exact j1) ?_)
        rw [List.getElem_map, List.getElem_map, g1, g2, z]
      show some t = some (if t.1 = n then _ else t)
      rw [if_neg ne]
theorem rows_setT {T : List Tab} {R : Rs} {n : Str} {f : List (Int × Row) → List (Int × Row)} (h : rowsOk T R) (h1 : ∀ t ∈ R, t.1 = n → ((f t.2).map (·.1)).Nodup ∧ (f t.2).length ≤ 1000 ∧ ∀ p ∈ f t.2, p ∈ t.2 ∨ (p.2.head? = some p.1 ∧ ∀ cols, T.lookup n = some cols → p.2.length = cols.length + 1)) : rowsOk T (setT R n f) := by
  obtain ⟨a, b, c⟩ := h
  unfold setT
  refine ⟨?_, fun t ht => ?_, fun t ht p hp => ?_⟩
  · rw [List.map_map, ← a]
    apply List.map_congr_left
    intro t _
    show (if t.1 = n then (t.1, f t.2) else t).1 = t.1
    split <;> rfl
  · obtain ⟨q, hq, rfl⟩ := List.mem_map.mp ht
    by_cases z : q.1 = n
    · rw [if_pos z]
      exact ⟨(h1 q hq z).1, (h1 q hq z).2.1⟩
    · rw [if_neg z]; exact b q hq
  · obtain ⟨q, hq, rfl⟩ := List.mem_map.mp ht
    by_cases z : q.1 = n
    · rw [if_pos z] at hp ⊢
      rcases (h1 q hq z).2.2 p hp with h | ⟨h, h'⟩
      · exact c q hq p h
      · exact ⟨h, fun cols hc => h' cols (by rw [← z]; exact hc)⟩
    · rw [if_neg z] at hp ⊢
      exact c q hq p hp
theorem step_ok {T : List Tab} {R : Rs} {c : Ch} {k : Nat} (hR : rowsOk T R) (hc : chOk T c) (hr : room (k + 1) R) : rowsOk T (stepCh R c) ∧ room k (stepCh R c) := by
  obtain ⟨cols, hl, ho, hn, _⟩ := hc
  have hlen : ∀ l : List (Int × Row), (stepL c l).length ≤ l.length + 1 := fun l => by
    unfold stepL
    cases c.new with
    | none => exact Nat.le_trans (len_delL _ _) (Nat.le_succ _)
    | some r => exact len_putL _ _ _
  have hnd : ∀ l : List (Int × Row), (l.map (·.1)).Nodup → ((stepL c l).map (·.1)).Nodup := fun l nd => by
    unfold stepL
    cases c.new with
    | none => exact List.Nodup.sublist (List.Sublist.map _ (List.filter_sublist)) nd
    | some r => exact nd_putL nd
  have hmem : ∀ l : List (Int × Row), ∀ p ∈ stepL c l, p ∈ l ∨ ∃ r, c.new = some r ∧ p = (r.headD 0, r) := fun l p hp => by
    unfold stepL at hp
    cases hnw : c.new with
    | none => rw [hnw] at hp; exact .inl (List.mem_filter.mp hp).1
    | some r =>
      rw [hnw] at hp
      rcases mem_putL hp with h | h
      · exact .inl h
      · exact .inr ⟨r, rfl, h⟩
  refine ⟨rows_setT hR fun t ht e => ⟨hnd _ (hR.2.1 t ht).1, ?_, fun p hp => ?_⟩, fun t ht => ?_⟩
  · have h1 := hlen t.2
    have h2 := hr t ht
    omega
  · rcases hmem _ p hp with h | ⟨r, hnw, rfl⟩
    · exact .inl h
    · refine .inr ⟨?_, fun cols' hc' => ?_⟩
      · have := hn r hnw
        cases r with
        | nil => simp at this
        | cons a r => rfl
      · rw [hl] at hc'
        cases hc'
        exact hn r hnw
  · unfold stepCh setT at ht
    obtain ⟨q, hq, rfl⟩ := List.mem_map.mp ht
    have h1 := hr q hq
    have h2 := hlen q.2
    by_cases z : q.1 = c.tab
    · rw [if_pos z]
      show (stepL c q.2).length + k ≤ 1000
      omega
    · rw [if_neg z]; omega
theorem stp_write {B H : Hp} {a : Addr} {o o' : HO} (h : H a = some o) : Stp [a] B H B (upd H a o') := ⟨Ex.refl _, fun b u n e => by rw [upd_ne (by simpa using n)]; exact e, fun _ _ _ => rfl, fun b u e => by
  by_cases hb : b = a
  · subst hb; exact ⟨_, upd_same⟩
  · exact ⟨u, by rw [upd_ne hb]; exact e⟩⟩
theorem okk_write {B H : Hp} {a : Addr} {o' : HO} {ss : List Sl} {σ : L2.St} (o : Okk K [] ss [] B H σ) (hB : B a = none) : Okk K [] ss [] B (upd H a o') σ := ⟨fun b u e => by
  rw [upd_ne fun z => by rw [z, hB] at e; cases e]
  exact o.ex b u e, o.sl, True.intro⟩
theorem BaseAt.write {B H : Hp} {p dx t : Addr} {as : List Addr} {CB C : Addr} {v0 : V} {T : List Tab} {R : Rs} (h : BaseAt K B H p dx t as CB C v0 T R) {i : Nat} {a : Addr} {n : Str} {l l' : List (Int × Row)} {vs' : List (Key × V)} (ha : as[i]? = some a) (hr : R[i]? = some (n, l)) (r' : RpK K B vs' (inKs l')) :
    BaseAt K B (upd H a (.dK vs')) p dx t as CB C v0 T (R.set i (n, l')) where
  obj := by rw [upd_ne fun (z : p = a) => h.out (by rw [z]; exact List.mem_cons_of_mem _ (List.mem_of_getElem? ha))]; exact h.obj
  nop := h.nop
  out := h.out
  tabs := h.tabs.write ha hr r'
  sch := h.sch
theorem advF_cons {T : List Tab} {c : Ch} {cs : List Ch} {R : Rs} {i : Nat} : advF T (c :: cs) R i = if okCh T R c = true then advF T cs (stepCh R c) (i + 1) else (some i, R) := rfl
theorem valV_zip : ∀ {R : Rs} {as : List Addr} {j : Nat} {n : Str} {l : List (Int × Row)} {a : Addr}, (R.map (·.1)).Nodup → R[j]? = some (n, l) → as[j]? = some a → valV (List.zipWith (fun (r : Str × List (Int × Row)) a => ((Sum.inr r.1 : Key), V.ref a)) R as) (.inr n) = some (.ref a)
  | [], _, _, _, _, _, _, h, _ => by simp at h
  | _ :: _, [], _, _, _, _, _, _, h => by simp at h
  | r :: R, b :: as, 0, n, l, a, nd, h, h' => by
    simp at h h'
    subst h h'
    exact valV_pos (p := ((Sum.inr n : Key), V.ref b)) rfl
  | r :: R, b :: as, j + 1, n, l, a, nd, h, h' => by
    rw [List.map_cons, List.nodup_cons] at nd
    have h1 : R[j]? = some (n, l) := by simpa using h
    have ne : r.1 ≠ n := fun z => nd.1 (List.mem_map.mpr ⟨(n, l), List.mem_of_getElem? h1, z.symm⟩)
    rw [List.zipWith_cons_cons, valV_neg fun z => ne (Sum.inr.inj z)]
    exact valV_zip nd.2 h1 (by simpa using h')
end SP
namespace T3
open PySem L2 DV PM SP LK
section
variable {P : Program} {w : World} {K : PySem.W.Frag} {mg : Str → Option Value} {base : Heap} {C CB : Addr}
end
end T3
/-! VM: the parts of a view, as a model and as objects. -/
namespace SP
open PySem L2 DV PM RG
variable {K : PySem.W.Frag}
theorem ifFv {c : Bool} {a b : Prop} (hc : c = false) (h : b) : if c = true then a else b := by rw [hc, if_neg Bool.false_ne_true]; exact h
theorem ifTv {c : Bool} {a b : Prop} (hc : c = true) (h : a) : if c = true then a else b := by rw [hc, if_pos rfl]; exact h
abbrev NodeM := Option (Nat × Str) × Str
abbrev RangeM := Nat × Str × Option Int × Option Int
def nodeD : NodeM → D
  | (none, t) => .tup [.non, .non, .str t]
  | (some (p, r), t) => .tup [.int (p : Nat), .str r, .str t]
def shownD (q : Nat × Str) : D := .tup [.int (q.1 : Nat), .str q.2]
def rangeMD (q : RangeM) : D := .tup [.int (q.1 : Nat), .str q.2.1, optI q.2.2.1, optI q.2.2.2]
def rankD (r : Nat × Nat) : D := .tup [.int (r.1 : Nat), .int (r.2 : Nat)]
def wayD (q : Nat × Nat × Nat) : D := .tup [.int (q.1 : Nat), rankD q.2]
structure PtM where
  nodes : List NodeM
  shown : List (Nat × Str)
  ranges : List RangeM
  way : List (Nat × Nat × Nat)
  deriving DecidableEq
def PtM0 : PtM := ⟨[], [], [], []⟩
def partsD (CP C : Addr) (T : List Tab) (M : PtM) : D := .obj CP [("_schema", schD C T), ("nodes", .lst (M.nodes.map nodeD)), ("shown", .lst (M.shown.map shownD)), ("ranges", .lst (M.ranges.map rangeMD)), ("_way", .lst (M.way.map wayD))]
/-- a list that may change -/
def LC (K : PySem.W.Frag) (B H : Hp) (a : Addr) (ds : List D) : Prop := ∃ vs, H a = some (.lst vs) ∧ B a = none ∧ RpA K B vs ds
theorem LC.step {P : List Addr} {B H B' H' : Hp} {a : Addr} {ds : List D} (h : LC K B H a ds) (s : Stp P B H B' H') (hP : a ∉ P) : LC K B' H' a ds := by
  obtain ⟨vs, h1, h2, h3⟩ := h
  exact ⟨vs, s.fr _ _ hP h1, by rw [s.nb _ _ h1]; exact h2, h3.mono s.ex⟩
theorem LC.oth {B H : Hp} {a b : Addr} {o : HO} {ds : List D} (h : LC K B H a ds) (n : a ≠ b) : LC K B (upd H b o) a ds := by
  obtain ⟨vs, h1, h2, h3⟩ := h
  exact ⟨vs, by rw [upd_ne n]; exact h1, h2, h3⟩
structure PObj (K : PySem.W.Frag) (B H : Hp) (p dx n sh rg wy : Addr) (CP C : Addr) (v0 : V) (T : List Tab) (M : PtM) : Prop where
  obj : H p = some (.ins CP dx [("_schema", v0), ("nodes", .ref n), ("shown", .ref sh), ("ranges", .ref rg), ("_way", .ref wy)])
  nop : B p = none
  sch : Rp K B v0 (schD C T)
  nl : LC K B H n (M.nodes.map nodeD)
  sl : LC K B H sh (M.shown.map shownD)
  rl : LC K B H rg (M.ranges.map rangeMD)
  wl : LC K B H wy (M.way.map wayD)
  d1 : n ≠ sh
  d2 : n ≠ rg
  d3 : n ≠ wy
  d4 : sh ≠ rg
  d5 : sh ≠ wy
  d6 : rg ≠ wy
section
variable {B H B' H' : Hp} {p dx n sh rg wy CP C : Addr} {v0 : V} {T : List Tab} {M : PtM} {P : List Addr}
theorem PObj.np (h : PObj K B H p dx n sh rg wy CP C v0 T M) : p ≠ n ∧ p ≠ sh ∧ p ≠ rg ∧ p ≠ wy := by
  have go : ∀ {a ds}, LC K B H a ds → p ≠ a := fun {a ds} l z => by
    obtain ⟨vs, h1, _⟩ := l
    rw [← z, h.obj] at h1; cases h1
  exact ⟨go h.nl, go h.sl, go h.rl, go h.wl⟩
theorem PObj.step (h : PObj K B H p dx n sh rg wy CP C v0 T M) (s : Stp P B H B' H') (hp : p ∉ P) (hn : n ∉ P) (hs : sh ∉ P) (hr : rg ∉ P) (hw : wy ∉ P) : PObj K B' H' p dx n sh rg wy CP C v0 T M where
  obj := s.fr _ _ hp h.obj
  nop := by rw [s.nb _ _ h.obj]; exact h.nop
  sch := h.sch.mono s.ex
  nl := h.nl.step s hn
  sl := h.sl.step s hs
  rl := h.rl.step s hr
  wl := h.wl.step s hw
  d1 := h.d1
  d2 := h.d2
  d3 := h.d3
  d4 := h.d4
  d5 := h.d5
  d6 := h.d6
theorem PObj.step0 (h : PObj K B H p dx n sh rg wy CP C v0 T M) (s : Stp [] B H B' H') : PObj K B' H' p dx n sh rg wy CP C v0 T M := h.step s (by simp) (by simp) (by simp) (by simp) (by simp)
/-- an expression that reads the parts -/
theorem PObj.read {ss : List Sl} {te : TE} {d : D} {σ : L2.St} {Q : VK} {i : Nat} (h : PObj K B H p dx n sh rg wy CP C v0 T M) (o : Okk K [] ss [] B H σ) (hi : ss[i]? = some (.val (.ref p))) (ev : Ev K [] (ss.set i (.dat (partsD CP C T M))) [] te (.dat d) []) (hd : nd d = true)
    (k : ∀ v B' H', Stp [] B H B' H' → Okk K [] ss [] B' H' σ → PObj K B' H' p dx n sh rg wy CP C v0 T M → Rp K B' v d → Q v H') : te σ H Q := by
  obtain ⟨v1, a1, b1, r1⟩ := id h.nl
  obtain ⟨v2, a2, b2, r2⟩ := id h.sl
  obtain ⟨v3, a3, b3, r3⟩ := id h.rl
  obtain ⟨v4, a4, b4, r4⟩ := id h.wl
  let L : Cells := [(p, .ins CP dx [("_schema", v0), ("nodes", .ref n), ("shown", .ref sh), ("ranges", .ref rg), ("_way", .ref wy)]), (n, .lst v1), (sh, .lst v2), (rg, .lst v3), (wy, .lst v4)]
  have hh : Held B H L := ⟨fun q hq => by
    simp only [L, List.mem_cons, List.not_mem_nil, or_false] at hq
    rcases hq with rfl | rfl | rfl | rfl | rfl
    · exact h.obj
    · exact a1
    · exact a2
    · exact a3
    · exact a4, fun q hq => by
    simp only [L, List.mem_cons, List.not_mem_nil, or_false] at hq
    rcases hq with rfl | rfl | rfl | rfl | rfl
    · exact h.nop
    · exact b1
    · exact b2
    · exact b3
    · exact b4⟩
  have hT : ∀ q ∈ L, notTup q.2 := fun q hq => by
    simp only [L, List.mem_cons, List.not_mem_nil, or_false] at hq
    rcases hq with rfl | rfl | rfl | rfl | rfl <;> exact ⟨fun _ z => (by cases z), fun _ _ z => by cases z⟩
  have e1 := RG.pub_ex hh.no
  have m : ∀ q ∈ L, RG.pub B L q.1 = some q.2 := fun q hq => RG.pub_mem hh hq
  have rs : Rp K (RG.pub B L) (.ref p) (partsD CP C T M) := .obj (m (p, .ins CP dx [("_schema", v0), ("nodes", .ref n), ("shown", .ref sh), ("ranges", .ref rg), ("_way", .ref wy)]) (by simp [L])) (.cons (h.sch.mono e1) (.cons (.lst (m (n, .lst v1) (by simp [L])) (r1.mono e1)) (.cons (.lst (m (sh, .lst v2) (by simp [L])) (r2.mono e1)) (.cons (.lst (m (rg, .lst v3) (by simp [L])) (r3.mono e1)) (.cons (.lst (m (wy, .lst v4) (by simp [L])) (r4.mono e1)) .nil)))))
  refine ev (RG.pub B L) H σ ⟨RG.pub_in o.ex hh, slots_dat (o.sl.mono e1) hi rs, True.intro⟩ Q fun v B2 H2 s2 o2 v2 => ?_
  obtain ⟨B3, _, st, o3, h3, _, z⟩   := RG.hide (P := []) (F := fun _ => True) (ss' := ss.set i (.dat (partsD CP C T M))) (by simp) hT (fun _ _ _ _ => True.intro) (by simp) o hh True.intro s2 o2
  exact k v B3 H2 st o3 (h.step0 st) (z v2 hd)
/-- a test that reads the parts -/
theorem PObj.readT {ss : List Sl} {tt : TT} {b : Bool} {σ : L2.St} {Q : Bool → Hp → Prop} {i : Nat} (h : PObj K B H p dx n sh rg wy CP C v0 T M) (o : Okk K [] ss [] B H σ) (hi : ss[i]? = some (.val (.ref p))) (ev : EvT K [] (ss.set i (.dat (partsD CP C T M))) [] tt b [])
    (k : ∀ B' H', Stp [] B H B' H' → Okk K [] ss [] B' H' σ → PObj K B' H' p dx n sh rg wy CP C v0 T M → Q b H') : tt σ H Q := by
  obtain ⟨v1, a1, b1, r1⟩ := id h.nl
  obtain ⟨v2, a2, b2, r2⟩ := id h.sl
  obtain ⟨v3, a3, b3, r3⟩ := id h.rl
  obtain ⟨v4, a4, b4, r4⟩ := id h.wl
  let L : Cells := [(p, .ins CP dx [("_schema", v0), ("nodes", .ref n), ("shown", .ref sh), ("ranges", .ref rg), ("_way", .ref wy)]), (n, .lst v1), (sh, .lst v2), (rg, .lst v3), (wy, .lst v4)]
  have hh : Held B H L := ⟨fun q hq => by
    simp only [L, List.mem_cons, List.not_mem_nil, or_false] at hq
    rcases hq with rfl | rfl | rfl | rfl | rfl
    · exact h.obj
    · exact a1
    · exact a2
    · exact a3
    · exact a4, fun q hq => by
    simp only [L, List.mem_cons, List.not_mem_nil, or_false] at hq
    rcases hq with rfl | rfl | rfl | rfl | rfl
    · exact h.nop
    · exact b1
    · exact b2
    · exact b3
    · exact b4⟩
  have hT : ∀ q ∈ L, notTup q.2 := fun q hq => by
    simp only [L, List.mem_cons, List.not_mem_nil, or_false] at hq
    rcases hq with rfl | rfl | rfl | rfl | rfl <;> exact ⟨fun _ z => (by cases z), fun _ _ z => by cases z⟩
  have e1 := RG.pub_ex hh.no
  have m : ∀ q ∈ L, RG.pub B L q.1 = some q.2 := fun q hq => RG.pub_mem hh hq
  have rs : Rp K (RG.pub B L) (.ref p) (partsD CP C T M) := .obj (m (p, .ins CP dx [("_schema", v0), ("nodes", .ref n), ("shown", .ref sh), ("ranges", .ref rg), ("_way", .ref wy)]) (by simp [L])) (.cons (h.sch.mono e1) (.cons (.lst (m (n, .lst v1) (by simp [L])) (r1.mono e1)) (.cons (.lst (m (sh, .lst v2) (by simp [L])) (r2.mono e1)) (.cons (.lst (m (rg, .lst v3) (by simp [L])) (r3.mono e1)) (.cons (.lst (m (wy, .lst v4) (by simp [L])) (r4.mono e1)) .nil)))))
  refine ev (RG.pub B L) H σ ⟨RG.pub_in o.ex hh, slots_dat (o.sl.mono e1) hi rs, True.intro⟩ Q fun B2 H2 s2 o2 => ?_
  obtain ⟨B3, _, st, o3, h3, _, _⟩   := RG.hide (P := []) (F := fun _ => True) (ss' := ss.set i (.dat (partsD CP C T M))) (by simp) hT (fun _ _ _ _ => True.intro) (by simp) o hh True.intro s2 o2
  exact k B3 H2 st o3 (h.step0 st)
end
/-! the model of reading -/
def kindOf (w : Str) : Option (Nat × Nat) := if w = "shown" then some (0, 2) else if w = "range" then some (1, 4) else if w = "follow" then some (2, 2) else none
def namesAt (cols : List Col) (w : Str) : List Str := (cols.filter fun c => decide (c.2.isSome = decide (w = "follow"))).map (·.1)
def colsOf (T : List Tab) (M : PtM) (node : Nat) : List Col := (T.lookup ((M.nodes.getD node (none, Str.empty)).2)).getD []
def rankF (T : List Tab) (M : PtM) (node : Nat) (words : List Str) : Option (Nat × Nat) := match words with
  | w0 :: w1 :: rest => match kindOf w0 with
    | some (k, z) => if rest.length + 2 = z then (firstAt w1 (namesAt (colsOf T M node) w0)).map fun j => (k, 1 + j) else none
    | none => none
  | _ => none
def addF (par : Option (Nat × Str)) (t : Str) (M : PtM) : PtM := { M with nodes := M.nodes ++ [(par, t)], way := M.way ++ [(M.nodes.length, 0, 0)] }
def readEndF (w : Str) : Option Int := readIntF w (-1000) 1000
def wordsF (T : List Tab) (node : Nat) (words : List Str) (M : PtM) : Option PtM := match words with
  | w0 :: w1 :: rest =>
    if w0 = "shown" then some { M with shown := M.shown ++ [(node, w1)] }
    else if w0 = "range" then (match rest with
      | [a, b] => if M.ranges.length < 4 ∧ isEndF a = true ∧ isEndF b = true then some { M with ranges := M.ranges ++ [(node, w1, readEndF a, readEndF b)] } else none
      | _ => none)
    else (if M.nodes.length < 4 then (match (colsOf T M node).lookup w1 with
      | some (some t) => some (addF (some (node, w1)) t M)
      | _ => none) else none)
  | _ => none
def ltRank (a b : Nat × Nat) : Bool := decide (a.1 < b.1) || (decide (a.1 = b.1) && decide (a.2 < b.2))
def partF (T : List Tab) (level : Nat) (words : List Str) (M : PtM) : Option PtM := match M.way[level]? with
  | none => none
  | some (node, last) => match rankF T M node words with
    | none => none
    | some rank => if ltRank last rank = true then (wordsF T node words M).map fun M' => { M' with way := M'.way.take level ++ [(node, rank)] ++ (if words.head? = some "follow" then M'.way.drop (M'.way.length - 1) else []) } else none
def takesF (T : List Tab) (number : Nat) (row : Str) (M : PtM) : Option PtM :=
  if number = 0 then (match Txt.split row " " with
    | [a, b] => if a = "view" ∧ b ∈ T.map (·.1) then some (addF none b M) else none
    | _ => none)
  else
    let indent := row.length - (Txt.lstripChars row " ").length
    if indent % 2 = 0 ∧ 2 ≤ indent ∧ indent / 2 - 1 < M.way.length then partF T (indent / 2 - 1) ((Txt.split row " ").drop indent) M else none
def readParts (T : List Tab) : Nat → List Str → PtM → Option PtM
  | _, [], M => some M
  | i, r :: rs, M => (takesF T i r M).bind (readParts T (i + 1) rs)
end SP
/-! DSP: dict displays. -/
namespace SP
open PySem L2 DV PM
variable {K : PySem.W.Frag} {P : List Addr} {ss : List Sl} {cs : List (List D)}
inductive PEv (K : PySem.W.Frag) (P : List Addr) (ss : List Sl) (cs : List (List D)) : List (TE × TE) → List (Key × D) → Prop
  | nil : PEv K P ss cs [] []
  | cons {tk tv : TE} {dk d : D} {k : Key} {trs : List (TE × TE)} {kds : List (Key × D)} : Ev K P ss cs tk (.dat dk) cs → KeyD dk k → Ev K P ss cs tv (.dat d) cs → PEv K P ss cs trs kds → PEv K P ss cs ((tk, tv) :: trs) ((k, d) :: kds)
theorem PEv.go {trs : List (TE × TE)} {kds : List (Key × D)} (h : PEv K P ss cs trs kds) : ∀ B H σ, Okk K P ss cs B H σ → ∀ Q : List (V × V) → Hp → Prop, (∀ kvs B' H', Stp P B H B' H' → Okk K P ss cs B' H' σ → RpK K B' kvs kds → Q (kvs.map fun kv => (kV kv.1, kv.2)) H') → tPairs trs σ H Q := by
  induction h with
  | nil => intro B H σ o Q q; exact q [] B H (Stp.refl _ _ _) o .nil
  | cons hk hd hv _ ih =>
    intro B H σ o Q q
    refine hk B H σ o _ fun u B1 H1 s1 o1 r1 => ?_
    have e := hd.val (show Rp K B1 u _ from r1)
    subst e
    refine hv B1 H1 σ o1 _ fun v B2 H2 s2 o2 r2 => ?_
    refine ih B2 H2 σ o2 _ fun kvs B3 H3 s3 o3 r3 => ?_
    exact q ((_, v) :: kvs) B3 H3 ((s1.trans s2).trans s3) o3 (.cons (Rp.mono s3.ex r2) r3)
theorem mergeK_new : ∀ {kvs acc : List (Key × V)}, ((acc ++ kvs).map (·.1)).Nodup → mergeK acc kvs = acc ++ kvs
  | [], acc, _ => by rw [List.append_nil]; rfl
  | kv :: r, acc, h => by
    have hn : (acc.any fun p => decide (p.1 = kv.1)) = false := by
      cases z : acc.any fun p => decide (p.1 = kv.1) with
      | false => rfl
      | true =>
        obtain ⟨p, hp, e⟩ := List.any_eq_true.mp z
        rw [List.map_append] at h
        exact absurd (of_decide_eq_true e) ((List.nodup_append.mp h).2.2 _ (List.mem_map.mpr ⟨p, hp, rfl⟩) _ (by simp))
    have hp : putK acc kv.1 kv.2 = acc ++ [kv] := by
      unfold putK
      rw [hn, if_neg Bool.false_ne_true]
    show mergeK (putK acc kv.1 kv.2) r = _
    rw [hp, mergeK_new (by simpa using h), List.append_assoc]
    rfl
theorem RpK.keysE {B : Hp} : ∀ {vs : List (Key × V)} {ds : List (Key × D)}, RpK K B vs ds → vs.map (·.1) = ds.map (·.1)
  | _, _, .nil => rfl
  | _, _, .cons _ r => by rw [List.map_cons, List.map_cons, RpK.keysE r]
theorem ev_disp {trs : List (TE × TE)} {kds : List (Key × D)} (h : PEv K P ss cs trs kds) (nd : (kds.map (·.1)).Nodup) (hl : kds.length ≤ 15) : Ev K P ss cs (tDisp trs) (.dat (.dic kds)) cs := fun B H σ o Q q => fun p hp => by
  have hpB := o.ex.free hp
  have hpP : p ∉ P := fun z => by
    obtain ⟨u, h1, _⟩ := o.mu.mem z
    rw [hp] at h1; cases h1
  have s1 : Stp [] B H B (upd H p (.dK [])) := stp_upd (Stp.refl _ _ _) hp
  have o1 := o.step0 s1 (ex_upd o.ex hpB)
  refine h.go B _ σ o1 _ fun kvs B2 H2 s2 o2 r2 => ?_
  have hp2 : H2 p = some (.dK []) := s2.fr _ _ hpP upd_same
  have hb2 : B2 p = none := by rw [s2.nb _ _ upd_same]; exact hpB
  refine ⟨hp2, kvs, rfl, by rw [RpK.lenE r2]; exact hl, ?_⟩
  rw [mergeK_new (acc := []) (by rw [List.nil_append, RpK.keysE r2]; exact nd), List.nil_append]
  have eB : Ex B2 (upd B2 p (.dK kvs)) := Ex.new hb2
  have sA : Stp P B H B2 H2 := s1.ofNil.trans s2
  have far : ∀ {b u}, H b = some u → b ≠ p := fun h z => by rw [z, hp] at h; cases h
  refine q (.ref p) (upd B2 p (.dK kvs)) _ ⟨sA.ex.trans eB, fun b u n z => ?_, fun b u z => ?_, fun b u z => ?_⟩ ⟨o2.ex.updB, o2.sl.mono eB, o2.mu.keep eB (fun x hx => ?_) fun x hx => ?_⟩ (.dic upd_same (RpK.mono eB r2))
  · rw [upd_ne (far z)]; exact sA.fr b u n z
  · rw [upd_ne (far z)]; exact sA.nb b u z
  · rw [upd_ne (far z)]; exact sA.dm b u z
  · rw [upd_ne fun (z : x = p) => hpP (by rw [← z]; exact hx)]
  · rw [upd_ne fun (z : x = p) => hpP (by rw [← z]; exact hx)]; exact (o2.mu.mem hx).choose_spec.2
end SP
/-! V3: the methods of the parts. -/
namespace SP
open PySem L2 DV PM RG
variable {K : PySem.W.Frag}
theorem roomU {k : Nat} {A : Around} (hr : Room k A) : A.units < cLine := by have := hr.units; omega
theorem lkN {α : Type} {a b c d e : α} : List.lookup ("nodes" : Str) [(("_schema" : Str), a), ("nodes", b), ("shown", c), ("ranges", d), ("_way", e)] = some b := by
  simp only [List.lookup, show (("nodes" : Str) == "_schema") = false by decide +kernel, show (("nodes" : Str) == "nodes") = true by decide +kernel]
theorem lkS {α : Type} {a b c d e : α} : List.lookup ("shown" : Str) [(("_schema" : Str), a), ("nodes", b), ("shown", c), ("ranges", d), ("_way", e)] = some c := by
  simp only [List.lookup, show (("shown" : Str) == "_schema") = false by decide +kernel, show (("shown" : Str) == "nodes") = false by decide +kernel, show (("shown" : Str) == "shown") = true by decide +kernel]
theorem lkR {α : Type} {a b c d e : α} : List.lookup ("ranges" : Str) [(("_schema" : Str), a), ("nodes", b), ("shown", c), ("ranges", d), ("_way", e)] = some d := by
  simp only [List.lookup, show (("ranges" : Str) == "_schema") = false by decide +kernel, show (("ranges" : Str) == "nodes") = false by decide +kernel, show (("ranges" : Str) == "shown") = false by decide +kernel, show (("ranges" : Str) == "ranges") = true by decide +kernel]
theorem lkW {α : Type} {a b c d e : α} : List.lookup ("_way" : Str) [(("_schema" : Str), a), ("nodes", b), ("shown", c), ("ranges", d), ("_way", e)] = some e := by
  simp only [List.lookup, show (("_way" : Str) == "_schema") = false by decide +kernel, show (("_way" : Str) == "nodes") = false by decide +kernel, show (("_way" : Str) == "shown") = false by decide +kernel, show (("_way" : Str) == "ranges") = false by decide +kernel, show (("_way" : Str) == "_way") = true by decide +kernel]
theorem putF_new {f : Str} {v : V} : ∀ {fs : List (Str × V)}, f ∉ fs.map (·.1) → putF f v fs = fs ++ [(f, v)]
  | [], _ => rfl
  | (g, w) :: r, h => by
    rw [List.map_cons, List.mem_cons, not_or] at h
    have e : ¬ g = f := fun z => h.1 z.symm
    show (if g = f then (g, v) :: r else (g, w) :: putF f v r) = _
    rw [if_neg e, putF_new h.2]
    rfl
theorem tnil_go {σ : L2.St} {H : Hp} {R : List V → Hp → Prop} (h : R [] H) : tNil σ H R := h
/-- the fields that the parts have -/
structure PartsCls (K : PySem.W.Frag) (CP : Addr) : Prop where
  cl : Cls K CP
  n1 : NoAttr K CP "_schema"
  n2 : NoAttr K CP "nodes"
  n3 : NoAttr K CP "shown"
  n4 : NoAttr K CP "ranges"
  n5 : NoAttr K CP "_way"
def tabAt (M : PtM) (node : Nat) : Str := (M.nodes.getD node (none, Str.empty)).2
def preColsAt (CP C : Addr) : Pre := fun rs Pl cs r cs' => ∃ T M node cols, rs = [.dat (partsD CP C T M), .dat (.int (node : Nat))] ∧ node < M.nodes.length ∧ T.lookup (tabAt M node) = some cols ∧ Pl = [] ∧ cs = [] ∧ r = .dat (.tup (cols.map encC)) ∧ cs' = []
def preRank (CP C : Addr) : Pre := fun rs Pl cs r cs' => ∃ T M node cols w0 w1 rest k z j, rs = [.dat (partsD CP C T M), .dat (.int (node : Nat)), .dat (.lst ((w0 :: w1 :: rest).map D.str))] ∧ node < M.nodes.length ∧ T.lookup (tabAt M node) = some cols ∧ cols.length ≤ 1000 ∧ kindOf w0 = some (k, z) ∧ rest.length + 2 = z ∧ firstAt w1 (namesAt cols w0) = some j ∧ Pl = [] ∧ cs = [] ∧ r = .dat (rankD (k, 1 + j)) ∧ cs' = []
theorem lookP {m : Str} {a b c d e : D} (h1 : (m == ("_schema" : Str)) = false) (h2 : (m == ("nodes" : Str)) = false) (h3 : (m == ("shown" : Str)) = false) (h4 : (m == ("ranges" : Str)) = false) (h5 : (m == ("_way" : Str)) = false) : List.lookup m [(("_schema" : Str), a), ("nodes", b), ("shown", c), ("ranges", d), ("_way", e)] = none := by
  simp only [List.lookup, h1, h2, h3, h4, h5]
theorem lookPV {m : Str} {a b c d e : V} (h1 : (m == ("_schema" : Str)) = false) (h2 : (m == ("nodes" : Str)) = false) (h3 : (m == ("shown" : Str)) = false) (h4 : (m == ("ranges" : Str)) = false) (h5 : (m == ("_way" : Str)) = false) : List.lookup m [(("_schema" : Str), a), ("nodes", b), ("shown", c), ("ranges", d), ("_way", e)] = none := by
  simp only [List.lookup, h1, h2, h3, h4, h5]
def spAddN (K : PySem.W.Frag) (CP C : Addr) : Sp := fun vs H Q _ => ∃ B p dx n sh rg wy v0 T M par t va vb, vs = [.ref p, va, vb, .str t] ∧ Ex B H ∧ PObj K B H p dx n sh rg wy CP C v0 T M ∧ M.nodes.length ≤ 1000 ∧ M.way.length ≤ 1000 ∧ (match (par : Option (Nat × Str)) with
    | none => va = .non ∧ vb = .non
    | some (k, r) => va = .int (k : Nat) ∧ vb = .str r) ∧
  ∀ B' H', Stp [n, wy] B H B' H' → Ex B' H' → PObj K B' H' p dx n sh rg wy CP C v0 T (addF par t M) → Q .non H'
def spPInit (K : PySem.W.Frag) (CP C : Addr) : Sp := fun vs H Q _ => ∃ p dx T v0 B0 H0, vs = [.ref p, v0] ∧ H = upd (upd H0 dx (.own p)) p (.ins CP dx []) ∧ H0 p = none ∧ H0 dx = none ∧ dx ≠ p ∧ Ex B0 H0 ∧ Rp K B0 v0 (schD C T) ∧
  ∀ n sh rg wy B' H', Stp [] B0 H0 B' H' → Ex B' H' → PObj K B' H' p dx n sh rg wy CP C v0 T PtM0 → H0 n = none → H0 sh = none → H0 rg = none → H0 wy = none → Q .non H'
/-- xs.append(d) of a field's list -/
theorem app_cell {B H : Hp} {a : Addr} {ds : List D} {v : V} {d : D} {Q : VK} (l : LC K B H a ds) (e : Ex B H) (hz : ds.length ≤ 1000000) (r : Rp K B v d) (k : ∀ H', Stp [a] B H B H' → Ex B H' → LC K B H' a (ds ++ [d]) → (∀ b, b ≠ a → H' b = H b) → Q .non H') : rAppend (.ref a) [v] H Q := by
  obtain ⟨vs, h1, h2, h3⟩ := l
  refine ⟨a, vs, v, rfl, rfl, h1, lt_line (by rw [h3.length]; exact hz), ?_⟩
  exact k _ (stp_write h1) (ex_upd e h2) ⟨_, upd_same, h2, h3.append (.cons r .nil)⟩ fun b hb => upd_ne hb
theorem LC.ty {B H : Hp} {a : Addr} {ds : List D} (l : LC K B H a ds) : tyV K "list" (.ref a) H := by
  obtain ⟨vs, h1, _⟩ := l
  exact .inl ⟨rfl, vs, .inl (.inl h1)⟩
theorem LC.same {B H H' : Hp} {a : Addr} {ds : List D} (l : LC K B H a ds) (h : H' a = H a) : LC K B H' a ds := by
  obtain ⟨vs, h1, h2, h3⟩ := l
  exact ⟨vs, by rw [h]; exact h1, h2, h3⟩
section
variable {P : List Addr} {ss : List Sl} {cs : List (List D)} {CP C : Addr} {T : List Tab} {M : PtM} {i j : Nat}
theorem ev_pnodes (c : PartsCls K CP) (hi : ss[i]? = some (.dat (partsD CP C T M))) : Ev K P ss cs (tFld K (tVar i) "nodes") (.dat (.lst (M.nodes.map nodeD))) cs := ev_fld (ev_var hi) c.cl c.n2 lkN
theorem ev_pranges (c : PartsCls K CP) (hi : ss[i]? = some (.dat (partsD CP C T M))) : Ev K P ss cs (tFld K (tVar i) "ranges") (.dat (.lst (M.ranges.map rangeMD))) cs := ev_fld (ev_var hi) c.cl c.n4 lkR
theorem ev_pway (c : PartsCls K CP) (hi : ss[i]? = some (.dat (partsD CP C T M))) : Ev K P ss cs (tFld K (tVar i) "_way") (.dat (.lst (M.way.map wayD))) cs := ev_fld (ev_var hi) c.cl c.n5 lkW
theorem ev_psch (c : PartsCls K CP) (hi : ss[i]? = some (.dat (partsD CP C T M))) : Ev K P ss cs (tFld K (tVar i) "_schema") (.dat (schD C T)) cs := ev_fld (ev_var hi) c.cl c.n1 rfl
theorem node_third (q : NodeM) : ∃ a b, nodeD q = .tup [a, b, .str q.2] := by
  obtain ⟨o, t⟩ := q
  cases o with
  | none => exact ⟨_, _, rfl⟩
  | some o => exact ⟨_, _, rfl⟩
theorem ev_ptab (c : PartsCls K CP) (hi : ss[i]? = some (.dat (partsD CP C T M))) {node : Nat} (hj : ss[j]? = some (.dat (.int (node : Nat)))) (hn : node < M.nodes.length) : Ev K P ss cs (tOp (rIx K) (tOp (rIx K) (tFld K (tVar i) "nodes") (tVar j)) (tC (.int 2))) (.dat (.str (tabAt M node))) cs := by
  obtain ⟨a, b, e⟩ := node_third M.nodes[node]
  refine ev_op (ev_op (ev_pnodes c hi) (ev_var hj) (od_ixL (d := nodeD M.nodes[node]) (atI_nat (by rw [List.getElem?_map, List.getElem?_eq_getElem hn]; rfl)))) (ev_int (i := 2)) ?_
  rw [e]
  refine od_ixT ?_
  have : tabAt M node = M.nodes[node].2 := by unfold tabAt; rw [List.getD_eq_getElem?_getD, List.getElem?_eq_getElem hn]; rfl
  rw [this]
  exact atI_nat (j := 2) rfl
end
end SP
namespace T3
open PySem L2 DV PM SP
abbrev s_Parts_init_ : Stmt := inClass (topS 15) 0
abbrev N_Parts_init_ : List Str := ["self", "schema"]
theorem sc_Parts_init_ : FnScope N_Parts_init_ ["self", "schema"] (defScope s_Parts_init_) := ⟨rfl, rfl, rfl, by decide +kernel, rfl, by decide +kernel, by decide +kernel⟩

abbrev s_Parts_columns_at : Stmt := inClass (topS 15) 6
abbrev N_Parts_columns_at : List Str := ["self", "node"]
theorem sc_Parts_columns_at : FnScope N_Parts_columns_at ["self", "node"] (defScope s_Parts_columns_at) := ⟨rfl, rfl, rfl, by decide +kernel, rfl, by decide +kernel, by decide +kernel⟩

abbrev s_Parts_rank : Stmt := inClass (topS 15) 5
abbrev N_Parts_rank : List Str := ["self", "node", "words", "sizes", "names", "name", "target"]
theorem sc_Parts_rank : FnScope N_Parts_rank ["self", "node", "words"] (defScope s_Parts_rank) := ⟨rfl, rfl, rfl, by decide +kernel, rfl, by decide +kernel, by decide +kernel⟩

abbrev s_Parts_add_node : Stmt := inClass (topS 15) 3
abbrev N_Parts_add_node : List Str := ["self", "parent", "reference", "table"]
theorem sc_Parts_add_node : FnScope N_Parts_add_node ["self", "parent", "reference", "table"] (defScope s_Parts_add_node) := ⟨rfl, rfl, rfl, by decide +kernel, rfl, by decide +kernel, by decide +kernel⟩

section
variable {P : Program} {w : World} {K : PySem.W.Frag} {mg : Str → Option Value} {base : Heap} {C CP : Addr}
theorem ok_pcols {f fC : Addr} {fd fdC : FuncData} (F : Fun K "_columns_at" "Parts._columns_at" s_Parts_columns_at f fd) (cP : PartsCls K CP) (cls_S : Cls K C) (M_columns : Meth K C "columns" fC) (G_columns : FnOk P w K mg base CX0 1 fC fdC ["self", "table"] (spM K (preCols C))) (B_columns : Binds K fdC ["self", "table"] []) : FnOk P w K mg base CX0 2 f fd ["self", "node"] (spM K (preColsAt CP C)) := by
  refine ok_body F sc_Parts_columns_at (fun rs Pl cs r cs' h => ?_) (fun X hX hr => ?_)
  · obtain ⟨T, M, node, cols, rfl, _⟩ := h
    rfl
  obtain ⟨cdv, A, outer, s, H, E, rfl⟩ := hX
  have nd := sc_Parts_columns_at.nd
  refine ⟨_, (pss_one (ps_ret (pe_meth (pe_fld (pv 0) rfl) cls_S M_columns G_columns (hr.mono (by decide)) B_columns .nil pass0 (pa_cons (pe_ix ix_seq (pe_ix ix_seq (pe_fld (pv 0) rfl) (pv 1) (fun _ _ => rfl)) pe_int (fun _ _ => rfl)) pa_nil)))), ?_⟩
  intro rs Pl cs r cs' hp B0 H0 σ Dn st hPl hd hn
  obtain ⟨T, M, node, cols, rfl, hnd, hT, rfl, rfl, rfl, rfl⟩ := hp
  exact st_ret st (ev_meth1 (ev_psch cP (i := 0) rfl) (lookS (by decide +kernel) (by decide +kernel) (by decide +kernel)) (ea_cons (ev_ptab cP (i := 0) (j := 1) rfl rfl hnd) ea_nil) ⟨T, _, cols, rfl, hT, rfl, rfl, rfl, rfl⟩) hd
theorem ok_padd {f : Addr} {fd : FuncData} (F : Fun K "_add_node" "Parts._add_node" s_Parts_add_node f fd) (cP : PartsCls K CP) (b_len : mg "len" = none) : FnOk P w K mg base CX0 1 f fd ["self", "parent", "reference", "table"] (spAddN K CP C) := by
  refine F.ok sc_Parts_add_node (fun vs H Q E h => ?_) (fun cdv A outer s H vs Q E hr h => ?_)
  · obtain ⟨B, p, dx, n, sh, rg, wy, v0, T, M, par, t, va, vb, rfl, _⟩ := h
    rfl
  have nd := sc_Parts_add_node.nd
  refine ⟨_, (pss_cons (ps_expr (pe_bm PySem.F.plainAttrs_list PySem.F.slot_list_append PySem.F.type_list_append mt_append (pe_fld (pv 0) rfl) (pa_cons (pe_tup (pa_cons (pv 1) (pa_cons (pv 2) (pa_cons (pv 3) pa_nil)))) pa_nil)))
      (pss_one (ps_expr (pe_bm PySem.F.plainAttrs_list PySem.F.slot_list_append PySem.F.type_list_append mt_append (pe_fld (pv 0) rfl) (pa_cons (pe_tup (pa_cons (pe_op op_sub (pe_callB call_len1 (by rfl) b_len PySem.boot_len (pa_cons (pe_fld (pv 0) rfl) pa_nil)) pe_int) (pa_cons (pe_tup (pa_cons pe_int (pa_cons pe_int pa_nil))) pa_nil))) pa_nil))))), ?_⟩
  obtain ⟨B, p, dx, n, sh, rg, wy, v0, T, M, par, t, va, vb, rfl, e0, po, hl1, hl2, hpar, q⟩ := h
  have h0 : (L2.start N_Parts_add_node [V.ref p, va, vb, .str t])[0]? = some (some (.ref p)) := rfl
  have h1 : (L2.start N_Parts_add_node [V.ref p, va, vb, .str t])[1]? = some (some va) := rfl
  have h2 : (L2.start N_Parts_add_node [V.ref p, va, vb, .str t])[2]? = some (some vb) := rfl
  have h3 : (L2.start N_Parts_add_node [V.ref p, va, vb, .str t])[3]? = some (some (.str t)) := rfl
  have hlen : (L2.start N_Parts_add_node [V.ref p, va, vb, .str t]).length = 4 := rfl
  generalize L2.start N_Parts_add_node [V.ref p, va, vb, .str t] = σ at h0 h1 h2 h3 hlen ⊢
  -- self.nodes.append(..)
  refine st_seq ⟨.ref p, h0, p, CP, dx, _, .ref n, rfl, po.obj, cP.cl, cP.n2, lkN, po.nl.ty, va, h1, vb, h2, .str t, h3, le_line (by simp), fun tp htp => ?_⟩
  have rp : ∀ {B' : Hp}, B' tp = some (.tup [va, vb, .str t]) → Rp K B' (.ref tp) (nodeD (par, t)) := fun {B'} hb => by
    cases par with
    | none =>
      obtain ⟨rfl, rfl⟩ := hpar
      exact .tup (.inl hb) (.cons .non (.cons .non (.cons (.str _) .nil)))
    | some kr =>
      obtain ⟨k, r⟩ := kr
      obtain ⟨rfl, rfl⟩ := hpar
      exact .tup (.inl hb) (.cons (.int _) (.cons (.str _) (.cons (.str _) .nil)))
  have s1 := stp_new (o := .tup [va, vb, .str t]) e0 htp
  have e1 : Ex (upd B tp (.tup [va, vb, .str t])) (upd H tp (.tup [va, vb, .str t])) := e0.updB
  have r1 := rp (B' := upd B tp (.tup [va, vb, .str t])) upd_same
  have po1 := po.step0 s1
  generalize upd B tp (.tup [va, vb, .str t]) = B1 at s1 e1 r1 po1
  generalize upd H tp (.tup [va, vb, .str t]) = H1 at s1 e1 po1 ⊢
  try dsimp only []
  refine tnil_go ?_
  refine app_cell po1.nl e1 (by rw [List.length_map]; omega) r1 fun H2 s2 e2 l2 far => ?_
  obtain ⟨np1, np2, np3, np4⟩ := po1.np
  have po2 : PObj K B1 H2 p dx n sh rg wy CP C v0 T { M with nodes := M.nodes ++ [(par, t)] } := { obj := by rw [far _ np1]; exact po1.obj, nop := po1.nop, sch := po1.sch, nl := by rw [List.map_append]; exact l2, sl := po1.sl.same (far _ (Ne.symm po1.d1)), rl := po1.rl.same (far _ (Ne.symm po1.d2)), wl := po1.wl.same (far _ (Ne.symm po1.d3)), d1 := po1.d1, d2 := po1.d2, d3 := po1.d3, d4 := po1.d4, d5 := po1.d5, d6 := po1.d6 }
  try dsimp only []
  -- self._way.append(..)
  refine ⟨.ref p, h0, p, CP, dx, _, .ref wy, rfl, po2.obj, cP.cl, cP.n5, lkW, po2.wl.ty, ?_⟩
  have o2 : Okk K [] [.val (.ref p), .any, .any, .any] [] B1 H2 σ := ⟨e2, ⟨hlen, fun i r hi hn => by
    match i, hi with
    | 0, hi => cases hi; exact ⟨_, h0, rfl⟩
    | 1, hi => cases hi; exact absurd rfl hn
    | 2, hi => cases hi; exact absurd rfl hn
    | 3, hi => cases hi; exact absurd rfl hn⟩, True.intro⟩
  refine po2.read (i := 0) (te := tTup (tCons (tOp (rI0 fun i j => .int (i - j)) (tCB (rLen1 K) (tCons (tFld K (tVar 0) "nodes") tNil)) (tC (.int 1))) (tCons (tTup (tCons (tC (.int 0)) (tCons (tC (.int 0)) tNil))) tNil))) (d := wayD (M.nodes.length, 0, 0)) o2 rfl ?_ rfl fun v B3 H3 s3 o3 po3 r3 => ?_
  · refine Ev.eq (ev_tup (ds := [.int ((M.nodes ++ [(par, t)]).length - 1 : Int), .tup [.int 0, .int 0]]) (ea_cons (ev_op (Ev.eq (ev_cb (ea_cons (ev_pnodes cP rfl) ea_nil) cb_lenL) (by rw [List.length_map])) ev_int od_subI) (ea_cons (ev_tup (ds := [.int 0, .int 0]) (ea_cons ev_int (ea_cons ev_int ea_nil)) (by decide)) ea_nil)) (by simp)) ?_
    rw [List.length_append, List.length_singleton]
    have : ((M.nodes.length + 1 : Nat) : Int) - 1 = (M.nodes.length : Int) := by omega
    rw [this]
    rfl
  try dsimp only []
  refine tnil_go ?_
  refine app_cell po3.wl o3.ex (by rw [List.length_map]; show M.way.length ≤ 1000000; omega) r3 fun H4 s4 e4 l4 far4 => ?_
  obtain ⟨np1, np2, np3, np4⟩ := po3.np
  refine q B3 H4 (((s1.mono (by simp)).trans (s2.mono (by simp))).trans ((s3.mono (by simp)).trans (s4.mono (by simp)))) e4 { obj := by rw [far4 _ np4]; exact po3.obj, nop := po3.nop, sch := po3.sch, nl := po3.nl.same (far4 _ po3.d3), sl := po3.sl.same (far4 _ po3.d5), rl := po3.rl.same (far4 _ po3.d6), wl := (show LC K B3 H4 wy ((M.way ++ [(M.nodes.length, 0, 0)]).map wayD) by rw [List.map_append]; exact l4), d1 := po3.d1, d2 := po3.d2, d3 := po3.d3, d4 := po3.d4, d5 := po3.d5, d6 := po3.d6 }
theorem ok_pinit {f : Addr} {fd : FuncData} (F : Fun K "__init__" "Parts.__init__" s_Parts_init_ f fd) (cP : PartsCls K CP) : FnOk P w K mg base CX0 1 f fd ["self", "schema"] (spPInit K CP C) := by
  refine F.ok sc_Parts_init_ (fun vs H Q E h => ?_) (fun cdv A outer s H vs Q E hr h => ?_)
  · obtain ⟨p, dx, T, v0, B0, H0, rfl, _⟩ := h
    rfl
  have nd := sc_Parts_init_.nd
  refine ⟨_, (pss_cons (ps_fld (pv 0) (pv 1) rfl)
      (pss_cons (ps_fld (pv 0) (pe_lst pa_nil) rfl)
      (pss_cons (ps_fld (pv 0) (pe_lst pa_nil) rfl)
      (pss_cons (ps_fld (pv 0) (pe_lst pa_nil) rfl)
      (pss_one (ps_fld (pv 0) (pe_lst pa_nil) rfl)))))), ?_⟩
  obtain ⟨p, dx, T, v0, B0, H0, rfl, rfl, hp0, hd0, hne, e0, r0, q⟩ := h
  have bp0 : B0 p = none := e0.free hp0
  have bd0 : B0 dx = none := e0.free hd0
  have s0 : Stp [] B0 H0 B0 (upd (upd H0 dx (.own p)) p (.ins CP dx [])) := stp_upd (stp_upd (Stp.refl _ _ _) hd0) hp0
  have e1 : Ex B0 (upd (upd H0 dx (.own p)) p (.ins CP dx [])) := ex_upd (ex_upd e0 bd0) bp0
  have hp : upd (upd H0 dx (.own p)) p (.ins CP dx []) p = some (.ins CP dx []) := upd_same
  have h0 : (L2.start N_Parts_init_ [V.ref p, v0])[0]? = some (some (.ref p)) := rfl
  have h1 : (L2.start N_Parts_init_ [V.ref p, v0])[1]? = some (some v0) := rfl
  generalize L2.start N_Parts_init_ [V.ref p, v0] = σ at h0 h1 ⊢
  generalize upd (upd H0 dx (.own p)) p (.ins CP dx []) = H1 at s0 e1 hp ⊢
  have f1 : putF "_schema" v0 [] = ([("_schema", v0)] : List (Str × V)) := rfl
  -- self._schema
  refine st_seq ⟨v0, h1, .ref p, h0, p, CP, dx, [], rfl, hp, cP.cl, cP.n1, by decide, ?_⟩
  rw [f1]
  have hp1 : upd H1 p (.ins CP dx [("_schema", v0)]) p = some (.ins CP dx [("_schema", v0)]) := upd_same
  have s1 : Stp [] B0 H0 B0 (upd H1 p (.ins CP dx [("_schema", v0)])) := stp_upd s0 hp0
  have e2 : Ex B0 (upd H1 p (.ins CP dx [("_schema", v0)])) := ex_upd e1 bp0
  generalize upd H1 p (.ins CP dx [("_schema", v0)]) = H2 at hp1 s1 e2
  dsimp only []
  -- a new list, and the field
  have one : ∀ {H : Hp} {fs : List (Str × V)} {m : Str} {De : Ends}, Stp [] B0 H0 B0 H → Ex B0 H → H p = some (.ins CP dx fs) → NoAttr K CP m → fs.length < 1000 → m ∉ fs.map (·.1) →
      (∀ a H', H a = none → Stp [] B0 H0 B0 H' → Ex B0 H' → H' p = some (.ins CP dx (fs ++ [(m, .ref a)])) → H' a = some (.lst []) → (∀ b, b ≠ a → b ≠ p → H' b = H b) → De.nx σ H') → sFld K (tVar 0) (tLst tNil) m De σ H := fun {H fs m De} s e hH nm hl hm k => by
    refine ⟨Nat.zero_le _, fun a ha => ⟨.ref p, h0, p, CP, dx, fs, rfl, ?_, cP.cl, nm, hl, ?_⟩⟩
    · rw [upd_ne fun z => by rw [← z, hH] at ha; cases ha]; exact hH
    · have hap : a ≠ p := fun z => by rw [z, hH] at ha; cases ha
      have ha0 : H0 a = none := free0 s ha
      rw [putF_new hm]
      refine k a _ ha (stp_upd (stp_upd s ha0) hp0) (ex_upd (ex_upd e (e.free ha)) bp0) upd_same (by rw [upd_ne hap, upd_same]) fun b h1 h2 => by rw [upd_ne h2, upd_ne h1]
  refine st_seq (one s1 e2 hp1 cP.n2 (by simp) (by decide +kernel : ("nodes" : Str) ∉ (["_schema"] : List Str)) fun n H3 hn s3 e3 hp3 hn3 far3 => ?_)
  refine st_seq (one s3 e3 hp3 cP.n3 (by simp) (by decide +kernel : ("shown" : Str) ∉ (["_schema", "nodes"] : List Str)) fun sh H4 hsh s4 e4 hp4 hsh4 far4 => ?_)
  refine st_seq (one s4 e4 hp4 cP.n4 (by simp) (by decide +kernel : ("ranges" : Str) ∉ (["_schema", "nodes", "shown"] : List Str)) fun rg H5 hrg s5 e5 hp5 hrg5 far5 => ?_)
  refine one s5 e5 hp5 cP.n5 (by simp) (by decide +kernel : ("_way" : Str) ∉ (["_schema", "nodes", "shown", "ranges"] : List Str)) fun wy H6 hwy s6 e6 hp6 hwy6 far6 => ?_
  have np : ∀ {a : Addr} {H : Hp} {fs : List (Str × V)}, H p = some (.ins CP dx fs) → H a = none → a ≠ p := fun h1 h2 z => by rw [z, h1] at h2; cases h2
  have d1 : n ≠ sh := fun z => by rw [← z, hn3] at hsh; cases hsh
  have n4 : H4 n = some (.lst []) := by rw [far4 _ d1 (np hp1 hn)]; exact hn3
  have d2 : n ≠ rg := fun z => by rw [← z, n4] at hrg; cases hrg
  have n5 : H5 n = some (.lst []) := by rw [far5 _ d2 (np hp1 hn)]; exact n4
  have d3 : n ≠ wy := fun z => by rw [← z, n5] at hwy; cases hwy
  have n6 : H6 n = some (.lst []) := by rw [far6 _ d3 (np hp1 hn)]; exact n5
  have d4 : sh ≠ rg := fun z => by rw [← z, hsh4] at hrg; cases hrg
  have sh5 : H5 sh = some (.lst []) := by rw [far5 _ d4 (np hp3 hsh)]; exact hsh4
  have d5 : sh ≠ wy := fun z => by rw [← z, sh5] at hwy; cases hwy
  have sh6 : H6 sh = some (.lst []) := by rw [far6 _ d5 (np hp3 hsh)]; exact sh5
  have d6 : rg ≠ wy := fun z => by rw [← z, hrg5] at hwy; cases hwy
  have rg6 : H6 rg = some (.lst []) := by rw [far6 _ d6 (np hp4 hrg)]; exact hrg5
  have fr : ∀ {a : Addr}, H0 a = none → B0 a = none := fun h => e0.free h
  have n0 := free0 s1 hn
  have sh0 := free0 s3 hsh
  have rg0 := free0 s4 hrg
  have wy0 := free0 s5 hwy
  exact q n sh rg wy B0 H6 s6 e6 { obj := hp6, nop := bp0, sch := r0, nl := ⟨[], n6, fr n0, .nil⟩, sl := ⟨[], sh6, fr sh0, .nil⟩, rl := ⟨[], rg6, fr rg0, .nil⟩, wl := ⟨[], hwy6, fr wy0, .nil⟩, d1 := d1, d2 := d2, d3 := d3, d4 := d4, d5 := d5, d6 := d6 } n0 sh0 rg0 wy0
theorem ok_prank {f fC : Addr} {fd fdC : FuncData} (F : Fun K "_rank" "Parts._rank" s_Parts_rank f fd) (cls_P : Cls K CP) (M__columns_at : Meth K CP "_columns_at" fC) (G__columns_at : FnOk P w K mg base CX0 2 fC fdC ["self", "node"] (spM K (preColsAt CP C))) (B__columns_at : Binds K fdC ["self", "node"] []) (b_len : mg "len" = none) : FnOk P w K mg base CX0 3 f fd ["self", "node", "words"] (spM K (preRank CP C)) := by
  refine ok_body F sc_Parts_rank (fun rs Pl cs r cs' h => ?_) (fun X hX hr => ?_)
  · obtain ⟨T, M, node, cols, w0, w1, rest, k, z, j, rfl, _⟩ := h
    rfl
  obtain ⟨cdv, A, outer, s, H, E, rfl⟩ := hX
  have nd := sc_Parts_rank.nd
  refine ⟨_, (pss_cons (ps_set (i := 3) nd rfl (.inl rfl) (pe_disp (pps_cons pe_str pe_int (pps_cons pe_str pe_int (pps_cons pe_str pe_int pps_nil))) rfl rfl (by simp) (by decide)))
      (pss_cons (ps_if (PW.pt (pw_or (pt_cmp (pc_dnotin (hu_of hr) (pe_ix ix_seq (pv 2) pe_int (fun _ _ => rfl)) (pv 3)) (by rfl)) (pw_or1 (pt_cmpR (op_neA hr.units) (pe_callB call_len1 (by rfl) b_len PySem.boot_len (pa_cons (pv 2) pa_nil)) (pe_dget (hu_of hr) (pv 3) (pe_ix ix_seq (pv 2) pe_int (fun _ _ => rfl)) (fun _ _ => rfl)) (nomark _))))) (pss_one (ps_ret pe_non)) pss_nil)
      (pss_cons (ps_setLc (i := 4) (own := [("name", 5), ("target", 6)]) (g := (gTup K 2 (gCons (gName 5) (gCons (gName 6) gNil)))) (tt := (tTest (tOp (eqA K) (tOp rNotN (tVar 6) (tC .non)) (tOp (eqA K) (tOp (rIx K) (tVar 2) (tC (.int 0))) (tC (.str "follow")))))) (te := (tVar 5)) rfl nd rfl rfl (sw_true rfl rfl rfl (by decide +kernel)) (pi_tup (pe_meth (pv 0) cls_P M__columns_at G__columns_at (hr.mono (by decide)) B__columns_at .nil pass0 (pa_cons (pv 1) pa_nil))) (blkOk_by (N := N_Parts_rank) (sc := defScope s_Parts_rank) (by decide +kernel)) (by intro _ _ _ _ _; exact (pg_tup (by rfl) (by exact (pgs_cons (by exact (pg_name (i := 5) nd (by rfl) (by first | exact .inl rfl | exact .inr rfl))) (by exact (pgs_cons (by exact (pg_name (i := 6) nd (by rfl) (by first | exact .inl rfl | exact .inr rfl))) (by exact pgs_nil))))))) (by intro _ _ _ _ _; exact (pts_one (pt_cmpR (op_eqA hr.units) (pe_cmpR op_notN' (pv 6) pe_non (nomark _)) (pe_cmpR (op_eqA hr.units) (pe_ix ix_seq (pv 2) pe_int (fun _ _ => rfl)) pe_str (nomark _)) (nomark _)))) (by intro _ _ _ _ _; exact (pv 5)))
      (pss_cons (ps_if (pt_cmpR op_notIn_seq (pe_ix ix_seq (pv 2) pe_int (fun _ _ => rfl)) (pv 4) (by rfl)) (pss_one (ps_ret pe_non)) pss_nil)
      (pss_one (ps_ret (pe_tup (pa_cons (pe_bm PySem.F.plainAttrs_list PySem.F.slot_list_index PySem.F.type_list_index mt_index (pe_lst (pa_cons pe_str (pa_cons pe_str (pa_cons pe_str pa_nil)))) (pa_cons (pe_ix ix_seq (pv 2) pe_int (fun _ _ => rfl)) pa_nil)) (pa_cons (pe_op op_addA pe_int (pe_bm PySem.F.plainAttrs_list PySem.F.slot_list_index PySem.F.type_list_index mt_index (pv 4) (pa_cons (pe_ix ix_seq (pv 2) pe_int (fun _ _ => rfl)) pa_nil))) pa_nil))))))))), ?_⟩
  intro rs Pl cs r cs' hp B0 H0 σ Dn st hPl hd hn
  obtain ⟨T, M, node, cols, w0, w1, rest, k, z, j, rfl, hnd, hT, hcl, hk, hz, hj, rfl, rfl, rfl, rfl⟩ := hp
  have st : Sta K [] B0 H0 [.dat (partsD CP C T M), .dat (.int (node : Nat)), .dat (.lst ((w0 :: w1 :: rest).map D.str)), .any, .any, .any, .any] [] σ H0 := st
  have ev0 : ∀ {ss : List Sl} {P : List Addr} {cs : List (List D)}, ss[2]? = some (.dat (.lst ((w0 :: w1 :: rest).map D.str))) → Ev K P ss cs (tOp (rIx K) (tVar 2) (tC (.int 0))) (.dat (.str w0)) cs := fun h => ev_op (ev_var h) (ev_int (i := 0)) (od_ixL (atI_nat (j := 0) rfl))
  have ev1 : ∀ {ss : List Sl} {P : List Addr} {cs : List (List D)}, ss[2]? = some (.dat (.lst ((w0 :: w1 :: rest).map D.str))) → Ev K P ss cs (tOp (rIx K) (tVar 2) (tC (.int 1))) (.dat (.str w1)) cs := fun h => ev_op (ev_var h) (ev_int (i := 1)) (od_ixL (atI_nat (j := 1) rfl))
  refine st_seq (st_asg (i := 3) (cs1 := []) (r := .dat (.dic [(.inr "shown", .int 2), (.inr "range", .int 4), (.inr "follow", .int 2)])) st (ev_disp (.cons (dk := .str "shown") ev_str (.str _) ev_int (.cons (dk := .str "range") ev_str (.str _) ev_int (.cons (dk := .str "follow") ev_str (.str _) ev_int .nil))) (by decide +kernel) (by decide)) (fun σ1 H1 st1 => ?_))
  dsimp only []
  have hval : valD [((.inr "shown" : Key), D.int 2), (.inr "range", .int 4), (.inr "follow", .int 2)] (.inr w0) = some (.int (z : Nat)) ∧ firstAt w0 ["shown", "range", "follow"] = some k := by
    have n1 : ¬ ("shown" : Str) = "range" := by decide +kernel
    have n2 : ¬ ("shown" : Str) = "follow" := by decide +kernel
    have n3 : ¬ ("range" : Str) = "follow" := by decide +kernel
    unfold kindOf at hk
    by_cases e1 : w0 = "shown"
    · rw [if_pos e1] at hk
      cases hk
      subst e1
      exact ⟨by simp [valD], by simp [firstAt]⟩
    · rw [if_neg e1] at hk
      by_cases e2 : w0 = "range"
      · rw [if_pos e2] at hk
        cases hk
        subst e2
        exact ⟨by simp [valD, n1], by simp [firstAt, n1]⟩
      · rw [if_neg e2] at hk
        by_cases e3 : w0 = "follow"
        · rw [if_pos e3] at hk
          cases hk
          subst e3
          exact ⟨by simp [valD, n2, n3], by simp [firstAt, n2, n3]⟩
        · rw [if_neg e3] at hk; cases hk
  obtain ⟨hval, hkk⟩ := hval
  have st1 : Sta K [] B0 H0 [.dat (partsD CP C T M), .dat (.int (node : Nat)), .dat (.lst ((w0 :: w1 :: rest).map D.str)), .dat (.dic [(.inr "shown", .int 2), (.inr "range", .int 4), (.inr "follow", .int 2)]), .any, .any, .any] [] σ1 H1 := st1
  refine st_seq ?_
  refine st_if (b := false || false) (cs1 := []) st1 (et_or (et_B (Ev.eq (ev_dnotin (k := .inr w0) (ev0 rfl) (ev_var (i := 3) rfl) (.str _)) (by rw [hval]; rfl))) (fun _ => et_test (Ev.eq (ev_op (ev_cb (ea_cons (ev_var (i := 2) rfl) ea_nil) cb_lenL) (ev_dgetS (ev_var (i := 3) rfl) (ev0 rfl) hval) od_neI) (by
    rw [List.length_map, List.length_cons, List.length_cons, hz]
    simp)))) (fun z => by cases z) (fun _ H2 st2 => ?_)
  refine st_next ?_
  try dsimp only []
  -- names
  have hw : WD K [] [.dat (partsD CP C T M), .dat (.int (node : Nat)), .dat (.lst ((w0 :: w1 :: rest).map D.str)), .dat (.dic [(.inr "shown", .int 2), (.inr "range", .int 4), (.inr "follow", .int 2)]), .any, .any, .any] [] (iTup K (tMeth CP "_columns_at" (spM K (preColsAt CP C)) [] E0 (tVar 0) (tCons (tVar 1) tNil))) (cols.map encC) [] := wd_tup (ev_meth1 (ev_var (i := 0) rfl) (lookP (by decide +kernel) (by decide +kernel) (by decide +kernel) (by decide +kernel) (by decide +kernel)) (ea_cons (ev_var (i := 1) rfl) ea_nil) ⟨T, M, node, cols, rfl, hnd, hT, rfl, rfl, rfl, rfl⟩)
  refine st_seq (st_asg (i := 4) (cs1 := []) (r := .dat (.lst ((namesAt cols w0).map D.str))) st2 (Ev.eq (EvF.ev (ef_filterE (l := cols) (enc := encC) hw (fun c => .str c.1) (fun c => decide (c.2.isSome = decide (w0 = "follow"))) (by omega) (fun p i c acc hx => ?_))) (by unfold namesAt; rw [List.map_map]; rfl)) (fun σ3 H3 st3 => ?_))
  · obtain ⟨m, o⟩ := c
    cases o with
    | none => exact ⟨_, _, (g_tup (g_cons g_name (g_cons g_name g_nil)) : GR K _ _ (.tup [.str m, .non]) _ _), by decide, et_test (ev_op (ev_op (ev_var rfl) ev_non od_notN) (ev_op (ev0 rfl) ev_str od_eqS) od_eqB), fun _ => ev_var rfl⟩
    | some o => exact ⟨_, _, (g_tup (g_cons g_name (g_cons g_name g_nil)) : GR K _ _ (.tup [.str m, .str o]) _ _), by decide, et_test (ev_op (ev_op (ev_var rfl) ev_non od_notN) (ev_op (ev0 rfl) ev_str od_eqS) od_eqB), fun _ => ev_var rfl⟩
  have st3 : Sta K [] B0 H0 [.dat (partsD CP C T M), .dat (.int (node : Nat)), .dat (.lst ((w0 :: w1 :: rest).map D.str)), .dat (.dic [(.inr "shown", .int 2), (.inr "range", .int 4), (.inr "follow", .int 2)]), .dat (.lst ((namesAt cols w0).map D.str)), .any, .any] [] σ3 H3 := st3
  obtain ⟨h1, h2⟩ := firstAt_ok hj
  have hin : w1 ∈ namesAt cols w0 := List.mem_of_getElem? h1
  refine st_seq ?_
  refine st_if (b := false) (cs1 := []) st3 (et_test (Ev.eq (ev_op (ev1 rfl) (ev_var (i := 4) rfl) od_niS) (by rw [decide_eq_true hin]; rfl))) (fun z => by cases z) (fun _ H4 st4 => ?_)
  refine st_next ?_
  try dsimp only []
  obtain ⟨h3, h4⟩ := firstAt_ok hkk
  refine st_ret st4 (ev_tup (ds := [.int (k : Nat), .int ((1 + j : Nat) : Int)]) (ea_cons (ev_lidx (ys := ["shown", "range", "follow"]) (ev_lst (ds := [.str "shown", .str "range", .str "follow"]) (ea_cons ev_str (ea_cons ev_str (ea_cons ev_str ea_nil))) (by simp)) (ev0 rfl) h3 h4) (ea_cons (Ev.eq (ev_op ev_int (ev_lidx (ys := namesAt cols w0) (ev_var (i := 4) rfl) (ev1 rfl) h1 h2) od_addI) (by simp)) ea_nil)) (by simp)) hd
end
end T3
/-! V4: the rows of a view's text are taken. -/
namespace SP
open PySem L2 DV PM RG
variable {K : PySem.W.Frag}
theorem od_niT {x : Str} {ss : List Str} : OpD K (rIn K true) (.dat (.str x)) (.dat (.tup (ss.map D.str))) (.dat (.bl (!decide (x ∈ ss)))) := fun B H v y e h1 h2 Q q => by
  have a' : Rp K B v (.str x) := h1
  cases a'
  have b' : Rp K B y (.tup (ss.map D.str)) := h2
  cases b' with
  | @tup a vs _ h5 r =>
    have ev := RpA.strs r
    subst ev
    refine ⟨a, ss.map V.str, rfl, .inr (.inl (RdEx e h5)), rfl, DV.flat_strs ss, ?_⟩
    rw [if_pos rfl, inV_strs]
    exact q _ B H (Stp.refl _ _ _) e (.bl _)
theorem et_notF {ss : List Sl} {t : TT} (h : EvT K [] ss [] t true []) : EvT K [] ss [] (tNot t) false [] := et_not h
def colsNd (T : List Tab) : Prop := ∀ t ∈ T, (t.2.map (·.1)).Nodup ∧ t.2.length ≤ 1000
/-- parts as they stand while a text is read, k rows behind its first -/
structure MOk (T : List Tab) (M : PtM) (k : Nat) : Prop where
  nl : M.nodes.length ≤ 4
  wl : M.way.length ≤ k + 1
  sl : M.shown.length ≤ k
  tab : ∀ q ∈ M.nodes, q.2 ∈ T.map (·.1)
  way : ∀ q ∈ M.way, q.1 < M.nodes.length
def spRoot (K : PySem.W.Frag) (CP C : Addr) : Sp := fun vs H Q _ => ∃ B p dx n sh rg wy v0 T M vw b, vs = [.ref p, vw] ∧ Ex B H ∧ Rp K B vw (.lst [.str "view", .str b]) ∧ b ∈ T.map (·.1) ∧ PObj K B H p dx n sh rg wy CP C v0 T M ∧ M.nodes.length ≤ 4 ∧ M.way.length ≤ 1000 ∧
  ∀ B' H', Stp [n, wy] B H B' H' → Ex B' H' → PObj K B' H' p dx n sh rg wy CP C v0 T (addF none b M) → Q (.bl true) H'
def spRange (K : PySem.W.Frag) (CP C : Addr) : Sp := fun vs H Q _ => ∃ B p dx n sh rg wy v0 T M vw node w0 w1 a b, vs = [.ref p, .int (node : Nat), vw] ∧ Ex B H ∧ Rp K B vw (.lst ([w0, w1, a, b].map D.str)) ∧ okInt a ∧ okInt b ∧ M.ranges.length < 4 ∧ isEndF a = true ∧ isEndF b = true ∧ PObj K B H p dx n sh rg wy CP C v0 T M ∧
  ∀ B' H', Stp [rg] B H B' H' → Ex B' H' → PObj K B' H' p dx n sh rg wy CP C v0 T { M with ranges := M.ranges ++ [(node, w1, readEndF a, readEndF b)] } → Q (.bl true) H'
def spChild (K : PySem.W.Frag) (CP C : Addr) : Sp := fun vs H Q _ => ∃ B p dx n sh rg wy v0 T M node r cols t, vs = [.ref p, .int (node : Nat), .str r] ∧ Ex B H ∧ M.nodes.length < 4 ∧ M.way.length ≤ 1000 ∧ node < M.nodes.length ∧ T.lookup (tabAt M node) = some cols ∧ cols.length ≤ 1000 ∧ (cols.map (·.1)).Nodup ∧ cols.lookup r = some (some t) ∧ PObj K B H p dx n sh rg wy CP C v0 T M ∧
  ∀ B' H', Stp [n, wy] B H B' H' → Ex B' H' → PObj K B' H' p dx n sh rg wy CP C v0 T (addF (some (node, r)) t M) → Q (.bl true) H'
def spWords (K : PySem.W.Frag) (CP C : Addr) : Sp := fun vs H Q _ => ∃ B p dx n sh rg wy v0 T M M' vw node words cols, vs = [.ref p, .int (node : Nat), vw] ∧ Ex B H ∧ Rp K B vw (.lst (words.map D.str)) ∧ (∀ w ∈ words, okInt w) ∧ PObj K B H p dx n sh rg wy CP C v0 T M ∧ M.nodes.length ≤ 4 ∧ M.way.length ≤ 1000 ∧ M.shown.length ≤ 1000 ∧ node < M.nodes.length ∧ T.lookup (tabAt M node) = some cols ∧ cols.length ≤ 1000 ∧ (cols.map (·.1)).Nodup ∧ wordsF T node words M = some M' ∧
  ∀ B' H', Stp [n, sh, rg, wy] B H B' H' → Ex B' H' → PObj K B' H' p dx n sh rg wy CP C v0 T M' → Q (.bl true) H'
def spPart (K : PySem.W.Frag) (CP C : Addr) : Sp := fun vs H Q _ => ∃ B p dx n sh rg wy v0 T M M' vw level words k, vs = [.ref p, .int (level : Nat), vw] ∧ Ex B H ∧ Rp K B vw (.lst (words.map D.str)) ∧ (∀ w ∈ words, okInt w) ∧ PObj K B H p dx n sh rg wy CP C v0 T M ∧ (T.map (·.1)).Nodup ∧ colsNd T ∧ MOk T M k ∧ k ≤ 900 ∧ partF T level words M = some M' ∧
  ∀ wy' B' H', Stp [p, n, sh, rg, wy] B H B' H' → Ex B' H' → PObj K B' H' p dx n sh rg wy' CP C v0 T M' → (wy' = wy ∨ H wy' = none) → Q (.bl true) H'
def spTakes (K : PySem.W.Frag) (CP C : Addr) : Sp := fun vs H Q _ => ∃ B p dx n sh rg wy v0 T M M' number row k, vs = [.ref p, .int (number : Nat), .str row] ∧ Ex B H ∧ row.length ≤ 10000 ∧ (∀ w ∈ Txt.split row " ", okInt w) ∧ PObj K B H p dx n sh rg wy CP C v0 T M ∧ schOk T ∧ colsNd T ∧ MOk T M k ∧ k ≤ 900 ∧ takesF T number row M = some M' ∧
  ∀ wy' B' H', Stp [p, n, sh, rg, wy] B H B' H' → Ex B' H' → PObj K B' H' p dx n sh rg wy' CP C v0 T M' → (wy' = wy ∨ H wy' = none) → Q (.bl true) H'
end SP
namespace T3
open PySem L2 DV PM SP
abbrev s_Parts_takes_root : Stmt := inClass (topS 15) 2
abbrev N_Parts_takes_root : List Str := ["self", "words"]
theorem sc_Parts_takes_root : FnScope N_Parts_takes_root ["self", "words"] (defScope s_Parts_takes_root) := ⟨rfl, rfl, rfl, by decide +kernel, rfl, by decide +kernel, by decide +kernel⟩

abbrev s_Parts_takes_range : Stmt := inClass (topS 15) 8
abbrev N_Parts_takes_range : List Str := ["self", "node", "words"]
theorem sc_Parts_takes_range : FnScope N_Parts_takes_range ["self", "node", "words"] (defScope s_Parts_takes_range) := ⟨rfl, rfl, rfl, by decide +kernel, rfl, by decide +kernel, by decide +kernel⟩

abbrev s_Parts_takes_child : Stmt := inClass (topS 15) 9
abbrev N_Parts_takes_child : List Str := ["self", "node", "reference"]
theorem sc_Parts_takes_child : FnScope N_Parts_takes_child ["self", "node", "reference"] (defScope s_Parts_takes_child) := ⟨rfl, rfl, rfl, by decide +kernel, rfl, by decide +kernel, by decide +kernel⟩

abbrev s_Parts_takes_words : Stmt := inClass (topS 15) 7
abbrev N_Parts_takes_words : List Str := ["self", "node", "words"]
theorem sc_Parts_takes_words : FnScope N_Parts_takes_words ["self", "node", "words"] (defScope s_Parts_takes_words) := ⟨rfl, rfl, rfl, by decide +kernel, rfl, by decide +kernel, by decide +kernel⟩

abbrev s_Parts_takes_part : Stmt := inClass (topS 15) 4
abbrev N_Parts_takes_part : List Str := ["self", "level", "words", "node", "last", "rank", "added"]
theorem sc_Parts_takes_part : FnScope N_Parts_takes_part ["self", "level", "words"] (defScope s_Parts_takes_part) := ⟨rfl, rfl, rfl, by decide +kernel, rfl, by decide +kernel, by decide +kernel⟩

abbrev s_Parts_takes : Stmt := inClass (topS 15) 1
abbrev N_Parts_takes : List Str := ["self", "number", "row", "words", "indent", "level"]
theorem sc_Parts_takes : FnScope N_Parts_takes ["self", "number", "row"] (defScope s_Parts_takes) := ⟨rfl, rfl, rfl, by decide +kernel, rfl, by decide +kernel, by decide +kernel⟩

section
variable {P : Program} {w : World} {K : PySem.W.Frag} {mg : Str → Option Value} {base : Heap} {C CP : Addr}
theorem ok_proot {f fA : Addr} {fd fdA : FuncData} (F : Fun K "_takes_root" "Parts._takes_root" s_Parts_takes_root f fd) (cP : PartsCls K CP) (cS : SchCls K C) (cls_P : Cls K CP) (M__add_node : Meth K CP "_add_node" fA) (G__add_node : FnOk P w K mg base CX0 1 fA fdA ["self", "parent", "reference", "table"] (spAddN K CP C)) (B__add_node : Binds K fdA ["self", "parent", "reference", "table"] []) (b_len : mg "len" = none) : FnOk P w K mg base CX0 2 f fd ["self", "words"] (spRoot K CP C) := by
  refine F.ok sc_Parts_takes_root (fun vs H Q E h => ?_) (fun cdv A outer s H vs Q E hr h => ?_)
  · obtain ⟨B, p, dx, n, sh, rg, wy, v0, T, M, vw, b, rfl, _⟩ := h
    rfl
  have nd := sc_Parts_takes_root.nd
  refine ⟨_, (pss_cons (ps_if (PW.pt (pw_or (pt_cmpR (op_neA hr.units) (pe_callB call_len1 (by rfl) b_len PySem.boot_len (pa_cons (pv 1) pa_nil)) pe_int (nomark _)) (pw_or (pt_cmpR (op_neA hr.units) (pe_ix ix_seq (pv 1) pe_int (fun _ _ => rfl)) pe_str (nomark _)) (pw_or1 (pt_cmpR op_notIn_seq (pe_ix ix_seq (pv 1) pe_int (fun _ _ => rfl)) (pe_fld (pe_fld (pv 0) rfl) rfl) (by rfl)))))) (pss_one (ps_ret pe_bl)) pss_nil)
      (pss_cons (ps_expr (pe_meth (pv 0) cls_P M__add_node G__add_node (hr.mono (by decide)) B__add_node .nil pass0 (pa_cons pe_non (pa_cons pe_non (pa_cons (pe_ix ix_seq (pv 1) pe_int (fun _ _ => rfl)) pa_nil)))))
      (pss_one (ps_ret pe_bl)))), ?_⟩
  obtain ⟨B, p, dx, n, sh, rg, wy, v0, T, M, vw, b, rfl, e0, rw0, hb, po, hn4, hw4, q⟩ := h
  have st := sta_start (vs := [.ref p, vw]) (N := N_Parts_takes_root) (K := K) (P := []) (cs := []) (rs := [.val (.ref p), .dat (.lst [.str "view", .str b])]) e0 ⟨rfl, rw0, True.intro⟩ True.intro
  generalize L2.start N_Parts_takes_root [V.ref p, vw] = σ at st ⊢
  have st : Sta K [] B H [.val (.ref p), .dat (.lst [.str "view", .str b])] [] σ H := st
  obtain ⟨B1, s1, o1⟩ := st
  have po1 := po.step0 s1
  have e1 : ∀ {ss : List Sl}, ss[1]? = some (.dat (.lst [.str "view", .str b])) → Ev K [] ss [] (tOp (rIx K) (tVar 1) (tC (.int 1))) (.dat (.str b)) [] := fun h => ev_op (ev_var h) (ev_int (i := 1)) (od_ixL (atI_nat (j := 1) rfl))
  refine st_seq ?_
  refine po1.readT (i := 0) (b := false || (false || false)) o1 rfl (et_or (et_test (Ev.eq (ev_op (ev_cb (ea_cons (ev_var (i := 1) rfl) ea_nil) cb_lenL) ev_int od_neI) (by simp))) (fun _ => et_or (et_test (Ev.eq (ev_op (ev_op (ev_var (i := 1) rfl) (ev_int (i := 0)) (od_ixL (d := .str "view") (atI_nat (j := 0) rfl))) ev_str od_neS) (by simp))) (fun _ => et_test (Ev.eq (ev_op (e1 rfl) (Ev.eq (ev_nt (ev_fld (ev_psch cP (i := 0) rfl) cS.cl cS.n1 rfl)) (d' := .tup ((T.map fun t => t.1).map D.str)) (by rw [List.map_map]; rfl)) (od_niT (ss := T.map fun t => t.1))) (by rw [decide_eq_true hb]; rfl))))) fun B2 H2 s2 o2 po2 => ?_
  refine ifFv rfl (st_next ?_)
  try dsimp only []
  -- self._add_node(None, None, words[1])
  obtain ⟨w0, k0, ew0⟩ := o2.sl.get 0 (.val (.ref p)) rfl (by intro z; cases z)
  cases (show w0 = .ref p from ew0)
  refine st_seq ?_
  refine ⟨.ref p, k0, p, dx, _, rfl, po2.obj, lookPV (by decide +kernel) (by decide +kernel) (by decide +kernel) (by decide +kernel) (by decide +kernel), ?_⟩
  have e1' : Ev K [] [.val (.ref p), .dat (.lst [.str "view", .str b])] [] (tOp (rIx K) (tVar 1) (tC (.int 1))) (.dat (.str b)) [] := e1 rfl
  refine e1' B2 H2 σ o2 _ fun v B3 H3 s3 o3 r3 => ?_
  cases (show Rp K B3 v (.str b) from r3)
  refine ⟨B3, p, dx, n, sh, rg, wy, v0, T, M, none, b, .non, .non, rfl, o3.ex, po2.step0 s3, by omega, by omega, ⟨rfl, rfl⟩, fun B4 H4 s4 e4 po4 => ?_⟩
  try dsimp only []
  exact q B4 H4 (((s1.mono (by simp)).trans (s2.mono (by simp))).trans ((s3.mono (by simp)).trans s4)) e4 po4
theorem ok_prange {f fE fR : Addr} {fd fdE fdR : FuncData} (F : Fun K "_takes_range" "Parts._takes_range" s_Parts_takes_range f fd) (cP : PartsCls K CP) (G_is_end : Def P w K mg base 3 "is_end" fE fdE ["word"] (spM K preIsEnd)) (G_read_end : Def P w K mg base 2 "read_end" fR fdR ["word"] (spM K preReadEnd)) (b_len : mg "len" = none) (g_MOST_RANGES : ∃ t, mg "MOST_RANGES" = some (.int 4 t)) : FnOk P w K mg base CX0 4 f fd ["self", "node", "words"] (spRange K CP C) := by
  refine F.ok sc_Parts_takes_range (fun vs H Q E h => ?_) (fun cdv A outer s H vs Q E hr h => ?_)
  · obtain ⟨B, p, dx, n, sh, rg, wy, v0, T, M, vw, node, w0, w1, a, b, rfl, _⟩ := h
    rfl
  have nd := sc_Parts_takes_range.nd
  obtain ⟨tk4, g_MOST_RANGES⟩ := g_MOST_RANGES
  refine ⟨_, (pss_cons (ps_if (PW.pt (pw_or (pt_cmpR (op_eqA hr.units) (pe_callB call_len1 (by rfl) b_len PySem.boot_len (pa_cons (pe_fld (pv 0) rfl) pa_nil)) (pe_glob (v := .int (4)) rfl g_MOST_RANGES ⟨_, rfl⟩) (nomark _)) (pw_or (pt_not (pt_val (pe_def G_is_end hr (by decide) (by rfl) (pa_cons (pe_ix ix_seq (pv 2) pe_int (fun _ _ => rfl)) pa_nil)))) (pw_or1 (pt_not (pt_val (pe_def G_is_end hr (by decide) (by rfl) (pa_cons (pe_ix ix_seq (pv 2) pe_int (fun _ _ => rfl)) pa_nil)))))))) (pss_one (ps_ret pe_bl)) pss_nil)
      (pss_cons (ps_expr (pe_bm PySem.F.plainAttrs_list PySem.F.slot_list_append PySem.F.type_list_append mt_append (pe_fld (pv 0) rfl) (pa_cons (pe_tup (pa_cons (pv 1) (pa_cons (pe_ix ix_seq (pv 2) pe_int (fun _ _ => rfl)) (pa_cons (pe_def G_read_end hr (by decide) (by rfl) (pa_cons (pe_ix ix_seq (pv 2) pe_int (fun _ _ => rfl)) pa_nil)) (pa_cons (pe_def G_read_end hr (by decide) (by rfl) (pa_cons (pe_ix ix_seq (pv 2) pe_int (fun _ _ => rfl)) pa_nil)) pa_nil))))) pa_nil)))
      (pss_one (ps_ret pe_bl)))), ?_⟩
  obtain ⟨B, p, dx, n, sh, rg, wy, v0, T, M, vw, node, w0, w1, a, b, rfl, e0, rw0, oa, ob, hr4, ha, hb, po, q⟩ := h
  have st := sta_start (vs := [.ref p, .int (node : Nat), vw]) (N := N_Parts_takes_range) (K := K) (P := []) (cs := []) (rs := [.val (.ref p), .dat (.int (node : Nat)), .dat (.lst ([w0, w1, a, b].map D.str))]) e0 ⟨rfl, .int _, rw0, True.intro⟩ True.intro
  generalize L2.start N_Parts_takes_range [V.ref p, .int (node : Nat), vw] = σ at st ⊢
  have st : Sta K [] B H [.val (.ref p), .dat (.int (node : Nat)), .dat (.lst ([w0, w1, a, b].map D.str))] [] σ H := st
  obtain ⟨B1, s1, o1⟩ := st
  have po1 := po.step0 s1
  have ev1 : ∀ {ss : List Sl}, ss[2]? = some (.dat (.lst ([w0, w1, a, b].map D.str))) → Ev K [] ss [] (tOp (rIx K) (tVar 2) (tC (.int 1))) (.dat (.str w1)) [] := fun h => ev_op (ev_var h) (ev_int (i := 1)) (od_ixL (atI_nat (j := 1) rfl))
  have ev2 : ∀ {ss : List Sl}, ss[2]? = some (.dat (.lst ([w0, w1, a, b].map D.str))) → Ev K [] ss [] (tOp (rIx K) (tVar 2) (tC (.int 2))) (.dat (.str a)) [] := fun h => ev_op (ev_var h) (ev_int (i := 2)) (od_ixL (atI_nat (j := 2) rfl))
  have ev3 : ∀ {ss : List Sl}, ss[2]? = some (.dat (.lst ([w0, w1, a, b].map D.str))) → Ev K [] ss [] (tOp (rIx K) (tVar 2) (tC (.int 3))) (.dat (.str b)) [] := fun h => ev_op (ev_var h) (ev_int (i := 3)) (od_ixL (atI_nat (j := 3) rfl))
  refine st_seq ?_
  refine po1.readT (i := 0) (b := false || (false || false)) o1 rfl (et_or (et_test (Ev.eq (ev_op (ev_cb (ea_cons (ev_pranges cP rfl) ea_nil) cb_lenL) ev_int od_eqI) (by rw [List.length_map, decide_eq_false (by omega)]))) (fun _ => et_or (et_notF (et_B (Ev.eq (ev_call0 (ea_cons (ev2 rfl) ea_nil) ⟨a, rfl, oa, rfl, rfl, rfl, rfl⟩) (by rw [ha])))) (fun _ => et_notF (et_B (Ev.eq (ev_call0 (ea_cons (ev3 rfl) ea_nil) ⟨b, rfl, ob, rfl, rfl, rfl, rfl⟩) (by rw [hb])))))) fun B2 H2 s2 o2 po2 => ?_
  refine ifFv rfl (st_next ?_)
  try dsimp only []
  obtain ⟨u0, k0, ew0⟩ := o2.sl.get 0 (.val (.ref p)) rfl (by intro z; cases z)
  cases (show u0 = .ref p from ew0)
  -- self.ranges.append(..)
  refine st_seq ?_
  refine ⟨.ref p, k0, p, CP, dx, _, .ref rg, rfl, po2.obj, cP.cl, cP.n4, lkR, po2.rl.ty, ?_⟩
  have evt : Ev K [] [.val (.ref p), .dat (.int (node : Nat)), .dat (.lst ([w0, w1, a, b].map D.str))] [] (tTup (tCons (tVar 1) (tCons (tOp (rIx K) (tVar 2) (tC (.int 1))) (tCons (tCall (spM K preReadEnd) [] E0 (tCons (tOp (rIx K) (tVar 2) (tC (.int 2))) tNil)) (tCons (tCall (spM K preReadEnd) [] E0 (tCons (tOp (rIx K) (tVar 2) (tC (.int 3))) tNil)) tNil))))) (.dat (rangeMD (node, w1, readEndF a, readEndF b))) [] :=
    ev_tup (ds := [.int (node : Nat), .str w1, optI (readEndF a), optI (readEndF b)]) (ea_cons (ev_var (i := 1) rfl) (ea_cons (ev1 rfl) (ea_cons (ev_call0 (ea_cons (ev2 rfl) ea_nil) ⟨a, rfl, oa, rfl, rfl, rfl, rfl⟩) (ea_cons (ev_call0 (ea_cons (ev3 rfl) ea_nil) ⟨b, rfl, ob, rfl, rfl, rfl, rfl⟩) ea_nil)))) (by simp)
  refine evt B2 H2 σ o2 _ fun v B3 H3 s3 o3 r3 => ?_
  have po3 := po2.step0 s3
  refine tnil_go ?_
  refine app_cell po3.rl o3.ex (by rw [List.length_map]; omega) r3 fun H4 s4 e4 l4 far4 => ?_
  try dsimp only []
  obtain ⟨np1, np2, np3, np4⟩ := po3.np
  exact q B3 H4 (((s1.mono (by simp)).trans (s2.mono (by simp))).trans ((s3.mono (by simp)).trans s4)) e4 { obj := by rw [far4 _ np3]; exact po3.obj, nop := po3.nop, sch := po3.sch, nl := po3.nl.same (far4 _ po3.d2), sl := po3.sl.same (far4 _ po3.d4), rl := (show LC K B3 H4 rg ((M.ranges ++ [(node, w1, readEndF a, readEndF b)]).map rangeMD) by rw [List.map_append]; exact l4), wl := po3.wl.same (far4 _ (Ne.symm po3.d6)), d1 := po3.d1, d2 := po3.d2, d3 := po3.d3, d4 := po3.d4, d5 := po3.d5, d6 := po3.d6 }
theorem ok_pchild {f fA fT : Addr} {fd fdA fdT : FuncData} (F : Fun K "_takes_child" "Parts._takes_child" s_Parts_takes_child f fd) (cP : PartsCls K CP) (cls_P : Cls K CP) (M__add_node : Meth K CP "_add_node" fA) (G__add_node : FnOk P w K mg base CX0 1 fA fdA ["self", "parent", "reference", "table"] (spAddN K CP C)) (B__add_node : Binds K fdA ["self", "parent", "reference", "table"] []) (G_target_of : Def P w K mg base 2 "target_of" fT fdT ["schema", "table", "reference"] (spM K (preTarget C))) (b_len : mg "len" = none) (g_MOST_NODES : ∃ t, mg "MOST_NODES" = some (.int 4 t)) : FnOk P w K mg base CX0 3 f fd ["self", "node", "reference"] (spChild K CP C) := by
  refine F.ok sc_Parts_takes_child (fun vs H Q E h => ?_) (fun cdv A outer s H vs Q E hr h => ?_)
  · obtain ⟨B, p, dx, n, sh, rg, wy, v0, T, M, node, r, cols, t, rfl, _⟩ := h
    rfl
  have nd := sc_Parts_takes_child.nd
  obtain ⟨tk4, g_MOST_NODES⟩ := g_MOST_NODES
  refine ⟨_, (pss_cons (ps_if (pt_cmpR (op_eqA hr.units) (pe_callB call_len1 (by rfl) b_len PySem.boot_len (pa_cons (pe_fld (pv 0) rfl) pa_nil)) (pe_glob (v := .int (4)) rfl g_MOST_NODES ⟨_, rfl⟩) (nomark _)) (pss_one (ps_ret pe_bl)) pss_nil)
      (pss_cons (ps_expr (pe_meth (pv 0) cls_P M__add_node G__add_node (hr.mono (by decide)) B__add_node .nil pass0 (pa_cons (pv 1) (pa_cons (pv 2) (pa_cons (pe_def G_target_of hr (by decide) (by rfl) (pa_cons (pe_fld (pv 0) rfl) (pa_cons (pe_ix ix_seq (pe_ix ix_seq (pe_fld (pv 0) rfl) (pv 1) (fun _ _ => rfl)) pe_int (fun _ _ => rfl)) (pa_cons (pv 2) pa_nil)))) pa_nil)))))
      (pss_one (ps_ret pe_bl)))), ?_⟩
  obtain ⟨B, p, dx, n, sh, rg, wy, v0, T, M, node, r, cols, t, rfl, e0, hn4, hw4, hnd, hT, hcl, hcn, hlk, po, q⟩ := h
  have st := sta_start (vs := [.ref p, .int (node : Nat), .str r]) (N := N_Parts_takes_child) (K := K) (P := []) (cs := []) (rs := [.val (.ref p), .dat (.int (node : Nat)), .dat (.str r)]) e0 ⟨rfl, .int _, .str _, True.intro⟩ True.intro
  generalize L2.start N_Parts_takes_child [V.ref p, .int (node : Nat), .str r] = σ at st ⊢
  have st : Sta K [] B H [.val (.ref p), .dat (.int (node : Nat)), .dat (.str r)] [] σ H := st
  obtain ⟨B1, s1, o1⟩ := st
  have po1 := po.step0 s1
  refine st_seq ?_
  refine po1.readT (i := 0) (b := false) o1 rfl (et_test (Ev.eq (ev_op (ev_cb (ea_cons (ev_pnodes cP rfl) ea_nil) cb_lenL) ev_int od_eqI) (by rw [List.length_map, decide_eq_false (by omega)]))) fun B2 H2 s2 o2 po2 => ?_
  refine ifFv rfl (st_next ?_)
  try dsimp only []
  obtain ⟨u0, k0, ew0⟩ := o2.sl.get 0 (.val (.ref p)) rfl (by intro z; cases z)
  cases (show u0 = .ref p from ew0)
  obtain ⟨u1, k1, ew1⟩ := o2.sl.get 1 (.dat (.int (node : Nat))) rfl (by intro z; cases z)
  cases (show Rp K B2 u1 (.int (node : Nat)) from ew1)
  obtain ⟨u2, k2, ew2⟩ := o2.sl.get 2 (.dat (.str r)) rfl (by intro z; cases z)
  cases (show Rp K B2 u2 (.str r) from ew2)
  refine st_seq ?_
  refine ⟨.ref p, k0, p, dx, _, rfl, po2.obj, lookPV (by decide +kernel) (by decide +kernel) (by decide +kernel) (by decide +kernel) (by decide +kernel), .int (node : Nat), k1, .str r, k2, ?_⟩
  refine po2.read (i := 0) (te := tCall (spM K (preTarget C)) [] E0 (tCons (tFld K (tVar 0) "_schema") (tCons (tOp (rIx K) (tOp (rIx K) (tFld K (tVar 0) "nodes") (tVar 1)) (tC (.int 2))) (tCons (tVar 2) tNil)))) (d := .str t) o2 rfl (ev_call0 (ea_cons (ev_psch cP (i := 0) rfl) (ea_cons (ev_ptab cP (i := 0) (j := 1) rfl rfl hnd) (ea_cons (ev_var (i := 2) rfl) ea_nil))) ⟨T, _, r, cols, t, rfl, hT, hcl, hcn, hlk, rfl, rfl, rfl, rfl⟩) rfl fun v B3 H3 s3 o3 po3 r3 => ?_
  cases (show Rp K B3 v (.str t) from r3)
  refine ⟨B3, p, dx, n, sh, rg, wy, v0, T, M, some (node, r), t, .int (node : Nat), .str r, rfl, o3.ex, po3, by omega, by omega, ⟨rfl, rfl⟩, fun B4 H4 s4 e4 po4 => ?_⟩
  try dsimp only []
  exact q B4 H4 (((s1.mono (by simp)).trans (s2.mono (by simp))).trans ((s3.mono (by simp)).trans s4)) e4 po4
theorem ok_pwords {f fR fC : Addr} {fd fdR fdC : FuncData} (F : Fun K "_takes_words" "Parts._takes_words" s_Parts_takes_words f fd) (cP : PartsCls K CP) (cls_P : Cls K CP) (M__takes_range : Meth K CP "_takes_range" fR) (G__takes_range : FnOk P w K mg base CX0 4 fR fdR ["self", "node", "words"] (spRange K CP C)) (B__takes_range : Binds K fdR ["self", "node", "words"] []) (M__takes_child : Meth K CP "_takes_child" fC) (G__takes_child : FnOk P w K mg base CX0 3 fC fdC ["self", "node", "reference"] (spChild K CP C)) (B__takes_child : Binds K fdC ["self", "node", "reference"] []) : FnOk P w K mg base CX0 5 f fd ["self", "node", "words"] (spWords K CP C) := by
  refine F.ok sc_Parts_takes_words (fun vs H Q E h => ?_) (fun cdv A outer s H vs Q E hr h => ?_)
  · obtain ⟨B, p, dx, n, sh, rg, wy, v0, T, M, M', vw, node, words, cols, rfl, _⟩ := h
    rfl
  have nd := sc_Parts_takes_words.nd
  refine ⟨_, (pss_cons (ps_if (pt_cmpR (op_eqA hr.units) (pe_ix ix_seq (pv 2) pe_int (fun _ _ => rfl)) pe_str (nomark _)) (pss_cons (ps_expr (pe_bm PySem.F.plainAttrs_list PySem.F.slot_list_append PySem.F.type_list_append mt_append (pe_fld (pv 0) rfl) (pa_cons (pe_tup (pa_cons (pv 1) (pa_cons (pe_ix ix_seq (pv 2) pe_int (fun _ _ => rfl)) pa_nil))) pa_nil)))
      (pss_one (ps_ret pe_bl))) pss_nil)
      (pss_one (ps_ret (pe_ifExp (pt_cmpR (op_eqA hr.units) (pe_ix ix_seq (pv 2) pe_int (fun _ _ => rfl)) pe_str (nomark _)) (pe_meth (pv 0) cls_P M__takes_range G__takes_range (hr.mono (by decide)) B__takes_range .nil pass0 (pa_cons (pv 1) (pa_cons (pv 2) pa_nil))) (pe_meth (pv 0) cls_P M__takes_child G__takes_child (hr.mono (by decide)) B__takes_child .nil pass0 (pa_cons (pv 1) (pa_cons (pe_ix ix_seq (pv 2) pe_int (fun _ _ => rfl)) pa_nil))))))), ?_⟩
  obtain ⟨B, p, dx, n, sh, rg, wy, v0, T, M, M', vw, node, words, cols, rfl, e0, rw0, hok, po, hn4, hw4, hs4, hnd, hT, hcl, hcn, hF, q⟩ := h
  have hcols : colsOf T M node = cols := by unfold colsOf; rw [show (M.nodes.getD node (none, Str.empty)).2 = tabAt M node from rfl, hT]; rfl
  obtain ⟨w0, w1, rest, rfl⟩ : ∃ w0 w1 rest, words = w0 :: w1 :: rest := by
    match words, hF with
    | [], h => cases h
    | [_], h => cases h
    | a :: b :: r, _ => exact ⟨a, b, r, rfl⟩
  have st := sta_start (vs := [.ref p, .int (node : Nat), vw]) (N := N_Parts_takes_words) (K := K) (P := []) (cs := []) (rs := [.val (.ref p), .dat (.int (node : Nat)), .dat (.lst ((w0 :: w1 :: rest).map D.str))]) e0 ⟨rfl, .int _, rw0, True.intro⟩ True.intro
  generalize L2.start N_Parts_takes_words [V.ref p, .int (node : Nat), vw] = σ at st ⊢
  have st : Sta K [] B H [.val (.ref p), .dat (.int (node : Nat)), .dat (.lst ((w0 :: w1 :: rest).map D.str))] [] σ H := st
  obtain ⟨B1, s1, o1⟩ := st
  have po1 := po.step0 s1
  have ev0 : Ev K [] [.val (.ref p), .dat (.int (node : Nat)), .dat (.lst ((w0 :: w1 :: rest).map D.str))] [] (tOp (rIx K) (tVar 2) (tC (.int 0))) (.dat (.str w0)) [] := ev_op (ev_var (i := 2) rfl) (ev_int (i := 0)) (od_ixL (atI_nat (j := 0) rfl))
  have ev1 : Ev K [] [.val (.ref p), .dat (.int (node : Nat)), .dat (.lst ((w0 :: w1 :: rest).map D.str))] [] (tOp (rIx K) (tVar 2) (tC (.int 1))) (.dat (.str w1)) [] := ev_op (ev_var (i := 2) rfl) (ev_int (i := 1)) (od_ixL (atI_nat (j := 1) rfl))
  refine st_seq ?_
  refine (et_test (ev_op ev0 ev_str od_eqS) : EvT K [] _ [] _ (decide (w0 = "shown")) []) B1 H σ o1 _ fun B2 H2 s2 o2 => ?_
  have po2 := po1.step0 s2
  obtain ⟨u0, k0, ew0⟩ := o2.sl.get 0 (.val (.ref p)) rfl (by intro z; cases z)
  cases (show u0 = .ref p from ew0)
  have s12 : Stp [] B H B2 H2 := s1.trans s2
  by_cases hw : w0 = "shown"
  · refine ifTv (decide_eq_true hw) ?_
    have hM : M' = { M with shown := M.shown ++ [(node, w1)] } := by
      have h : (if w0 = "shown" then some { M with shown := M.shown ++ [(node, w1)] } else _) = some M' := hF
      rw [if_pos hw] at h
      exact (Option.some.inj h).symm
    subst hM
    refine st_seq ?_
    refine ⟨.ref p, k0, p, CP, dx, _, .ref sh, rfl, po2.obj, cP.cl, cP.n3, lkS, po2.sl.ty, ?_⟩
    refine (ev_tup (ds := [.int (node : Nat), .str w1]) (ea_cons (ev_var (i := 1) rfl) (ea_cons ev1 ea_nil)) (by simp) : Ev K [] _ [] (tTup (tCons (tVar 1) (tCons (tOp (rIx K) (tVar 2) (tC (.int 1))) tNil))) (.dat (shownD (node, w1))) []) B2 H2 σ o2 _ fun v B3 H3 s3 o3 r3 => ?_
    have po3 := po2.step0 s3
    refine tnil_go ?_
    refine app_cell po3.sl o3.ex (by rw [List.length_map]; omega) r3 fun H4 s4 e4 l4 far4 => ?_
    try dsimp only []
    obtain ⟨np1, np2, np3, np4⟩ := po3.np
    exact q B3 H4 ((s12.mono (by simp)).trans ((s3.mono (by simp)).trans (s4.mono (by simp)))) e4 { obj := by rw [far4 _ np2]; exact po3.obj, nop := po3.nop, sch := po3.sch, nl := po3.nl.same (far4 _ po3.d1), sl := (show LC K B3 H4 sh ((M.shown ++ [(node, w1)]).map shownD) by rw [List.map_append]; exact l4), rl := po3.rl.same (far4 _ (Ne.symm po3.d4)), wl := po3.wl.same (far4 _ (Ne.symm po3.d5)), d1 := po3.d1, d2 := po3.d2, d3 := po3.d3, d4 := po3.d4, d5 := po3.d5, d6 := po3.d6 }
  · refine ifFv (decide_eq_false hw) (st_next ?_)
    try dsimp only []
    have hF : (if w0 = "range" then (match rest with
      | [a, b] => if M.ranges.length < 4 ∧ isEndF a = true ∧ isEndF b = true then some { M with ranges := M.ranges ++ [(node, w1, readEndF a, readEndF b)] } else none
      | _ => none) else (if M.nodes.length < 4 then (match (colsOf T M node).lookup w1 with
      | some (some t) => some (addF (some (node, w1)) t M)
      | _ => none) else none)) = some M' := by
      have h : (if w0 = "shown" then some { M with shown := M.shown ++ [(node, w1)] } else _) = some M' := hF
      rw [if_neg hw] at h
      exact h
    obtain ⟨u1, k1, ew1⟩ := o2.sl.get 1 (.dat (.int (node : Nat))) rfl (by intro z; cases z)
    cases (show Rp K B2 u1 (.int (node : Nat)) from ew1)
    refine (et_test (ev_op ev0 ev_str od_eqS) : EvT K [] _ [] _ (decide (w0 = "range")) []) B2 H2 σ o2 _ fun B3 H3 s3 o3 => ?_
    have po3 := po2.step0 s3
    have s13 : Stp [] B H B3 H3 := s12.trans s3
    have lk : ∀ {m : Str}, (m == ("_schema" : Str)) = false → (m == ("nodes" : Str)) = false → (m == ("shown" : Str)) = false → (m == ("ranges" : Str)) = false → (m == ("_way" : Str)) = false → List.lookup m [(("_schema" : Str), v0), ("nodes", .ref n), ("shown", .ref sh), ("ranges", .ref rg), ("_way", .ref wy)] = none := fun a b c d e => lookPV a b c d e
    by_cases hw2 : w0 = "range"
    · refine ifTv (decide_eq_true hw2) ?_
      rw [if_pos hw2] at hF
      obtain ⟨a, b, rfl⟩ : ∃ a b, rest = [a, b] := by
        match rest, hF with
        | [], h => cases h
        | [_], h => cases h
        | [a, b], _ => exact ⟨a, b, rfl⟩
        | _ :: _ :: _ :: _, h => cases h
      have hF : (if M.ranges.length < 4 ∧ isEndF a = true ∧ isEndF b = true then some { M with ranges := M.ranges ++ [(node, w1, readEndF a, readEndF b)] } else none) = some M' := hF
      by_cases hc : M.ranges.length < 4 ∧ isEndF a = true ∧ isEndF b = true
      · rw [if_pos hc] at hF
        cases hF
        obtain ⟨u2, k2, rw2⟩ := o3.sl.get 2 (.dat (.lst ([w0, w1, a, b].map D.str))) rfl (by intro z; cases z)
        refine ⟨.ref p, k0, p, dx, _, rfl, po3.obj, lk (by decide +kernel) (by decide +kernel) (by decide +kernel) (by decide +kernel) (by decide +kernel), .int (node : Nat), k1, u2, k2, ?_⟩
        refine ⟨B3, p, dx, n, sh, rg, wy, v0, T, M, u2, node, w0, w1, a, b, rfl, o3.ex, rw2, hok a (by simp), hok b (by simp), hc.1, hc.2.1, hc.2.2, po3, fun B4 H4 s4 e4 po4 => ?_⟩
        exact q B4 H4 ((s13.mono (by simp)).trans (s4.mono (by simp))) e4 po4
      · rw [if_neg hc] at hF; cases hF
    · refine ifFv (decide_eq_false hw2) ?_
      rw [if_neg hw2, hcols] at hF
      by_cases hc : M.nodes.length < 4
      · rw [if_pos hc] at hF
        obtain ⟨t, ht, hM⟩ : ∃ t, cols.lookup w1 = some (some t) ∧ addF (some (node, w1)) t M = M' := by
          cases e : cols.lookup w1 with
          | none => rw [e] at hF; cases hF
          | some o =>
            cases o with
            | none => rw [e] at hF; cases hF
            | some t => rw [e] at hF; exact ⟨t, rfl, Option.some.inj hF⟩
        subst hM
        refine ⟨.ref p, k0, p, dx, _, rfl, po3.obj, lk (by decide +kernel) (by decide +kernel) (by decide +kernel) (by decide +kernel) (by decide +kernel), .int (node : Nat), k1, ?_⟩
        refine ev1 B3 H3 σ o3 _ fun v B4 H4 s4 o4 r4 => ?_
        cases (show Rp K B4 v (.str w1) from r4)
        refine ⟨B4, p, dx, n, sh, rg, wy, v0, T, M, node, w1, cols, t, rfl, o4.ex, hc, hw4, hnd, hT, hcl, hcn, ht, po3.step0 s4, fun B5 H5 s5 e5 po5 => ?_⟩
        exact q B5 H5 ((s13.mono (by simp)).trans ((s4.mono (by simp)).trans (s5.mono (by simp)))) e5 po5
      · rw [if_neg hc] at hF; cases hF
end
end T3
/-! V5: a row of a view's text is taken. -/
namespace SP
open PySem L2 DV PM RG
variable {K : PySem.W.Frag}
theorem putF_way {a b c d e v : V} : putF "_way" v [(("_schema" : Str), a), ("nodes", b), ("shown", c), ("ranges", d), ("_way", e)] = [(("_schema" : Str), a), ("nodes", b), ("shown", c), ("ranges", d), ("_way", v)] := by
  simp only [putF, show ¬ (("_schema" : Str) = "_way") by decide +kernel, show ¬ (("nodes" : Str) = "_way") by decide +kernel, show ¬ (("shown" : Str) = "_way") by decide +kernel, show ¬ (("ranges" : Str) = "_way") by decide +kernel, if_false, if_true]
theorem sl_cell {B H : Hp} {a : Addr} {ds : List D} {lo hi : Option Int} {Q : VK} (l : LC K B H a ds) (e : Ex B H) (k : ∀ p B' H', Stp [] B H B' H' → Ex B' H' → Rp K B' (.ref p) (.lst (cutD ds lo hi)) → Q (.ref p) H') : rSl3 K (.ref a) lo hi H Q := by
  obtain ⟨vs, h1, h2, h3⟩ := l
  refine .inl ⟨a, vs, rfl, .inl (.inl h1), fun p hp => ?_⟩
  have s := stp_new (o := .lst (cutV vs lo hi)) e hp
  exact k p _ _ s e.updB (Rp.lst upd_same ((h3.cut lo hi).mono s.ex))
theorem cat_new {B H : Hp} {v u : V} {as bs : List D} {Q : VK} (e : Ex B H) (r1 : Rp K B v (.lst as)) (r2 : Rp K B u (.lst bs)) (hz : as.length + bs.length ≤ 1000000)
    (k : ∀ p vs, H p = none → RpA K B vs (as ++ bs) → Q (.ref p) (upd H p (.lst vs))) : addA K v u H Q := by
  cases r1 with
  | @lst _ xs _ ha ra => cases r2 with
    | @lst _ ys _ hb rb => exact .inr (.inr (.inl ⟨_, _, _, _, rfl, rfl, e _ _ ha, e _ _ hb, le_line (by rw [ra.length, rb.length]; exact hz), fun p hp => k p _ hp (ra.append rb)⟩))
theorem free0P {P : List Addr} {B0 H0 B H : Hp} {a : Addr} (s : Stp P B0 H0 B H) (h : H a = none) : H0 a = none := by
  cases q : H0 a with
  | none => rfl
  | some o =>
    obtain ⟨o', h'⟩ := s.dm a o q
    rw [h] at h'; cases h'
theorem cut_preN {xs : List D} {k : Nat} : cutD xs none (some (k : Int)) = xs.take k := by
  unfold cutD
  rw [HT.sIx_none, HT.sIx_nat, List.drop_zero, Nat.sub_zero]
  exact (List.take_eq_take_iff).mpr (by omega)
theorem cut_lastN {xs : List D} : cutD xs (some (-1)) none = xs.drop (xs.length - 1) := by
  unfold cutD
  rw [HT.sIx_none]
  have : HT.sIx xs.length 0 (some (-1)) = xs.length - 1 := by
    show (if (-1 : Int) < 0 then ((-1 : Int) + (xs.length : Int)).toNat else min (-1 : Int).toNat xs.length) = _
    rw [if_pos (by omega)]
    omega
  rw [this, List.take_of_length_le (by rw [List.length_drop]; exact Nat.le_refl _)]
theorem od_leTN {a b : Nat × Nat} : OpD K (rLeT K) (.dat (rankD a)) (.dat (rankD b)) (.dat (.bl (!ltRank b a))) := fun B H x y e h1 h2 Q q => by
  have a' : Rp K B x (rankD a) := h1
  have b' : Rp K B y (rankD b) := h2
  unfold rankD at a' b'
  cases a' with
  | @tup p xs _ ha ra =>
    cases ra with
    | cons w1 r =>
      cases w1
      cases r with
      | cons w2 r => cases w2; cases r; cases b' with
        | @tup p2 ys _ hb rb =>
          cases rb with
          | cons u1 r' =>
            cases u1
            cases r' with
            | cons u2 r' =>
              cases u2; cases r'
              refine ⟨_, _, [(a.1 : Int), (a.2 : Int)], [(b.1 : Int), (b.2 : Int)], rfl, rfl, .inl (RdEx e ha), .inl (RdEx e hb), ?_⟩
              have key : (Ob.lexAt (fun j => decide ([(a.1 : Int), (a.2 : Int)].getD j 0 = [(b.1 : Int), (b.2 : Int)].getD j 0)) (fun j => decide ([(a.1 : Int), (a.2 : Int)].getD j 0 ≤ [(b.1 : Int), (b.2 : Int)].getD j 0)) (decide ([(a.1 : Int), (a.2 : Int)].length ≤ [(b.1 : Int), (b.2 : Int)].length)) 0 (min [(a.1 : Int), (a.2 : Int)].length [(b.1 : Int), (b.2 : Int)].length)) = (!ltRank b a) := by
                show (if decide ((a.1 : Int) = (b.1 : Int)) = true then (if decide ((a.2 : Int) = (b.2 : Int)) = true then true else decide ((a.2 : Int) ≤ (b.2 : Int))) else decide ((a.1 : Int) ≤ (b.1 : Int))) = _
                unfold ltRank
                obtain ⟨a1, a2⟩ := a
                obtain ⟨b1, b2⟩ := b
                dsimp only
                by_cases e1 : a1 = b1
                · subst e1
                  rw [if_pos (by simp)]
                  by_cases e2 : a2 = b2
                  · subst e2; simp
                  · rw [if_neg (by simp; omega), Bool.eq_iff_iff]
                    simp
                · rw [if_neg (by simp; omega), Bool.eq_iff_iff]
                  simp
                  omega
              rw [key]
              exact q _ B H (Stp.refl _ _ _) e (.bl _)
theorem kept_way {T : List Tab} {node : Nat} {words : List Str} {M M' : PtM} (h : wordsF T node words M = some M') : M.way.length ≤ M'.way.length ∧ M'.way.length ≤ M.way.length + 1 := by
  unfold wordsF at h
  split at h
  · split at h
    · cases h; exact ⟨Nat.le_refl _, Nat.le_succ _⟩
    · split at h
      · split at h
        · split at h
          · cases h; exact ⟨Nat.le_refl _, Nat.le_succ _⟩
          · cases h
        · cases h
      · split at h
        · split at h
          · cases h
            refine ⟨?_, ?_⟩ <;> (show _ ≤ _; simp [addF])
          · cases h
        · cases h
  · cases h
end SP
namespace T3
open PySem L2 DV PM SP
section
variable {P : Program} {w : World} {K : PySem.W.Frag} {mg : Str → Option Value} {base : Heap} {C CP : Addr}
theorem ok_ppart {f fR fW : Addr} {fd fdR fdW : FuncData} (F : Fun K "_takes_part" "Parts._takes_part" s_Parts_takes_part f fd) (cP : PartsCls K CP) (cls_P : Cls K CP) (M__rank : Meth K CP "_rank" fR) (G__rank : FnOk P w K mg base CX0 3 fR fdR ["self", "node", "words"] (spM K (preRank CP C))) (B__rank : Binds K fdR ["self", "node", "words"] []) (M__takes_words : Meth K CP "_takes_words" fW) (G__takes_words : FnOk P w K mg base CX0 5 fW fdW ["self", "node", "words"] (spWords K CP C)) (B__takes_words : Binds K fdW ["self", "node", "words"] []) : FnOk P w K mg base CX0 6 f fd ["self", "level", "words"] (spPart K CP C) := by
  refine F.ok sc_Parts_takes_part (fun vs H Q E h => ?_) (fun cdv A outer s H vs Q E hr h => ?_)
  · obtain ⟨B, p, dx, n, sh, rg, wy, v0, T, M, M', vw, level, words, k, rfl, _⟩ := h
    rfl
  have nd := sc_Parts_takes_part.nd
  refine ⟨_, (pss_cons (ps_asg (pe_ix ix_seq (pe_fld (pv 0) rfl) (pv 1) (fun _ _ => rfl)) (pg_tup (by rfl) (by exact (pgs_cons (by exact (pg_name (i := 3) nd (by rfl) (by first | exact .inl rfl | exact .inr rfl))) (by exact (pgs_cons (by exact (pg_name (i := 4) nd (by rfl) (by first | exact .inl rfl | exact .inr rfl))) (by exact pgs_nil)))))))
      (pss_cons (ps_set (i := 5) nd rfl (.inl rfl) (pe_meth (pv 0) cls_P M__rank G__rank (hr.mono (by decide)) B__rank .nil pass0 (pa_cons (pv 3) (pa_cons (pv 2) pa_nil))))
      (pss_cons (ps_if (PW.pt (pw_or (pt_cmpR op_isN' (pv 5) pe_non (nomark _)) (pw_or1 (pt_cmpR (op_leT (roomU hr)) (pv 5) (pv 4) (nomark _))))) (pss_one (ps_ret pe_bl)) pss_nil)
      (pss_cons (ps_if (pt_not (pt_val (pe_meth (pv 0) cls_P M__takes_words G__takes_words (hr.mono (by decide)) B__takes_words .nil pass0 (pa_cons (pv 3) (pa_cons (pv 2) pa_nil))))) (pss_one (ps_ret pe_bl)) pss_nil)
      (pss_cons (ps_set (i := 6) nd rfl (.inl rfl) (pe_ifExp (pt_cmpR (op_eqA hr.units) (pe_ix ix_seq (pv 2) pe_int (fun _ _ => rfl)) pe_str (nomark _)) (pe_slice sl_3 (pe_fld (pv 0) rfl) (po_some (pe_un un_neg pe_int)) po_none) (pe_lst pa_nil)))
      (pss_cons (ps_fld (pv 0) (pe_op op_addA (pe_op op_addA (pe_slice sl_3 (pe_fld (pv 0) rfl) po_none (po_some (pv 1))) (pe_lst (pa_cons (pe_tup (pa_cons (pv 3) (pa_cons (pv 5) pa_nil))) pa_nil))) (pv 6)) rfl)
      (pss_one (ps_ret pe_bl)))))))), ?_⟩
  obtain ⟨B, p, dx, n, sh, rg, wy, v0, T, M, M', vw, level, words, k, rfl, e0, rw0, hok, po, hTn, hcn, mok, hk9, hF, q⟩ := h
  -- what the model says
  obtain ⟨node, last, hway, rank, hrank, hlt, M1, hM1, hM'⟩ : ∃ node last, M.way[level]? = some (node, last) ∧ ∃ rank, rankF T M node words = some rank ∧ ltRank last rank = true ∧ ∃ M1, wordsF T node words M = some M1 ∧ M' = { M1 with way := M1.way.take level ++ [(node, rank)] ++ (if words.head? = some "follow" then M1.way.drop (M1.way.length - 1) else []) } := by
    unfold partF at hF
    cases e : M.way[level]? with
    | none => rw [e] at hF; cases hF
    | some nl =>
      obtain ⟨node, last⟩ := nl
      rw [e] at hF
      refine ⟨node, last, rfl, ?_⟩
      dsimp only at hF
      cases e2 : rankF T M node words with
      | none => rw [e2] at hF; cases hF
      | some rank =>
        rw [e2] at hF
        dsimp only at hF
        refine ⟨rank, rfl, ?_⟩
        by_cases hl : ltRank last rank = true
        · rw [if_pos hl] at hF
          refine ⟨hl, ?_⟩
          cases e3 : wordsF T node words M with
          | none => rw [e3] at hF; cases hF
          | some M1 => rw [e3] at hF; exact ⟨M1, rfl, (Option.some.inj hF).symm⟩
        · rw [if_neg hl] at hF; cases hF
  obtain ⟨w0, w1, rest, kk, z, j, rfl, hkz, hrz, hj, rfl⟩ : ∃ w0 w1 rest kk z j, words = w0 :: w1 :: rest ∧ kindOf w0 = some (kk, z) ∧ rest.length + 2 = z ∧ firstAt w1 (namesAt (colsOf T M node) w0) = some j ∧ rank = (kk, 1 + j) := by
    unfold rankF at hrank
    match words, hrank with
    | [], h => cases h
    | [_], h => cases h
    | w0 :: w1 :: rest, h =>
      dsimp only at h
      cases e : kindOf w0 with
      | none => rw [e] at h; cases h
      | some kz =>
        obtain ⟨kk, z⟩ := kz
        rw [e] at h
        dsimp only at h
        by_cases hz : rest.length + 2 = z
        · rw [if_pos hz] at h
          cases e2 : firstAt w1 (namesAt (colsOf T M node) w0) with
          | none => rw [e2] at h; cases h
          | some j => rw [e2] at h; exact ⟨w0, w1, rest, kk, z, j, rfl, e, hz, e2, (Option.some.inj h).symm⟩
        · rw [if_neg hz] at h; cases h
  have hlw : level < M.way.length := (List.getElem?_eq_some_iff.mp hway).1
  have hnd : node < M.nodes.length := mok.way _ (List.mem_of_getElem? hway)
  obtain ⟨cols, hT, hcN, hcL⟩ : ∃ cols, T.lookup (tabAt M node) = some cols ∧ (cols.map (·.1)).Nodup ∧ cols.length ≤ 1000 := by
    have hm : tabAt M node ∈ T.map (·.1) := by
      have : tabAt M node = M.nodes[node].2 := by unfold tabAt; rw [List.getD_eq_getElem?_getD, List.getElem?_eq_getElem hnd]; rfl
      rw [this]
      exact mok.tab _ (List.getElem_mem hnd)
    obtain ⟨t, ht, he⟩ := List.mem_map.mp hm
    have := lookup_mem hTn ht
    rw [he] at this
    exact ⟨t.2, this, hcn t ht⟩
  have hcols : colsOf T M node = cols := by unfold colsOf; rw [show (M.nodes.getD node (none, Str.empty)).2 = tabAt M node from rfl, hT]; rfl
  rw [hcols] at hj
  have st := sta_start (vs := [.ref p, .int (level : Nat), vw]) (N := N_Parts_takes_part) (K := K) (P := []) (cs := []) (rs := [.val (.ref p), .dat (.int (level : Nat)), .dat (.lst ((w0 :: w1 :: rest).map D.str))]) e0 ⟨rfl, .int _, rw0, True.intro⟩ True.intro
  generalize L2.start N_Parts_takes_part [V.ref p, .int (level : Nat), vw] = σ at st ⊢
  have st : Sta K [] B H [.val (.ref p), .dat (.int (level : Nat)), .dat (.lst ((w0 :: w1 :: rest).map D.str)), .any, .any, .any, .any] [] σ H := st
  obtain ⟨B1, s1, o1⟩ := st
  have po1 := po.step0 s1
  -- node, last
  refine st_seq ?_
  refine po1.read (i := 0) (te := tOp (rIx K) (tFld K (tVar 0) "_way") (tVar 1)) (d := wayD (node, last)) o1 rfl (ev_op (ev_pway cP (i := 0) rfl) (ev_var (i := 1) rfl) (od_ixL (atI_nat (by rw [List.getElem?_map, hway]; rfl)))) rfl fun v B2 H2 s2 o2 po2 r2 => ?_
  refine (g_tup (g_cons g_name (g_cons g_name g_nil)) : GR K _ _ (.tup [.int (node : Nat), rankD last]) _ _) B2 H2 σ v o2.ex o2.sl r2 _ fun σ2 sl2 _ => ?_
  have sl2 : Slots K B2 σ2 [.val (.ref p), .dat (.int (level : Nat)), .dat (.lst ((w0 :: w1 :: rest).map D.str)), .dat (.int (node : Nat)), .dat (rankD last), .any, .any] := sl2
  have o2 : Okk K [] [.val (.ref p), .dat (.int (level : Nat)), .dat (.lst ((w0 :: w1 :: rest).map D.str)), .dat (.int (node : Nat)), .dat (rankD last), .any, .any] [] B2 H2 σ2 := ⟨o2.ex, sl2, True.intro⟩
  try dsimp only []
  -- rank
  refine st_seq ?_
  refine po2.read (i := 0) (te := tMeth CP "_rank" (spM K (preRank CP C)) [] E0 (tVar 0) (tCons (tVar 3) (tCons (tVar 2) tNil))) (d := rankD (kk, 1 + j)) o2 rfl (ev_meth1 (ev_var (i := 0) rfl) (lookP (by decide +kernel) (by decide +kernel) (by decide +kernel) (by decide +kernel) (by decide +kernel)) (ea_cons (ev_var (i := 3) rfl) (ea_cons (ev_var (i := 2) rfl) ea_nil)) ⟨T, M, node, cols, w0, w1, rest, kk, z, j, rfl, hnd, hT, hcL, hkz, hrz, hj, rfl, rfl, rfl, rfl⟩) rfl fun v B3 H3 s3 o3 po3 r3 => ?_
  refine (g_name : GR K _ (gName 5) (rankD (kk, 1 + j)) _ _) B3 H3 σ2 v o3.ex o3.sl r3 _ fun σ3 sl3 _ => ?_
  have o3 : Okk K [] [.val (.ref p), .dat (.int (level : Nat)), .dat (.lst ((w0 :: w1 :: rest).map D.str)), .dat (.int (node : Nat)), .dat (rankD last), .dat (rankD (kk, 1 + j)), .any] [] B3 H3 σ3 := ⟨o3.ex, sl3, True.intro⟩
  try dsimp only []
  -- rank is None or rank <= last
  refine st_seq ?_
  refine (et_or (a := false) (et_test (ev_op (ev_var (i := 5) rfl) ev_non od_isN)) (fun _ => et_test (Ev.eq (ev_op (ev_var (i := 5) rfl) (ev_var (i := 4) rfl) od_leTN) (by rw [hlt]; rfl))) : EvT K [] _ [] _ (false || false) []) B3 H3 σ3 o3 _ fun B4 H4 s4 o4 => ?_
  refine ifFv rfl (st_next ?_)
  try dsimp only []
  have po4 := po3.step0 s4
  -- self._takes_words(node, words)
  obtain ⟨u0, k0, ew0⟩ := o4.sl.get 0 (.val (.ref p)) rfl (by intro z; cases z)
  cases (show u0 = .ref p from ew0)
  obtain ⟨u3, k3, ew3⟩ := o4.sl.get 3 (.dat (.int (node : Nat))) rfl (by intro z; cases z)
  cases (show Rp K B4 u3 (.int (node : Nat)) from ew3)
  obtain ⟨u2, k2, rw2⟩ := o4.sl.get 2 (.dat (.lst ((w0 :: w1 :: rest).map D.str))) rfl (by intro z; cases z)
  have rw2 : Rp K B4 u2 (.lst ((w0 :: w1 :: rest).map D.str)) := rw2
  refine st_seq ?_
  refine ⟨.ref p, k0, p, dx, _, rfl, po4.obj, lookPV (by decide +kernel) (by decide +kernel) (by decide +kernel) (by decide +kernel) (by decide +kernel), .int (node : Nat), k3, u2, k2, ?_⟩
  refine ⟨B4, p, dx, n, sh, rg, wy, v0, T, M, M1, u2, node, w0 :: w1 :: rest, cols, rfl, o4.ex, rw2, hok, po4, mok.nl, by have := mok.wl; omega, by have := mok.sl; omega, hnd, hT, hcL, hcN, hM1, fun B5 H5 s5 e5 po5 => ?_⟩
  refine ⟨true, rfl, ?_⟩
  refine ifFv rfl (st_next ?_)
  try dsimp only []
  have o5 : Okk K [] [.val (.ref p), .dat (.int (level : Nat)), .dat (.lst ((w0 :: w1 :: rest).map D.str)), .dat (.int (node : Nat)), .dat (rankD last), .dat (rankD (kk, 1 + j)), .any] [] B5 H5 σ3 := ⟨e5, o4.sl.mono s5.ex, True.intro⟩
  obtain ⟨hwl1, hwl2⟩ := kept_way hM1
  -- added
  refine st_seq ?_
  have hadd : ∀ (Q : VK), (∀ v B' H', Stp [] B5 H5 B' H' → Ex B' H' → Rp K B' v (.lst (((if (w0 :: w1 :: rest).head? = some "follow" then M1.way.drop (M1.way.length - 1) else [])).map wayD)) → Q v H') → tIf (tTest (tOp (eqA K) (tOp (rIx K) (tVar 2) (tC (.int 0))) (tC (.str "follow")))) (tSl (rSl3 K) (tFld K (tVar 0) "_way") (tPart (tUn (rU fun i => .int (-i)) (tC (.int 1)))) tNoPart) (tLst tNil) σ3 H5 Q := fun Q kq => by
    refine (et_test (ev_op (ev_op (ev_var (i := 2) rfl) (ev_int (i := 0)) (od_ixL (atI_nat (j := 0) rfl))) ev_str od_eqS) : EvT K [] _ [] _ (decide (w0 = "follow")) []) B5 H5 σ3 o5 _ fun B6 H6 s6 o6 => ?_
    have po6 := po5.step0 s6
    by_cases hw : w0 = "follow"
    · refine ifTv (decide_eq_true hw) ?_
      rw [if_pos (by rw [hw]; rfl)] at kq
      refine ⟨.ref p, k0, p, CP, dx, _, .ref wy, rfl, po6.obj, cP.cl, cP.n5, lkW, ?_⟩
      refine ⟨1, rfl, _, rfl, ?_⟩
      show rSl3 K (.ref wy) (some (-1)) none H6 Q
      refine sl_cell po6.wl o6.ex fun a B7 H7 s7 e7 r7 => ?_
      rw [cut_lastN, List.length_map, ← List.map_drop] at r7
      exact kq _ B7 H7 (s6.trans s7) e7 r7
    · refine ifFv (decide_eq_false hw) ?_
      rw [if_neg (fun z => hw (by simpa using z))] at kq
      exact (ev_lst (ds := []) ea_nil (by simp) : Ev K [] _ [] (tLst tNil) (.dat (.lst [])) []) B6 H6 σ3 o6 _ fun v B7 H7 s7 o7 r7 => kq v B7 H7 (s6.trans s7) o7.ex r7
  refine hadd _ fun v B6 H6 s6 e6 r6 => ?_
  clear hadd
  have po6 := po5.step0 s6
  refine (g_name : GR K _ (gName 6) (.lst _) _ _) B6 H6 σ3 v e6 (o5.sl.mono s6.ex) r6 _ fun σ4 sl4 _ => ?_
  generalize hAD : (if (w0 :: w1 :: rest).head? = some "follow" then M1.way.drop (M1.way.length - 1) else []) = AD at r6 sl4 hM'
  have hADl : AD.length ≤ M1.way.length := by
    rw [← hAD]
    split
    · rw [List.length_drop]; omega
    · exact Nat.zero_le _
  have o6 : Okk K [] [.val (.ref p), .dat (.int (level : Nat)), .dat (.lst ((w0 :: w1 :: rest).map D.str)), .dat (.int (node : Nat)), .dat (rankD last), .dat (rankD (kk, 1 + j)), .dat (.lst (AD.map wayD))] [] B6 H6 σ4 := ⟨e6, sl4, True.intro⟩
  try dsimp only []
  -- self._way = ..
  obtain ⟨u0, j0, ew0⟩ := o6.sl.get 0 (.val (.ref p)) rfl (by intro z; cases z)
  cases (show u0 = .ref p from ew0)
  obtain ⟨u1, j1, ew1⟩ := o6.sl.get 1 (.dat (.int (level : Nat))) rfl (by intro z; cases z)
  cases (show Rp K B6 u1 (.int (level : Nat)) from ew1)
  refine st_seq ?_
  refine ⟨.ref p, j0, p, CP, dx, _, .ref wy, rfl, po6.obj, cP.cl, cP.n5, lkW, ?_⟩
  refine ⟨.int (level : Nat), j1, _, rfl, ?_⟩
  refine sl_cell po6.wl o6.ex fun a B7 H7 s7 e7 r7 => ?_
  rw [cut_preN, ← List.map_take] at r7
  have o7 := o6.step0 s7 e7
  have po7 := po6.step0 s7
  refine (ev_lst (ds := [wayD (node, kk, 1 + j)]) (ea_cons (ev_tup (ds := [.int (node : Nat), rankD (kk, 1 + j)]) (ea_cons (ev_var (i := 3) rfl) (ea_cons (ev_var (i := 5) rfl) ea_nil)) (by simp)) ea_nil) (by simp) : Ev K [] _ [] (tLst (tCons (tTup (tCons (tVar 3) (tCons (tVar 5) tNil))) tNil)) (.dat (.lst [wayD (node, kk, 1 + j)])) []) B7 H7 σ4 o7 _ fun b B8 H8 s8 o8 r8 => ?_
  have po8 := po7.step0 s8
  have hl1 : (M1.way.take level).length ≤ 1000 := by rw [List.length_take]; have := mok.wl; omega
  refine od_addL (as := (M1.way.take level).map wayD) (bs := [wayD (node, kk, 1 + j)]) (by rw [List.length_map, List.length_singleton]; omega) B8 H8 _ _ o8.ex (r7.mono s8.ex) r8 _ fun c B9 H9 s9 e9 r9 => ?_
  have o9 := o8.step0 s9 e9
  have po9 := po8.step0 s9
  obtain ⟨u6, j6, rw6⟩ := o9.sl.get 6 (.dat (.lst (AD.map wayD))) rfl (by intro z; cases z)
  refine ⟨u6, j6, ?_⟩
  refine cat_new e9 r9 rw6 (by rw [List.length_append, List.length_map, List.length_map, List.length_singleton]; have := mok.wl; omega) fun a2 vs ha2 rv => ?_
  have hpa : p ≠ a2 := fun z => by rw [← z, po9.obj] at ha2; cases ha2
  refine ⟨.ref p, j0, p, CP, dx, _, rfl, by rw [upd_ne hpa]; exact po9.obj, cP.cl, cP.n5, by simp, ?_⟩
  rw [putF_way]
  have cell : ∀ {x : Addr} {ds : List D}, LC K B9 H9 x ds → x ≠ a2 := fun {x ds} l z => by
    obtain ⟨us, h1, _⟩ := l
    rw [z, ha2] at h1; cases h1
  obtain ⟨np1, np2, np3, np4⟩ := po9.np
  have sT : Stp [p, n, sh, rg, wy] B H B9 H9 := (((s1.mono (by simp)).trans (s2.mono (by simp))).trans ((s3.mono (by simp)).trans (s4.mono (by simp)))).trans ((((s5.mono (fun x hx => List.mem_cons_of_mem _ hx)).trans (s6.mono (by simp))).trans ((s7.mono (by simp)).trans (s8.mono (by simp)))).trans (s9.mono (by simp)))
  have sA : Stp [p, n, sh, rg, wy] B9 H9 B9 (upd H9 a2 (.lst vs)) := (stp_upd (Stp.refl _ _ _) ha2).mono (by simp)
  have hpA : upd H9 a2 (.lst vs) p = some (.ins CP dx [("_schema", v0), ("nodes", .ref n), ("shown", .ref sh), ("ranges", .ref rg), ("_way", .ref wy)]) := by rw [upd_ne hpa]; exact po9.obj
  have eA : Ex B9 (upd H9 a2 (.lst vs)) := ex_upd e9 (e9.free ha2)
  have rv2 : RpA K B9 vs (M'.way.map wayD) := by
    rw [hM']
    show RpA K B9 vs ((M1.way.take level ++ [(node, kk, 1 + j)] ++ AD).map wayD)
    rw [List.map_append, List.map_append]
    exact rv
  have eM : M'.nodes = M1.nodes ∧ M'.shown = M1.shown ∧ M'.ranges = M1.ranges := by rw [hM']; exact ⟨rfl, rfl, rfl⟩
  try dsimp only []
  show Q (.bl true) _
  refine q a2 B9 _ ((sT.trans sA).trans ((stp_write (o' := .ins CP dx [("_schema", v0), ("nodes", .ref n), ("shown", .ref sh), ("ranges", .ref rg), ("_way", .ref a2)]) hpA).mono (by simp))) (ex_upd eA po9.nop) { obj := upd_same, nop := po9.nop, sch := po9.sch, nl := by rw [eM.1]; exact po9.nl.same (by rw [upd_ne (Ne.symm np1), upd_ne (cell po9.nl)]), sl := by rw [eM.2.1]; exact po9.sl.same (by rw [upd_ne (Ne.symm np2), upd_ne (cell po9.sl)]), rl := by rw [eM.2.2]; exact po9.rl.same (by rw [upd_ne (Ne.symm np3), upd_ne (cell po9.rl)]), wl := ⟨vs, by rw [upd_ne (Ne.symm hpa), upd_same], e9.free ha2, rv2⟩, d1 := po9.d1, d2 := po9.d2, d3 := cell po9.nl, d4 := po9.d4, d5 := cell po9.sl, d6 := cell po9.rl } (.inr (free0P sT ha2))
end
end T3
/-! V6: a row of a view's text is taken, at any indent. -/
namespace SP
open PySem L2 DV PM RG
variable {K : PySem.W.Frag}
theorem cut_sufN {xs : List D} {k : Nat} : cutD xs (some (k : Int)) none = xs.drop k := by
  unfold cutD
  rw [HT.sIx_none, HT.sIx_nat, List.take_of_length_le (by rw [List.length_drop]; exact Nat.le_refl _)]
  by_cases h : k ≤ xs.length
  · rw [Nat.min_eq_left h]
  · rw [Nat.min_eq_right (by omega), List.drop_of_length_le (Nat.le_refl _), List.drop_of_length_le (by omega)]
end SP
namespace T3
open PySem L2 DV PM SP
section
variable {P : Program} {w : World} {K : PySem.W.Frag} {mg : Str → Option Value} {base : Heap} {C CP : Addr}
theorem ok_ptakes {f fR fW : Addr} {fd fdR fdW : FuncData} (F : Fun K "takes" "Parts.takes" s_Parts_takes f fd) (cP : PartsCls K CP) (cls_P : Cls K CP) (M__takes_root : Meth K CP "_takes_root" fR) (G__takes_root : FnOk P w K mg base CX0 2 fR fdR ["self", "words"] (spRoot K CP C)) (B__takes_root : Binds K fdR ["self", "words"] []) (M__takes_part : Meth K CP "_takes_part" fW) (G__takes_part : FnOk P w K mg base CX0 6 fW fdW ["self", "level", "words"] (spPart K CP C)) (B__takes_part : Binds K fdW ["self", "level", "words"] []) (b_len : mg "len" = none) : FnOk P w K mg base CX0 7 f fd ["self", "number", "row"] (spTakes K CP C) := by
  refine F.ok sc_Parts_takes (fun vs H Q E h => ?_) (fun cdv A outer s H vs Q E hr h => ?_)
  · obtain ⟨B, p, dx, n, sh, rg, wy, v0, T, M, M', number, row, k, rfl, _⟩ := h
    rfl
  have nd := sc_Parts_takes.nd
  refine ⟨_, (pss_cons (ps_set (i := 3) nd rfl (.inl rfl) (pe_split (pv 2) pe_str))
      (pss_cons (ps_if (pt_cmpR (op_eqA hr.units) (pv 1) pe_int (nomark _)) (pss_one (ps_ret (pe_meth (pv 0) cls_P M__takes_root G__takes_root (hr.mono (by decide)) B__takes_root .nil pass0 (pa_cons (pv 3) pa_nil)))) pss_nil)
      (pss_cons (ps_set (i := 4) nd rfl (.inl rfl) (pe_op op_sub (pe_callB call_len1 (by rfl) b_len PySem.boot_len (pa_cons (pv 2) pa_nil)) (pe_callB call_len1 (by rfl) b_len PySem.boot_len (pa_cons (pe_m1 PySem.F.slot_str_lstrip PySem.F.type_str_lstrip mt_lstripChars (pv 2) pe_str) pa_nil))))
      (pss_cons (ps_set (i := 5) nd rfl (.inl rfl) (pe_op op_sub (pe_op op_fdivN (pv 4) pe_int) pe_int))
      (pss_cons (ps_if (PW.pt (pw_or (pt_cmpR (op_neA hr.units) (pv 4) (pe_op op_addA (pe_op op_mul pe_int (pv 5)) pe_int) (nomark _)) (pw_or1 (pt_not (pt_chain op_le op_lt pe_int (pv 5) (pe_callB call_len1 (by rfl) b_len PySem.boot_len (pa_cons (pe_fld (pv 0) rfl) pa_nil))))))) (pss_one (ps_ret pe_bl)) pss_nil)
      (pss_one (ps_ret (pe_meth (pv 0) cls_P M__takes_part G__takes_part (hr.mono (by decide)) B__takes_part .nil pass0 (pa_cons (pv 5) (pa_cons (pe_slice sl_3 (pv 3) (po_some (pv 4)) po_none) pa_nil)))))))))), ?_⟩
  obtain ⟨B, p, dx, n, sh, rg, wy, v0, T, M, M', number, row, k, rfl, e0, hrl, hok, po, hsT, hcn, mok, hk9, hF, q⟩ := h
  have st := sta_start (vs := [.ref p, .int (number : Nat), .str row]) (N := N_Parts_takes) (K := K) (P := []) (cs := []) (rs := [.val (.ref p), .dat (.int (number : Nat)), .dat (.str row)]) e0 ⟨rfl, .int _, .str _, True.intro⟩ True.intro
  generalize L2.start N_Parts_takes [V.ref p, .int (number : Nat), .str row] = σ at st ⊢
  have st : Sta K [] B H [.val (.ref p), .dat (.int (number : Nat)), .dat (.str row), .any, .any, .any] [] σ H := st
  obtain ⟨B1, s1, o1⟩ := st
  have po1 := po.step0 s1
  refine st_seq ?_
  refine (EvF.ev (ev_split (ev_var (i := 2) rfl) ev_str (by decide +kernel) (by omega)) : Ev K [] _ [] _ (.dat (.lst ((Txt.split row " ").map D.str))) []) B1 H σ o1 _ fun v B2 H2 s2 o2 r2 => ?_
  refine (g_name : GR K _ (gName 3) (.lst ((Txt.split row " ").map D.str)) _ _) B2 H2 σ v o2.ex o2.sl r2 _ fun σ2 sl2 _ => ?_
  have po2 := po1.step0 s2
  have o2 : Okk K [] [.val (.ref p), .dat (.int (number : Nat)), .dat (.str row), .dat (.lst ((Txt.split row " ").map D.str)), .any, .any] [] B2 H2 σ2 := ⟨o2.ex, sl2, True.intro⟩
  try dsimp only []
  refine st_seq ?_
  refine (et_test (Ev.eq (ev_op (ev_var (i := 1) rfl) ev_int od_eqI) (by rfl)) : EvT K [] _ [] _ (decide ((number : Int) = 0)) []) B2 H2 σ2 o2 _ fun B3 H3 s3 o3 => ?_
  have po3 := po2.step0 s3
  obtain ⟨u0, k0, ew0⟩ := o3.sl.get 0 (.val (.ref p)) rfl (by intro z; cases z)
  cases (show u0 = .ref p from ew0)
  have s13 : Stp [] B H B3 H3 := (s1.trans s2).trans s3
  unfold takesF at hF
  have hw1 : M.way.length ≤ 1000 := by have := mok.wl; omega
  by_cases hn : number = 0
  · refine ifTv (by simp [hn]) ?_
    rw [if_pos hn] at hF
    obtain ⟨a, b, hab, hF⟩ : ∃ a b, Txt.split row " " = [a, b] ∧ (if a = ("view" : Str) ∧ b ∈ T.map (·.1) then some (addF none b M) else none) = some M' := by
      generalize Txt.split row " " = l at hF
      match l, hF with
      | [], h => cases h
      | [_], h => cases h
      | [a, b], h => exact ⟨a, b, rfl, h⟩
      | _ :: _ :: _ :: _, h => cases h
    by_cases hc : a = "view" ∧ b ∈ T.map (·.1)
    · rw [if_pos hc] at hF
      cases hF
      obtain ⟨u3, k3, rw3⟩ := o3.sl.get 3 (.dat (.lst ((Txt.split row " ").map D.str))) rfl (by intro z; cases z)
      have rw3 : Rp K B3 u3 (.lst ((Txt.split row " ").map D.str)) := rw3
      rw [hab, hc.1] at rw3
      refine ⟨.ref p, k0, p, dx, _, rfl, po3.obj, lookPV (by decide +kernel) (by decide +kernel) (by decide +kernel) (by decide +kernel) (by decide +kernel), u3, k3, ?_⟩
      refine ⟨B3, p, dx, n, sh, rg, wy, v0, T, M, u3, b, rfl, o3.ex, rw3, hc.2, po3, mok.nl, hw1, fun B4 H4 s4 e4 po4 => ?_⟩
      exact q wy B4 H4 ((s13.mono (by simp)).trans (s4.mono (by intro x hx; simp only [List.mem_cons, List.not_mem_nil, or_false] at hx ⊢; rcases hx with h | h <;> simp [h]))) e4 po4 (.inl rfl)
    · rw [if_neg hc] at hF; cases hF
  · refine ifFv (by simp [hn]) (st_next ?_)
    try dsimp only []
    rw [if_neg hn] at hF
    dsimp only at hF
    generalize hin : row.length - (Txt.lstripChars row " ").length = indent at hF
    by_cases hc : indent % 2 = 0 ∧ 2 ≤ indent ∧ indent / 2 - 1 < M.way.length
    · rw [if_pos hc] at hF
      obtain ⟨hc1, hc2, hc3⟩ := hc
      have hlen : (Txt.lstripChars row " ").length ≤ 10000 := by omega
      -- indent
      refine st_seq ?_
      refine (Ev.eq (ev_op (ev_cb (ea_cons (ev_var (i := 2) rfl) ea_nil) (cb_lenS (by omega))) (ev_cb (ea_cons (ev_m1 (ev_var (i := 2) rfl) ev_str (fun H Q q => ⟨_, _, rfl, rfl, le_line (by omega), q _ (.str _)⟩)) ea_nil) (cb_lenS (by omega))) od_subI) (by rw [show ((row.length : Int) - ((Txt.lstripChars row " ").length : Int)) = (indent : Int) by omega]) : Ev K [] _ [] _ (.dat (.int (indent : Nat))) []) B3 H3 σ2 o3 _ fun v B4 H4 s4 o4 r4 => ?_
      refine (g_name : GR K _ (gName 4) (.int (indent : Nat)) _ _) B4 H4 σ2 v o4.ex o4.sl r4 _ fun σ3 sl3 _ => ?_
      have po4 := po3.step0 s4
      have o4 : Okk K [] [.val (.ref p), .dat (.int (number : Nat)), .dat (.str row), .dat (.lst ((Txt.split row " ").map D.str)), .dat (.int (indent : Nat)), .any] [] B4 H4 σ3 := ⟨o4.ex, sl3, True.intro⟩
      try dsimp only []
      -- level
      refine st_seq ?_
      refine (Ev.eq (ev_op (ev_op (ev_var (i := 4) rfl) ev_int (od_I (d := .int ((indent : Int).fdiv 2)) (by exact ⟨by decide, by decide⟩) fun _ => .int _)) ev_int od_subI) (by rw [show ((indent : Int).fdiv 2 - 1) = ((indent / 2 - 1 : Nat) : Int) by rw [Int.fdiv_eq_ediv_of_nonneg _ (by decide)]; omega]) : Ev K [] _ [] _ (.dat (.int ((indent / 2 - 1 : Nat) : Int))) []) B4 H4 σ3 o4 _ fun v B5 H5 s5 o5 r5 => ?_
      refine (g_name : GR K _ (gName 5) (.int ((indent / 2 - 1 : Nat) : Int)) _ _) B5 H5 σ3 v o5.ex o5.sl r5 _ fun σ4 sl4 _ => ?_
      have po5 := po4.step0 s5
      generalize hlv : indent / 2 - 1 = level at hF hc3 sl4
      have o5 : Okk K [] [.val (.ref p), .dat (.int (number : Nat)), .dat (.str row), .dat (.lst ((Txt.split row " ").map D.str)), .dat (.int (indent : Nat)), .dat (.int (level : Nat))] [] B5 H5 σ4 := ⟨o5.ex, sl4, True.intro⟩
      try dsimp only []
      refine st_seq ?_
      refine po5.readT (i := 0) (b := false || false) o5 rfl (et_or (et_test (Ev.eq (ev_op (ev_var (i := 4) rfl) (ev_op (ev_op ev_int (ev_var (i := 5) rfl) (od_mulI (.inl (by decide)))) ev_int od_addI) od_neI) (by rw [decide_eq_true (by omega)]; rfl))) (fun _ => et_notF (et_test (Ev.eq (ev_chain (cs3 := []) ev_int (ev_var (i := 5) rfl) (fun _ => ev_cb (ea_cons (ev_pway cP rfl) ea_nil) cb_lenL)) (by
        rw [List.length_map, decide_eq_true (by omega), decide_eq_true (by omega)]; rfl))))) fun B6 H6 s6 o6 po6 => ?_
      refine ifFv rfl (st_next ?_)
      try dsimp only []
      obtain ⟨w0, l0, ew0⟩ := o6.sl.get 0 (.val (.ref p)) rfl (by intro z; cases z)
      cases (show w0 = .ref p from ew0)
      obtain ⟨w5, l5, ew5⟩ := o6.sl.get 5 (.dat (.int (level : Nat))) rfl (by intro z; cases z)
      cases (show Rp K B6 w5 (.int (level : Nat)) from ew5)
      refine ⟨.ref p, l0, p, dx, _, rfl, po6.obj, lookPV (by decide +kernel) (by decide +kernel) (by decide +kernel) (by decide +kernel) (by decide +kernel), .int (level : Nat), l5, ?_⟩
      refine (Ev.eq (ev_sl (ev_var (i := 3) rfl) (eo_some (ev_var (i := 4) rfl)) eo_none sd_L) (by rw [cut_sufN, ← List.map_drop]) : Ev K [] _ [] _ (.dat (.lst (((Txt.split row " ").drop indent).map D.str))) []) B6 H6 σ4 o6 _ fun v B7 H7 s7 o7 r7 => ?_
      refine ⟨B7, p, dx, n, sh, rg, wy, v0, T, M, M', v, level, (Txt.split row " ").drop indent, k, rfl, o7.ex, r7, fun x hx => hok x (List.mem_of_mem_drop hx), po6.step0 s7, hsT.2, hcn, mok, hk9, hF, fun wy' B8 H8 s8 e8 po8 hwy => ?_⟩
      have sT : Stp [] B H B7 H7 := (s13.trans s4).trans ((s5.trans s6).trans s7)
      exact q wy' B8 H8 ((sT.mono (by simp)).trans s8) e8 po8 (hwy.imp id fun z => free0 sT z)
    · rw [if_neg hc] at hF; cases hF
end
end T3
/-! VI: what holds of the parts of a view while its text is read. -/
namespace SP
open PySem L2 DV PM RG
structure VOk (T : List Tab) (M : PtM) : Prop where
  rl : M.ranges.length ≤ 4
  nd : ∀ j q, M.nodes[j]? = some q → (j = 0 ∧ q.1 = none) ∨ (0 < j ∧ ∃ p r, q.1 = some (p, r) ∧ p < j ∧ (colsOf T M p).lookup r = some (some q.2))
  sh : ∀ q ∈ M.shown, q.1 < M.nodes.length ∧ (colsOf T M q.1).lookup q.2 = some none
  rg : ∀ q ∈ M.ranges, q.1 < M.nodes.length ∧ (colsOf T M q.1).lookup q.2.1 = some none
  sz : M.shown.length ≤ 1000
theorem firstAt_mem {x : Str} {ys : List Str} {j : Nat} (h : firstAt x ys = some j) : x ∈ ys := List.mem_of_getElem? (firstAt_ok h).1
theorem names_look {cols : List Col} {w0 w1 : Str} (nd : (cols.map (·.1)).Nodup) (h : w1 ∈ namesAt cols w0) : ∃ o, cols.lookup w1 = some o ∧ o.isSome = decide (w0 = "follow") := by
  unfold namesAt at h
  obtain ⟨c, hc, rfl⟩ := List.mem_map.mp h
  obtain ⟨h1, h2⟩ := List.mem_filter.mp hc
  exact ⟨c.2, lookup_mem nd h1, by simpa using h2⟩
theorem colsOf_app {T : List Tab} {M : PtM} {par : Option (Nat × Str)} {t : Str} {p : Nat} (h : p < M.nodes.length) : colsOf T (addF par t M) p = colsOf T M p := by
  unfold colsOf addF
  dsimp only
  rw [List.getD_eq_getElem?_getD, List.getD_eq_getElem?_getD, List.getElem?_append_left h]
theorem tab_look {T : List Tab} {M : PtM} {k p : Nat} (hTn : (T.map (·.1)).Nodup) (m : MOk T M k) (h : p < M.nodes.length) : ∃ cols, T.lookup (tabAt M p) = some cols ∧ colsOf T M p = cols ∧ (tabAt M p, cols) ∈ T := by
  have hm : tabAt M p ∈ T.map (·.1) := by
    have : tabAt M p = M.nodes[p].2 := by unfold tabAt; rw [List.getD_eq_getElem?_getD, List.getElem?_eq_getElem h]; rfl
    rw [this]
    exact m.tab _ (List.getElem_mem h)
  obtain ⟨t, ht, he⟩ := List.mem_map.mp hm
  have e := lookup_mem hTn ht
  rw [he] at e
  exact ⟨t.2, e, by unfold colsOf; rw [show (M.nodes.getD p (none, Str.empty)).2 = tabAt M p from rfl, e]; rfl, by rw [← he]; exact ht⟩
theorem words_inv {T : List Tab} {M M1 : PtM} {k node : Nat} {w0 w1 : Str} {rest : List Str} (hTn : (T.map (·.1)).Nodup) (hcn : colsNd T) (hrf : refsOk T) (m : MOk T M k) (v : VOk T M) (hk : k ≤ 900) (hn : node < M.nodes.length) (hin : w1 ∈ namesAt (colsOf T M node) w0) (h : wordsF T node (w0 :: w1 :: rest) M = some M1) :
    M1.nodes.length ≤ 4 ∧ M1.shown.length ≤ k + 1 ∧ (∀ q ∈ M1.nodes, q.2 ∈ T.map (·.1)) ∧ (∀ q ∈ M1.way, q.1 < M1.nodes.length) ∧ M.nodes.length ≤ M1.nodes.length ∧ VOk T M1 := by
  obtain ⟨cols, hT, hco, hmem⟩ := tab_look hTn m hn
  have hnd : (cols.map (·.1)).Nodup := (hcn _ hmem).1
  obtain ⟨o, ho, hs⟩ := names_look (by rw [hco]; exact hnd) hin
  unfold wordsF at h
  dsimp only at h
  have nf1 : ¬ ("shown" : Str) = "follow" := by decide +kernel
  have nf2 : ¬ ("range" : Str) = "follow" := by decide +kernel
  by_cases e1 : w0 = "shown"
  · rw [if_pos e1] at h
    cases h
    have on : o = none := by rw [e1, decide_eq_false nf1] at hs; cases o with
      | none => rfl
      | some _ => cases hs
    subst on
    refine ⟨m.nl, by rw [List.length_append, List.length_singleton]; have := m.sl; omega, m.tab, m.way, Nat.le_refl _, ⟨v.rl, v.nd, fun q hq => ?_, v.rg, by rw [List.length_append, List.length_singleton]; have := m.sl; omega⟩⟩
    rcases List.mem_append.mp hq with hq | hq
    · exact v.sh q hq
    · rw [List.mem_singleton.mp hq]; exact ⟨hn, ho⟩
  · rw [if_neg e1] at h
    by_cases e2 : w0 = "range"
    · rw [if_pos e2] at h
      have on : o = none := by rw [e2, decide_eq_false nf2] at hs; cases o with
        | none => rfl
        | some _ => cases hs
      subst on
      split at h
      · split at h
        · rename_i a b hc
          cases h
          refine ⟨m.nl, by have := m.sl; show M.shown.length ≤ k + 1; omega, m.tab, m.way, Nat.le_refl _, ⟨by rw [List.length_append, List.length_singleton]; omega, v.nd, v.sh, fun q hq => ?_, v.sz⟩⟩
          rcases List.mem_append.mp hq with hq | hq
          · exact v.rg q hq
          · rw [List.mem_singleton.mp hq]; exact ⟨hn, ho⟩
        · cases h
      · cases h
    · rw [if_neg e2] at h
      split at h
      · rename_i hlt
        split at h
        · rename_i t ht
          cases h
          rw [ht] at ho
          cases ho
          have ht' : cols.lookup w1 = some (some t) := by rw [← hco]; exact ht
          have htT : t ∈ T.map (·.1) := hrf _ hmem (w1, some t) (mem_lookup ht') t rfl
          have nl : (addF (some (node, w1)) t M).nodes.length = M.nodes.length + 1 := by unfold addF; simp
          refine ⟨by rw [nl]; omega, by have := m.sl; show M.shown.length ≤ k + 1; omega, fun q hq => ?_, fun q hq => ?_, by rw [nl]; omega, ⟨v.rl, fun j q hj => ?_, fun q hq => ?_, fun q hq => ?_, v.sz⟩⟩
          · rcases List.mem_append.mp (show q ∈ M.nodes ++ [(some (node, w1), t)] from hq) with hq | hq
            · exact m.tab q hq
            · rw [List.mem_singleton.mp hq]; exact htT
          · rw [nl]
            rcases List.mem_append.mp (show q ∈ M.way ++ [(M.nodes.length, 0, 0)] from hq) with hq | hq
            · have := m.way q hq; omega
            · rw [List.mem_singleton.mp hq]; exact Nat.lt_succ_self _
          · have hj' : (M.nodes ++ [(some (node, w1), t)])[j]? = some q := hj
            by_cases hl : j < M.nodes.length
            · rw [List.getElem?_append_left hl] at hj'
              rcases v.nd j q hj' with h | ⟨h0, p, r, a, b, c⟩
              · exact .inl h
              · exact .inr ⟨h0, p, r, a, b, by rw [colsOf_app (by omega)]; exact c⟩
            · rw [List.getElem?_append_right (by omega)] at hj'
              have hj0 : j - M.nodes.length = 0 := by
                have := (List.getElem?_eq_some_iff.mp hj').1
                simp at this; omega
              rw [hj0] at hj'
              cases hj'
              exact .inr ⟨by omega, node, w1, rfl, by omega, by rw [colsOf_app hn]; exact ht⟩
          · obtain ⟨a, b⟩ := v.sh q hq
            exact ⟨by rw [nl]; omega, by rw [colsOf_app a]; exact b⟩
          · obtain ⟨a, b⟩ := v.rg q hq
            exact ⟨by rw [nl]; omega, by rw [colsOf_app a]; exact b⟩
        · cases h
      · cases h
theorem part_inv {T : List Tab} {M M' : PtM} {k level : Nat} {words : List Str} (hTn : (T.map (·.1)).Nodup) (hcn : colsNd T) (hrf : refsOk T) (m : MOk T M k) (v : VOk T M) (hk : k ≤ 900) (h : partF T level words M = some M') : MOk T M' (k + 1) ∧ VOk T M' := by
  unfold partF at h
  cases e : M.way[level]? with
  | none => rw [e] at h; cases h
  | some nl =>
    obtain ⟨node, last⟩ := nl
    rw [e] at h
    dsimp only at h
    have hn : node < M.nodes.length := m.way _ (List.mem_of_getElem? e)
    have hlw : level < M.way.length := (List.getElem?_eq_some_iff.mp e).1
    cases e2 : rankF T M node words with
    | none => rw [e2] at h; cases h
    | some rank =>
      rw [e2] at h
      dsimp only at h
      split at h
      · cases e3 : wordsF T node words M with
        | none => rw [e3] at h; cases h
        | some M1 =>
          rw [e3] at h
          have h := Option.some.inj h
          subst h
          match words, e2, e3 with
          | [], e2, _ => cases e2
          | [_], e2, _ => cases e2
          | w0 :: w1 :: rest, e2, e3 =>
            have hin : w1 ∈ namesAt (colsOf T M node) w0 := by
              unfold rankF at e2
              dsimp only at e2
              cases e4 : kindOf w0 with
              | none => rw [e4] at e2; cases e2
              | some kz =>
                obtain ⟨kk, z⟩ := kz
                rw [e4] at e2
                dsimp only at e2
                split at e2
                · cases e5 : firstAt w1 (namesAt (colsOf T M node) w0) with
                  | none => rw [e5] at e2; cases e2
                  | some j => exact firstAt_mem e5
                · cases e2
            obtain ⟨a1, a2, a3, a4, a5, a6⟩ := words_inv hTn hcn hrf m v hk hn hin e3
            refine ⟨⟨a1, ?_, a2, a3, fun q hq => ?_⟩, ⟨a6.rl, a6.nd, a6.sh, a6.rg, a6.sz⟩⟩
            · show ((M1.way.take level ++ [(node, rank)]) ++ _).length ≤ k + 1 + 1
              have hd : (if (w0 :: w1 :: rest).head? = some "follow" then M1.way.drop (M1.way.length - 1) else []).length ≤ 1 := by
                split
                · rw [List.length_drop]; omega
                · exact Nat.zero_le _
              rw [List.length_append, List.length_append, List.length_singleton, List.length_take]
              have := m.wl
              omega
            · rcases List.mem_append.mp (show q ∈ (M1.way.take level ++ [(node, rank)]) ++ _ from hq) with hq | hq
              · rcases List.mem_append.mp hq with hq | hq
                · exact a4 q (List.mem_of_mem_take hq)
                · rw [List.mem_singleton.mp hq]; show node < M1.nodes.length; omega
              · split at hq
                · exact a4 q (List.mem_of_mem_drop hq)
                · cases hq
      · cases h
theorem mok0 {T : List Tab} : MOk T PtM0 0 := ⟨Nat.zero_le _, Nat.zero_le _, Nat.zero_le _, fun q hq => (by cases hq), fun q hq => (by cases hq)⟩
theorem takes_inv {T : List Tab} {M M' : PtM} {i : Nat} {row : Str} (hTn : (T.map (·.1)).Nodup) (hcn : colsNd T) (hrf : refsOk T) (m : MOk T M i) (v : i = 0 → M = PtM0) (v2 : 0 < i → VOk T M) (hk : i ≤ 900) (h : takesF T i row M = some M') : MOk T M' (i + 1) ∧ VOk T M' := by
  unfold takesF at h
  by_cases h0 : i = 0
  · have hM := v h0
    subst h0
    subst hM
    rw [if_pos rfl] at h
    split at h
    · split at h
      · rename_i a b hs hc
        cases h
        refine ⟨⟨by show (1 : Nat) ≤ 4; omega, by show (1 : Nat) ≤ _; omega, by show (0 : Nat) ≤ _; omega, fun q hq => ?_, fun q hq => ?_⟩, ⟨Nat.zero_le _, fun j q hj => ?_, fun q hq => (by cases hq), fun q hq => (by cases hq), Nat.zero_le _⟩⟩
        · rw [List.mem_singleton.mp (show q ∈ [((none : Option (Nat × Str)), b)] from hq)]; exact hc.2
        · rw [List.mem_singleton.mp (show q ∈ [((0 : Nat), (0 : Nat), (0 : Nat))] from hq)]; show 0 < 1; omega
        · have hj' : [((none : Option (Nat × Str)), b)][j]? = some q := hj
          cases j with
          | zero => cases hj'; exact .inl ⟨rfl, rfl⟩
          | succ j => cases hj'
      · cases h
    · cases h
  · rw [if_neg h0] at h
    dsimp only at h
    split at h
    · exact part_inv hTn hcn hrf m (v2 (by omega)) hk h
    · cases h
theorem readParts_snoc {T : List Tab} {r : Str} : ∀ {rs : List Str} {i : Nat} {M : PtM}, readParts T i (rs ++ [r]) M = (readParts T i rs M).bind (takesF T (i + rs.length) r)
  | [], i, M => by
    show (takesF T i r M).bind (readParts T (i + 1) []) = takesF T (i + 0) r M
    rw [Nat.add_zero]
    cases takesF T i r M <;> rfl
  | a :: rs, i, M => by
    show (takesF T i a M).bind (readParts T (i + 1) (rs ++ [r])) = ((takesF T i a M).bind (readParts T (i + 1) rs)).bind _
    cases e : takesF T i a M with
    | none => rfl
    | some M1 =>
      show readParts T (i + 1) (rs ++ [r]) M1 = (readParts T (i + 1) rs M1).bind _
      rw [readParts_snoc, List.length_cons, show i + 1 + rs.length = i + (rs.length + 1) by omega]
theorem readParts_pre {T : List Tab} {rows : List Str} {M : PtM} (h : readParts T 0 rows PtM0 = some M) {i : Nat} (hi : i < rows.length) : ∃ M1 M2, readParts T 0 (rows.take i) PtM0 = some M1 ∧ takesF T i rows[i] M1 = some M2 ∧ readParts T 0 (rows.take (i + 1)) PtM0 = some M2 := by
  have key : ∀ n, n ≤ rows.length → (readParts T 0 (rows.take n) PtM0).isSome = true := by
    intro n hn
    induction hk : rows.length - n generalizing n with
    | zero =>
      rw [List.take_of_length_le (by omega), h]; rfl
    | succ k ih =>
      have h1 := ih (n + 1) (by omega) (by omega)
      rw [List.take_add_one, List.getElem?_eq_getElem (by omega), show (some rows[n]).toList = [rows[n]] from rfl, readParts_snoc] at h1
      cases e : readParts T 0 (rows.take n) PtM0 with
      | none => rw [e] at h1; cases h1
      | some _ => rfl
  obtain ⟨M1, h1⟩ := Option.isSome_iff_exists.mp (key i (by omega))
  obtain ⟨M2, h2⟩ := Option.isSome_iff_exists.mp (key (i + 1) hi)
  refine ⟨M1, M2, h1, ?_, h2⟩
  have h3 := h2
  rw [List.take_add_one, List.getElem?_eq_getElem hi, show (some rows[i]).toList = [rows[i]] from rfl, readParts_snoc, h1, List.length_take, Nat.min_eq_left (by omega), Nat.zero_add] at h3
  exact h3
theorem parts_inv {T : List Tab} (hTn : (T.map (·.1)).Nodup) (hcn : colsNd T) (hrf : refsOk T) {rows : List Str} {M : PtM} (hl : rows.length ≤ 900) (h : readParts T 0 rows PtM0 = some M) : ∀ i, i ≤ rows.length → ∀ M1, readParts T 0 (rows.take i) PtM0 = some M1 → MOk T M1 i ∧ (0 < i → VOk T M1) := by
  intro i
  induction i with
  | zero => intro _ M1 h1; cases h1; exact ⟨mok0, fun z => absurd z (by omega)⟩
  | succ i ih =>
    intro hi M2 h2
    obtain ⟨N1, N2, a, b, c⟩ := readParts_pre h (i := i) (by omega)
    rw [c] at h2
    cases h2
    obtain ⟨m1, v1⟩ := ih (by omega) N1 a
    obtain ⟨m2, v2⟩ := takes_inv hTn hcn hrf m1 (fun z => by subst z; cases a; rfl) v1 (by omega) b
    exact ⟨m2, fun _ => v2⟩
end SP
/-! V7: places and steps of a view. -/
namespace SP
open PySem L2 DV PM RG
variable {K : PySem.W.Frag}
def placeF (T : List Tab) (M : PtM) (node : Nat) (col : Str) : Nat := 1 + ((firstAt col ((colsOf T M node).map (·.1))).getD 0)
def stepD (T : List Tab) (M : PtM) : NodeM → D
  | (some (p, r), t) => .tup [.int (p : Nat), .int (placeF T M p r : Nat), .str t]
  | (none, _) => .non
def lookDV (T : List Tab) (M : PtM) (q : Nat × Str) : D := .tup [.int (q.1 : Nat), .int (placeF T M q.1 q.2 : Nat)]
def testD (T : List Tab) (M : PtM) (q : RangeM) : D := .tup [.int (q.1 : Nat), .int (placeF T M q.1 q.2.1 : Nat), optI q.2.2.1, optI q.2.2.2]
theorem look_first {α : Type} {c : Str} {o : α} : ∀ {cols : List (Str × α)}, cols.lookup c = some o → ∃ j, firstAt c (cols.map (·.1)) = some j
  | [], h => by cases h
  | (a, b) :: r, h => by
    by_cases e : c = a
    · subst e
      exact ⟨0, by simp [firstAt]⟩
    · have e' : (c == a) = false := by simpa using e
      simp only [List.lookup, e'] at h
      obtain ⟨j, hj⟩ := look_first h
      exact ⟨j + 1, by unfold firstAt; rw [List.map_cons]; simp [Ne.symm e, hj]⟩
structure ViewCls (K : PySem.W.Frag) (CV : Addr) : Prop where
  cl : Cls K CV
  n1 : NoAttr K CV "schema"
  n2 : NoAttr K CV "nodes"
  n3 : NoAttr K CV "shown"
  n4 : NoAttr K CV "ranges"
  n5 : NoAttr K CV "_text"
  n6 : NoAttr K CV "steps"
  n7 : NoAttr K CV "looks"
  n8 : NoAttr K CV "tests"
/-- the fields that places are read from -/
structure VFs (C : Addr) (fs : List (Str × D)) (T : List Tab) (M : PtM) : Prop where
  sc : fs.lookup ("schema" : Str) = some (schD C T)
  nd : fs.lookup ("nodes" : Str) = some (.tup (M.nodes.map nodeD))
  np : fs.lookup ("_place" : Str) = none
  ns : fs.lookup ("_step" : Str) = none
def preVPlace (CV C : Addr) : Pre := fun rs Pl cs r cs' => ∃ fs T M node col cols j, rs = [.dat (.obj CV fs), .dat (.int (node : Nat)), .dat (.str col)] ∧ VFs C fs T M ∧ node < M.nodes.length ∧ T.lookup (tabAt M node) = some cols ∧ cols.length ≤ 1000 ∧ firstAt col (cols.map (·.1)) = some j ∧ Pl = [] ∧ cs = [] ∧ r = .dat (.int (placeF T M node col : Nat)) ∧ cs' = []
def preVStep (CV C : Addr) : Pre := fun rs Pl cs r cs' => ∃ fs T M node col cols j t, rs = [.dat (.obj CV fs), .dat (nodeD (some (node, col), t))] ∧ VFs C fs T M ∧ node < M.nodes.length ∧ T.lookup (tabAt M node) = some cols ∧ cols.length ≤ 1000 ∧ firstAt col (cols.map (·.1)) = some j ∧ Pl = [] ∧ cs = [] ∧ r = .dat (stepD T M (some (node, col), t)) ∧ cs' = []
end SP
namespace T3
open PySem L2 DV PM SP
abbrev s_View_place : Stmt := inClass (topS 14) 4
abbrev N_View_place : List Str := ["self", "node", "column"]
theorem sc_View_place : FnScope N_View_place ["self", "node", "column"] (defScope s_View_place) := ⟨rfl, rfl, rfl, by decide +kernel, rfl, by decide +kernel, by decide +kernel⟩

abbrev s_View_step : Stmt := inClass (topS 14) 5
abbrev N_View_step : List Str := ["self", "node"]
theorem sc_View_step : FnScope N_View_step ["self", "node"] (defScope s_View_step) := ⟨rfl, rfl, rfl, by decide +kernel, rfl, by decide +kernel, by decide +kernel⟩

section
variable {P : Program} {w : World} {K : PySem.W.Frag} {mg : Str → Option Value} {base : Heap} {C CV : Addr}
theorem ok_vplace {f fC : Addr} {fd fdC : FuncData} (F : Fun K "_place" "View._place" s_View_place f fd) (cV : ViewCls K CV) (G_column_place : Def P w K mg base 2 "column_place" fC fdC ["schema", "table", "column"] (spM K (preColPlace C))) : FnOk P w K mg base CX0 3 f fd ["self", "node", "column"] (spM K (preVPlace CV C)) := by
  refine ok_body F sc_View_place (fun rs Pl cs r cs' h => ?_) (fun X hX hr => ?_)
  · obtain ⟨fs, T, M, node, col, cols, j, rfl, _⟩ := h
    rfl
  obtain ⟨cdv, A, outer, s, H, E, rfl⟩ := hX
  have nd := sc_View_place.nd
  refine ⟨_, (pss_one (ps_ret (pe_def G_column_place hr (by decide) (by rfl) (pa_cons (pe_fld (pv 0) rfl) (pa_cons (pe_ix ix_seq (pe_ix ix_seq (pe_fld (pv 0) rfl) (pv 1) (fun _ _ => rfl)) pe_int (fun _ _ => rfl)) (pa_cons (pv 2) pa_nil)))))), ?_⟩
  intro rs Pl cs r cs' hp B0 H0 σ Dn st hPl hd hn
  obtain ⟨fs, T, M, node, col, cols, j, rfl, hfs, hnd, hT, hcl, hj, rfl, rfl, rfl, rfl⟩ := hp
  have hco : colsOf T M node = cols := by unfold colsOf; rw [show (M.nodes.getD node (none, Str.empty)).2 = tabAt M node from rfl, hT]; rfl
  have et : Ev K [] [.dat (.obj CV fs), .dat (.int (node : Nat)), .dat (.str col)] [] (tOp (rIx K) (tOp (rIx K) (tFld K (tVar 0) "nodes") (tVar 1)) (tC (.int 2))) (.dat (.str (tabAt M node))) [] := by
    obtain ⟨a, b, e⟩ := node_third M.nodes[node]
    refine ev_op (ev_op (ev_fld (ev_var (i := 0) rfl) cV.cl cV.n2 hfs.nd) (ev_var (i := 1) rfl) (od_ixT (d := nodeD M.nodes[node]) (atI_nat (by rw [List.getElem?_map, List.getElem?_eq_getElem hnd]; rfl)))) (ev_int (i := 2)) ?_
    rw [e]
    refine od_ixT ?_
    have : tabAt M node = M.nodes[node].2 := by unfold tabAt; rw [List.getD_eq_getElem?_getD, List.getElem?_eq_getElem hnd]; rfl
    rw [this]
    exact atI_nat (j := 2) rfl
  refine st_ret st (Ev.eq (ev_call0 (ea_cons (ev_fld (ev_var (i := 0) rfl) cV.cl cV.n1 hfs.sc) (ea_cons et (ea_cons (ev_var (i := 2) rfl) ea_nil))) ⟨T, _, col, cols, j, rfl, hT, hcl, hj, rfl, rfl, rfl, rfl⟩) ?_) hd
  unfold placeF
  rw [hco, hj]
  rfl
theorem ok_vstep {f fC : Addr} {fd fdC : FuncData} (F : Fun K "_step" "View._step" s_View_step f fd) (cV : ViewCls K CV) (cls_V : Cls K CV) (M__place : Meth K CV "_place" fC) (G__place : FnOk P w K mg base CX0 3 fC fdC ["self", "node", "column"] (spM K (preVPlace CV C))) (B__place : Binds K fdC ["self", "node", "column"] []) : FnOk P w K mg base CX0 4 f fd ["self", "node"] (spM K (preVStep CV C)) := by
  refine ok_body F sc_View_step (fun rs Pl cs r cs' h => ?_) (fun X hX hr => ?_)
  · obtain ⟨fs, T, M, node, col, cols, j, t, rfl, _⟩ := h
    rfl
  obtain ⟨cdv, A, outer, s, H, E, rfl⟩ := hX
  have nd := sc_View_step.nd
  refine ⟨_, (pss_one (ps_ret (pe_tup (pa_cons (pe_ix ix_seq (pv 1) pe_int (fun _ _ => rfl)) (pa_cons (pe_meth (pv 0) cls_V M__place G__place (hr.mono (by decide)) B__place .nil pass0 (pa_cons (pe_ix ix_seq (pv 1) pe_int (fun _ _ => rfl)) (pa_cons (pe_ix ix_seq (pv 1) pe_int (fun _ _ => rfl)) pa_nil))) (pa_cons (pe_ix ix_seq (pv 1) pe_int (fun _ _ => rfl)) pa_nil)))))), ?_⟩
  intro rs Pl cs r cs' hp B0 H0 σ Dn st hPl hd hn
  obtain ⟨fs, T, M, node, col, cols, j, t, rfl, hfs, hnd, hT, hcl, hj, rfl, rfl, rfl, rfl⟩ := hp
  have e0 : Ev K [] [.dat (.obj CV fs), .dat (nodeD (some (node, col), t))] [] (tOp (rIx K) (tVar 1) (tC (.int 0))) (.dat (.int (node : Nat))) [] := ev_op (ev_var (i := 1) rfl) (ev_int (i := 0)) (od_ixT (atI_nat (j := 0) rfl))
  have e1 : Ev K [] [.dat (.obj CV fs), .dat (nodeD (some (node, col), t))] [] (tOp (rIx K) (tVar 1) (tC (.int 1))) (.dat (.str col)) [] := ev_op (ev_var (i := 1) rfl) (ev_int (i := 1)) (od_ixT (atI_nat (j := 1) rfl))
  have e2 : Ev K [] [.dat (.obj CV fs), .dat (nodeD (some (node, col), t))] [] (tOp (rIx K) (tVar 1) (tC (.int 2))) (.dat (.str t)) [] := ev_op (ev_var (i := 1) rfl) (ev_int (i := 2)) (od_ixT (atI_nat (j := 2) rfl))
  exact st_ret st (ev_tup (ds := [.int (node : Nat), .int (placeF T M node col : Nat), .str t]) (ea_cons e0 (ea_cons (ev_meth1 (ev_var (i := 0) rfl) hfs.np (ea_cons e0 (ea_cons e1 ea_nil)) ⟨fs, T, M, node, col, cols, j, rfl, hfs, hnd, hT, hcl, hj, rfl, rfl, rfl, rfl⟩) (ea_cons e2 ea_nil))) (by simp)) hd
end
end T3
/-! V8: a view is made. -/
namespace SP
open PySem L2 DV PM RG
variable {K : PySem.W.Frag}
def viewD (CV C : Addr) (T : List Tab) (M : PtM) (x : Str) : D := .obj CV [("schema", schD C T), ("nodes", .tup (M.nodes.map nodeD)), ("shown", .tup (M.shown.map shownD)), ("ranges", .tup (M.ranges.map rangeMD)), ("_text", .str x), ("steps", .tup ((M.nodes.drop 1).map (stepD T M))), ("looks", .tup (M.shown.map (lookDV T M))), ("tests", .tup (M.ranges.map (testD T M)))]
def vtext (x : Str) : Prop := x.length ≤ 10000 ∧ (Txt.split x "\n").length ≤ 900 ∧ ∀ row ∈ Txt.split x "\n", row.length ≤ 10000 ∧ ∀ w ∈ Txt.split row " ", okInt w
/-- the text is one of a view of the schema -/
structure VText (T : List Tab) (x : Str) (M : PtM) : Prop where
  tx : vtext x
  rd : readParts T 0 (Txt.split x "\n") PtM0 = some M
structure TOk (T : List Tab) : Prop where
  sc : schOk T
  rf : refsOk T
  cn : colsNd T
def spVInit (K : PySem.W.Frag) (CV C : Addr) : Sp := fun vs H Q _ => ∃ p dx T v0 x M B0 H0, vs = [.ref p, v0, .str x] ∧ H = upd (upd H0 dx (.own p)) p (.ins CV dx []) ∧ H0 p = none ∧ H0 dx = none ∧ dx ≠ p ∧ Ex B0 H0 ∧ Rp K B0 v0 (schD C T) ∧ TOk T ∧ VText T x M ∧
  ∀ B' H', Stp [] B0 H0 B' H' → Ex B' H' → Rp K B' (.ref p) (viewD CV C T M x) → Q .non H'
theorem stp_new0 {P : List Addr} {B0 H0 B H B' H' : Hp} (s : Stp [] B0 H0 B H) (t : Stp P B H B' H') (hP : ∀ q ∈ P, H0 q = none) : Stp [] B0 H0 B' H' where
  ex := s.ex.trans t.ex
  fr := fun b o _ h => t.fr b o (fun z => by rw [hP b z] at h; cases h) (s.fr b o (by simp) h)
  nb := fun b o h => by
    obtain ⟨o', h'⟩ := s.dm b o h
    rw [t.nb b o' h', s.nb b o h]
  dm := fun b o h => by
    obtain ⟨o', h'⟩ := s.dm b o h
    exact t.dm b o' h'
theorem RpF.mono' {B B' : Hp} (e : Ex B B') {vs : List (Str × V)} {ds : List (Str × D)} (h : RpF K B vs ds) : RpF K B' vs ds := RpF.mono e h
theorem RpF.app {B : Hp} {f : Str} {v : V} {d : D} (h : Rp K B v d) : ∀ {vs : List (Str × V)} {ds : List (Str × D)}, RpF K B vs ds → RpF K B (vs ++ [(f, v)]) (ds ++ [(f, d)])
  | _, _, .nil => .cons h .nil
  | _, _, .cons a r => .cons a (RpF.app h r)
theorem RpF.keys {B : Hp} : ∀ {vs : List (Str × V)} {ds : List (Str × D)}, RpF K B vs ds → vs.map (·.1) = ds.map (·.1)
  | _, _, .nil => rfl
  | _, _, .cons _ r => by rw [List.map_cons, List.map_cons, RpF.keys r]
/-- self.f = te, where te reads self as it is -/
theorem st_fldRead {B0 H0 B H : Hp} {ss : List Sl} {σ : L2.St} {De : Ends} {i : Nat} {te : TE} {d : D} {p C dx : Addr} {fs : List (Str × V)} {ds : List (Str × D)} {f : Str} (s : Stp [] B0 H0 B H) (o : Okk K [] ss [] B H σ) (hp0 : H0 p = none) (hbp : B p = none) (hi : ss[i]? = some (.val (.ref p)))
    (hp : H p = some (.ins C dx fs)) (rf : RpF K B fs ds) (c : Cls K C) (n : NoAttr K C f) (hl : ds.length < 1000) (hf : f ∉ ds.map (·.1)) (he : Ev K [] (ss.set i (.dat (.obj C ds))) [] te (.dat d) []) (hd : nd d = true)
    (k : ∀ v B' H', Stp [] B0 H0 B' H' → Okk K [] ss [] B' H' σ → B' p = none → H' p = some (.ins C dx (fs ++ [(f, v)])) → RpF K B' (fs ++ [(f, v)]) (ds ++ [(f, d)]) → De.nx σ H') : sFld K (tVar i) te f De σ H := by
  let L : Cells := [(p, .ins C dx fs)]
  have hh : Held B H L := ⟨fun q hq => by
    rw [List.mem_singleton.mp hq]; exact hp, fun q hq => by
    rw [List.mem_singleton.mp hq]; exact hbp⟩
  have hT : ∀ q ∈ L, notTup q.2 := fun q hq => by
    rw [List.mem_singleton.mp hq]
    exact ⟨fun _ z => (by cases z), fun _ _ z => by cases z⟩
  have e1 := RG.pub_ex hh.no
  have rs : Rp K (RG.pub B L) (.ref p) (.obj C ds) := .obj (RG.pub_mem hh (p := (p, .ins C dx fs)) (by simp [L])) (RpF.mono e1 rf)
  refine he (RG.pub B L) H σ ⟨RG.pub_in o.ex hh, slots_dat (o.sl.mono e1) hi rs, True.intro⟩ _ fun v B2 H2 s2 o2 v2 => ?_
  obtain ⟨B3, _, st, o3, h3, _, z⟩ := RG.hide (P := []) (F := fun _ => True) (ss' := ss.set i (.dat (.obj C ds))) (by simp) hT (fun _ _ _ _ => True.intro) (by simp) o hh True.intro s2 o2
  have rv : Rp K B3 v d := z v2 hd
  obtain ⟨u, hu, eu⟩ := o3.sl.get i _ hi (by intro z; cases z)
  cases (show u = V.ref p from eu)
  have hp1 : H2 p = some (.ins C dx fs) := st.fr _ _ (by simp) hp
  have hb1 : B3 p = none := by rw [st.nb _ _ hp]; exact hbp
  have s01 := s.trans st
  have hlen : fs.length = ds.length := by
    have := congrArg List.length (RpF.keys rf)
    simpa using this
  refine ⟨.ref p, hu, p, C, dx, fs, rfl, hp1, c, n, by rw [hlen]; exact hl, ?_⟩
  rw [putF_new (by rw [RpF.keys rf]; exact hf)]
  exact k v B3 _ (stp_upd s01 hp0) ⟨ex_upd o3.ex hb1, o3.sl, True.intro⟩ hb1 upd_same (RpF.app rv (RpF.mono st.ex rf))
theorem st_fldPlain {B0 H0 B H : Hp} {ss : List Sl} {σ : L2.St} {De : Ends} {i : Nat} {te : TE} {d : D} {p C dx : Addr} {fs : List (Str × V)} {ds : List (Str × D)} {f : Str} (s : Stp [] B0 H0 B H) (o : Okk K [] ss [] B H σ) (hp0 : H0 p = none) (hbp : B p = none) (hi : ss[i]? = some (.val (.ref p)))
    (hp : H p = some (.ins C dx fs)) (rf : RpF K B fs ds) (c : Cls K C) (n : NoAttr K C f) (hl : ds.length < 1000) (hf : f ∉ ds.map (·.1)) (he : Ev K [] ss [] te (.dat d) [])
    (k : ∀ v B' H', Stp [] B0 H0 B' H' → Okk K [] ss [] B' H' σ → B' p = none → H' p = some (.ins C dx (fs ++ [(f, v)])) → RpF K B' (fs ++ [(f, v)]) (ds ++ [(f, d)]) → De.nx σ H') : sFld K (tVar i) te f De σ H := by
  have hlen : fs.length = ds.length := by
    have := congrArg List.length (RpF.keys rf)
    simpa using this
  refine st_fldNew s o hp0 hbp hi hp c n (by rw [hlen]; exact hl) he fun v B' H' s' o' e' b' h' r' => ?_
  rw [putF_new (by rw [RpF.keys rf]; exact hf)] at h'
  exact k v B' H' s' o' b' h' (RpF.app r' (RpF.mono e' rf))
theorem ev_pshown {P : List Addr} {ss : List Sl} {cs : List (List D)} {CP C : Addr} {T : List Tab} {M : PtM} {i : Nat} (c : PartsCls K CP) (hi : ss[i]? = some (.dat (partsD CP C T M))) : Ev K P ss cs (tFld K (tVar i) "shown") (.dat (.lst (M.shown.map shownD))) cs := ev_fld (ev_var hi) c.cl c.n3 lkS
theorem lookV {m : Str} {α : Type} : ∀ {l : List (Str × α)}, (∀ k ∈ l.map (·.1), (m == k) = false) → l.lookup m = none
  | [], _ => rfl
  | (k, x) :: r, h => by
    simp only [List.lookup, h k (by simp)]
    exact lookV fun k' hk => h k' (List.mem_cons_of_mem _ hk)
theorem vfs {C : Addr} {T : List Tab} {M : PtM} {tail : List (Str × D)} {ks : List Str} (hk : tail.map (·.1) = ks) (h1 : ∀ k ∈ ks, (("_place" : Str) == k) = false) (h2 : ∀ k ∈ ks, (("_step" : Str) == k) = false) : VFs C (("schema", schD C T) :: ("nodes", .tup (M.nodes.map nodeD)) :: tail) T M where
  sc := by simp only [List.lookup, show (("schema" : Str) == "schema") = true by decide +kernel]
  nd := by simp only [List.lookup, show (("nodes" : Str) == "schema") = false by decide +kernel, show (("nodes" : Str) == "nodes") = true by decide +kernel]
  np := by simp only [List.lookup, show (("_place" : Str) == "schema") = false by decide +kernel, show (("_place" : Str) == "nodes") = false by decide +kernel]; exact lookV (by rw [hk]; exact h1)
  ns := by simp only [List.lookup, show (("_step" : Str) == "schema") = false by decide +kernel, show (("_step" : Str) == "nodes") = false by decide +kernel]; exact lookV (by rw [hk]; exact h2)
theorem ndA_map {α : Type} {f : α → D} (h : ∀ x, nd (f x) = true) : ∀ l : List α, ndA (l.map f) = true
  | [] => rfl
  | x :: l => by
    show (nd (f x) && ndA (l.map f)) = true
    rw [h x, ndA_map h l]; rfl
theorem nd_step {T : List Tab} {M : PtM} (q : NodeM) : nd (stepD T M q) = true := by
  obtain ⟨o, t⟩ := q
  cases o with
  | none => rfl
  | some o => rfl
theorem nd_test {T : List Tab} {M : PtM} (q : RangeM) : nd (testD T M q) = true := by
  obtain ⟨a, b, lo, hi⟩ := q
  cases lo <;> cases hi <;> rfl
theorem g_go {i : Nat} {v : V} {σ : L2.St} {H : Hp} {Q : L2.St → Hp → Prop} (h : Q (σ.set i (some v)) H) : gName i v σ H Q := h
end SP
namespace T3
open PySem L2 DV PM SP
abbrev s_View_init_ : Stmt := inClass (topS 14) 0
abbrev N_View_init_ : List Str := ["self", "schema", "text", "parts", "number", "row", "node", "column", "low", "high"]
theorem sc_View_init_ : FnScope N_View_init_ ["self", "schema", "text"] (defScope s_View_init_) := ⟨rfl, rfl, rfl, by decide +kernel, rfl, by decide +kernel, by decide +kernel⟩

section
variable {P : Program} {w : World} {K : PySem.W.Frag} {mg : Str → Option Value} {base : Heap} {C CP CV : Addr}
theorem ok_vinit {f fI fT fS fPl : Addr} {fd fdI fdT fdS fdPl : FuncData} (F : Fun K "__init__" "View.__init__" s_View_init_ f fd) (cP : PartsCls K CP) (cV : ViewCls K CV) (cls_P : Cls K CP) (cls_V : Cls K CV)
    (g_Parts : mg "Parts" = some (.ref CP)) (M_madeP : Mk K CP fI) (G_pinit : FnOk P w K mg base CX0 1 fI fdI ["self", "schema"] (spPInit K CP C)) (B_pinit : Binds K fdI ["self", "schema"] [])
    (M_takes : Meth K CP "takes" fT) (G_takes : FnOk P w K mg base CX0 7 fT fdT ["self", "number", "row"] (spTakes K CP C)) (B_takes : Binds K fdT ["self", "number", "row"] [])
    (M__step : Meth K CV "_step" fS) (G__step : FnOk P w K mg base CX0 4 fS fdS ["self", "node"] (spM K (preVStep CV C))) (B__step : Binds K fdS ["self", "node"] [])
    (M__place : Meth K CV "_place" fPl) (G__place : FnOk P w K mg base CX0 3 fPl fdPl ["self", "node", "column"] (spM K (preVPlace CV C))) (B__place : Binds K fdPl ["self", "node", "column"] [])
    (b_enumerate : mg "enumerate" = none) (b_tuple : mg "tuple" = none) : FnOk P w K mg base CX0 8 f fd ["self", "schema", "text"] (spVInit K CV C) := by
  refine F.ok sc_View_init_ (fun vs H Q E h => ?_) (fun cdv A outer s H vs Q E hr h => ?_)
  · obtain ⟨p, dx, T, v0, x, M, B0, H0, rfl, _⟩ := h
    rfl
  have nd := sc_View_init_.nd
  refine ⟨_, (pss_cons (ps_set (i := 3) nd rfl (.inl rfl) (pe_make M_madeP G_pinit (hr.mono (by decide)) (by rfl) g_Parts B_pinit .nil pass0 (pa_cons (pv 1) pa_nil)))
      (pss_cons (ps_for PassesOwn.never rfl (pi_enum (by rfl) b_enumerate (pa_cons (pe_split (pv 2) pe_str) pa_nil)) (pg_tup (by rfl) (by exact (pgs_cons (by exact (pg_name (i := 4) nd (by rfl) (by first | exact .inl rfl | exact .inr rfl))) (by exact (pgs_cons (by exact (pg_name (i := 5) nd (by rfl) (by first | exact .inl rfl | exact .inr rfl))) (by exact pgs_nil)))))) (pss_one (ps_if (pt_not (pt_val (pe_meth (pv 3) cls_P M_takes G_takes (hr.mono (by decide)) B_takes .nil pass0 (pa_cons (pv 4) (pa_cons (pv 5) pa_nil))))) (pss_one ps_never) pss_nil)))
      (pss_cons (ps_fld (pv 0) (pv 1) rfl)
      (pss_cons (ps_fld (pv 0) (pe_callTy call_tuple1 (by rfl) b_tuple (by decide +kernel) (pa_cons (pe_fld (pv 3) rfl) pa_nil)) rfl)
      (pss_cons (ps_fld (pv 0) (pe_callTy call_tuple1 (by rfl) b_tuple (by decide +kernel) (pa_cons (pe_fld (pv 3) rfl) pa_nil)) rfl)
      (pss_cons (ps_fld (pv 0) (pe_callTy call_tuple1 (by rfl) b_tuple (by decide +kernel) (pa_cons (pe_fld (pv 3) rfl) pa_nil)) rfl)
      (pss_cons (ps_fld (pv 0) (pv 2) rfl)
      (pss_cons (ps_fld (pv 0) (pe_callTy call_tuple1 (by rfl) b_tuple (by decide +kernel) (pa_cons (pe_lc (own := [("node", 6)]) (g := (gName 6)) (tt := tYes) (te := _) rfl nd (pi_list (pe_slice sl_3 (pe_fld (pv 3) rfl) (po_some pe_int) po_none)) (blkOk_by (N := N_View_init_) (sc := defScope s_View_init_) (by decide +kernel)) (by intro _ _ _ _ _; exact (pg_name (i := 6) nd (by rfl) (by first | exact .inl rfl | exact .inr rfl))) (by intro _ _ _ _ _; exact pts_nil) (by intro _ _ _ _ _; exact (pe_meth (pv 0) cls_V M__step G__step (hr.mono (by decide)) B__step .nil pass0 (pa_cons (pv 6) pa_nil)))) pa_nil)) rfl)
      (pss_cons (ps_fld (pv 0) (pe_callTy call_tuple1 (by rfl) b_tuple (by decide +kernel) (pa_cons (pe_lc (own := [("node", 6), ("column", 7)]) (g := (gTup K 2 (gCons (gName 6) (gCons (gName 7) gNil)))) (tt := tYes) (te := (tTup (tCons (tVar 6) (tCons _ tNil)))) rfl nd (pi_list (pe_fld (pv 3) rfl)) (blkOk_by (N := N_View_init_) (sc := defScope s_View_init_) (by decide +kernel)) (by intro _ _ _ _ _; exact (pg_tup (by rfl) (by exact (pgs_cons (by exact (pg_name (i := 6) nd (by rfl) (by first | exact .inl rfl | exact .inr rfl))) (by exact (pgs_cons (by exact (pg_name (i := 7) nd (by rfl) (by first | exact .inl rfl | exact .inr rfl))) (by exact pgs_nil))))))) (by intro _ _ _ _ _; exact pts_nil) (by intro _ _ _ _ _; exact (pe_tup (pa_cons (pv 6) (pa_cons (pe_meth (pv 0) cls_V M__place G__place (hr.mono (by decide)) B__place .nil pass0 (pa_cons (pv 6) (pa_cons (pv 7) pa_nil))) pa_nil))))) pa_nil)) rfl)
      (pss_one (ps_fld (pv 0) (pe_callTy call_tuple1 (by rfl) b_tuple (by decide +kernel) (pa_cons (pe_lc (own := [("node", 6), ("column", 7), ("low", 8), ("high", 9)]) (g := (gTup K 4 (gCons (gName 6) (gCons (gName 7) (gCons (gName 8) (gCons (gName 9) gNil)))))) (tt := tYes) (te := (tTup (tCons (tVar 6) (tCons _ (tCons (tVar 8) (tCons (tVar 9) tNil)))))) rfl nd (pi_list (pe_fld (pv 3) rfl)) (blkOk_by (N := N_View_init_) (sc := defScope s_View_init_) (by decide +kernel)) (by intro _ _ _ _ _; exact (pg_tup (by rfl) (by exact (pgs_cons (by exact (pg_name (i := 6) nd (by rfl) (by first | exact .inl rfl | exact .inr rfl))) (by exact (pgs_cons (by exact (pg_name (i := 7) nd (by rfl) (by first | exact .inl rfl | exact .inr rfl))) (by exact (pgs_cons (by exact (pg_name (i := 8) nd (by rfl) (by first | exact .inl rfl | exact .inr rfl))) (by exact (pgs_cons (by exact (pg_name (i := 9) nd (by rfl) (by first | exact .inl rfl | exact .inr rfl))) (by exact pgs_nil))))))))))) (by intro _ _ _ _ _; exact pts_nil) (by intro _ _ _ _ _; exact (pe_tup (pa_cons (pv 6) (pa_cons (pe_meth (pv 0) cls_V M__place G__place (hr.mono (by decide)) B__place .nil pass0 (pa_cons (pv 6) (pa_cons (pv 7) pa_nil))) (pa_cons (pv 8) (pa_cons (pv 9) pa_nil))))))) pa_nil)) rfl))))))))))), ?_⟩
  obtain ⟨p, dx, T, v0, x, M, B0, H0, rfl, rfl, hp0, hd0, hne, e0, r0, tk, vt, q⟩ := h
  have bp0 : B0 p = none := e0.free hp0
  have bd0 : B0 dx = none := e0.free hd0
  have s0 : Stp [] B0 H0 B0 (upd (upd H0 dx (.own p)) p (.ins CV dx [])) := stp_upd (stp_upd (Stp.refl _ _ _) hd0) hp0
  have e1 : Ex B0 (upd (upd H0 dx (.own p)) p (.ins CV dx [])) := ex_upd (ex_upd e0 bd0) bp0
  have hp : upd (upd H0 dx (.own p)) p (.ins CV dx []) p = some (.ins CV dx []) := upd_same
  generalize upd (upd H0 dx (.own p)) p (.ins CV dx []) = H1 at s0 e1 hp ⊢
  obtain ⟨B, s1, o1⟩ := sta_start (vs := [.ref p, v0, .str x]) (N := N_View_init_) (K := K) (P := []) (cs := []) (rs := [.val (.ref p), .dat (schD C T), .dat (.str x)]) e1 ⟨rfl, r0, .str _, True.intro⟩ True.intro
  generalize L2.start N_View_init_ [V.ref p, v0, .str x] = σ at o1 ⊢
  have o1 : Okk K [] [.val (.ref p), .dat (schD C T), .dat (.str x), .any, .any, .any, .any, .any, .any, .any] [] B H1 σ := o1
  obtain ⟨hx1, hx2, hx3⟩ := vt.tx
  -- parts = Parts(schema)
  obtain ⟨u1, k1, ru1⟩ := o1.sl.get 1 (.dat (schD C T)) rfl (by intro z; cases z)
  have ru1 : Rp K B u1 (schD C T) := ru1
  refine st_seq ?_
  refine ⟨u1, k1, fun pp pdx hpp hpd hpn => ?_⟩
  refine ⟨pp, pdx, T, u1, B, H1, rfl, rfl, hpp, hpd, hpn, o1.ex, ru1, fun n sh rg wy B2 H2 s2 e2 po2 hn hsh hrg hwy => ⟨rfl, ?_⟩⟩
  have o2 : Okk K [] [.val (.ref p), .dat (schD C T), .dat (.str x), .val (.ref pp), .any, .any, .any, .any, .any, .any] [] B2 H2 (σ.set 3 (some (.ref pp))) := ⟨e2, (o1.sl.mono s2.ex).set (i := 3) (r := .val (.ref pp)) rfl, True.intro⟩
  refine g_go (i := 3) (v := .ref pp) ?_
  generalize σ.set 3 (some (.ref pp)) = σ2 at o2 ⊢
  try dsimp only []
  -- the rows
  refine st_seq (t := tFor _ _ _) ?_
  refine for_of (wd_enum (ds := (Txt.split x "\n").map D.str) (cs := []) (cs1 := []) (P := []) (ea_cons (EvF.ev (ev_split (ev_var (i := 2) rfl) ev_str (by decide +kernel) (by omega))) ea_nil) B2 _ _ o2 _ fun J B3 H3 s3 o3 wk => ?_)
  have po3 := po2.step0 s3
  have s23 := s2.trans s3
  have hn0 : (enumD ((Txt.split x "\n").map D.str)).length = (Txt.split x "\n").length := by rw [enumD_len, List.length_map]
  let I : Nat → L2.St → Hp → Prop := fun i σ' H' => ∃ B' wy' M1, Stp [] B H1 B' H' ∧ Ex B3 B' ∧ Okk K [] [.val (.ref p), .dat (schD C T), .dat (.str x), .val (.ref pp), .any, .any, .any, .any, .any, .any] [] B' H' σ' ∧ PObj K B' H' pp pdx n sh rg wy' CP C u1 T M1 ∧ H1 wy' = none ∧ readParts T 0 ((Txt.split x "\n").take i) PtM0 = some M1
  refine ⟨fun i m σ' H' => m = (Txt.split x "\n").length - i ∧ i ≤ (Txt.split x "\n").length ∧ I i σ' H', ⟨_, rfl, Nat.zero_le _, B3, wy, PtM0, s23, Ex.refl _, o3, po3, hwy, rfl⟩, ?_⟩
  rintro i m σ' H' ⟨rfl, hi, B4, wy4, M1, s4, e4, o4, po4, hw4, hM1⟩
  obtain ⟨w1, w2⟩ := wk i B4 H' e4 o4.ex
  by_cases hlt : i < (Txt.split x "\n").length
  · have hrow : (Txt.split x "\n")[i]? = some (Txt.split x "\n")[i] := List.getElem?_eq_getElem hlt
    obtain ⟨N1, M2, hN1, htk, hM2⟩ := readParts_pre vt.rd hlt
    rw [hM1] at hN1
    cases hN1
    obtain ⟨mok, _⟩ := parts_inv tk.sc.2 tk.cn tk.rf hx2 vt.rd i (by omega) M1 hM1
    generalize (Txt.split x "\n")[i] = row at hrow htk
    obtain ⟨hrl, hrw⟩ := hx3 row (List.mem_of_getElem? hrow)
    have hd' : (enumD ((Txt.split x "\n").map D.str))[i]? = some (.tup [.int (i : Nat), .str row]) := by
      unfold enumD
      rw [List.getElem?_map, List.getElem?_zipIdx, List.getElem?_map, hrow]
      simp
    obtain ⟨go, yl⟩ := w1 _ hd'
    refine .inr ⟨go, I (i + 1), fun σ5 H5 q => ⟨(Txt.split x "\n").length - (i + 1), by omega, rfl, hlt, q⟩, fun v H5 y => ?_⟩
    obtain ⟨B5, s5, e5, x5⟩ := yl v H5 y
    have o5 := o4.step0 s5 e5
    have po5 := po4.step0 s5
    have s45 := s4.trans s5
    refine (g_tup (g_cons g_name (g_cons g_name g_nil)) : GR K _ _ _ _ _) B5 H5 σ' v o5.ex o5.sl x5 _ fun σ6 sl6 _ => ?_
    have o6 : Okk K [] [.val (.ref p), .dat (schD C T), .dat (.str x), .val (.ref pp), .dat (.int (i : Nat)), .dat (.str row), .any, .any, .any, .any] [] B5 H5 σ6 := ⟨o5.ex, sl6, True.intro⟩
    obtain ⟨y3, k3, ey3⟩ := o6.sl.get 3 (.val (.ref pp)) rfl (by intro z; cases z)
    cases (show y3 = .ref pp from ey3)
    obtain ⟨y4, k4, ey4⟩ := o6.sl.get 4 (.dat (.int (i : Nat))) rfl (by intro z; cases z)
    cases (show Rp K B5 y4 (.int (i : Nat)) from ey4)
    obtain ⟨y5, k5, ey5⟩ := o6.sl.get 5 (.dat (.str row)) rfl (by intro z; cases z)
    cases (show Rp K B5 y5 (.str row) from ey5)
    refine ⟨.ref pp, k3, pp, pdx, _, rfl, po5.obj, lookPV (by decide +kernel) (by decide +kernel) (by decide +kernel) (by decide +kernel) (by decide +kernel), .int (i : Nat), k4, .str row, k5, ?_⟩
    refine ⟨B5, pp, pdx, n, sh, rg, wy4, u1, T, M1, M2, i, row, i, rfl, e5, hrl, hrw, po5, tk.sc, tk.cn, mok, by omega, htk, fun wy6 B6 H6 s6 e6 po6 hw6 => ⟨true, rfl, ?_⟩⟩
    refine ifFv rfl (st_next ?_)
    have s46 : Stp [] B H1 B6 H6 := stp_new0 s45 s6 (fun q hq => by
      simp only [List.mem_cons, List.not_mem_nil, or_false] at hq
      rcases hq with rfl | rfl | rfl | rfl | rfl
      · exact hpp
      · exact hn
      · exact hsh
      · exact hrg
      · exact hw4)
    exact ⟨B6, wy6, M2, s46, e4.trans (s5.ex.trans s6.ex), ⟨e6, (o6.sl.mono s6.ex).le ⟨.rfl _, .rfl _, .rfl _, .rfl _, .any _, .any _, .rfl _, .rfl _, .rfl _, .rfl _, True.intro⟩, True.intro⟩, po6, hw6.elim (fun z => z ▸ hw4) (fun z => free0 s45 z), hM2⟩
  · have e : i = (Txt.split x "\n").length := by omega
    subst e
    refine .inl ⟨w2 (by rw [hn0]; exact Nat.le_refl _), ?_⟩
    have hMM : M1 = M := by
      rw [List.take_length] at hM1
      exact Option.some.inj (hM1.symm.trans vt.rd)
    subst hMM
    obtain ⟨mokf, vok⟩ := parts_inv tk.sc.2 tk.cn tk.rf hx2 vt.rd _ (Nat.le_refl _) M1 hM1
    have hlen0 : 0 < (Txt.split x "\n").length := PyProof.Rows.split_pos x _
    have vok := vok hlen0
    have e5 := SP.pub_ex s4 o4.ex
    have i5 := SP.pub_in s4 o4.ex
    have s5 := SP.pub_stp s4 o4.ex
    have b5 : pubB B H1 H' p = none := by rw [pub_old hp, s1.nb _ _ hp]; exact bp0
    have hp5 : H' p = some (.ins CV dx []) := s4.fr _ _ (by simp) hp
    obtain ⟨l1, a1, _, r1⟩ := po4.nl
    obtain ⟨l2, a2, _, r2⟩ := po4.sl
    obtain ⟨l3, a3, _, r3⟩ := po4.rl
    obtain ⟨l4, a4, _, r4⟩ := po4.wl
    have rpp : Rp K (pubB B H1 H') (.ref pp) (partsD CP C T M1) := .obj (by rw [pub_new hpp]; exact po4.obj) (.cons (po4.sch.mono e5) (.cons (.lst (by rw [pub_new hn]; exact a1) (r1.mono e5)) (.cons (.lst (by rw [pub_new hsh]; exact a2) (r2.mono e5)) (.cons (.lst (by rw [pub_new hrg]; exact a3) (r3.mono e5)) (.cons (.lst (by rw [pub_new hw4]; exact a4) (r4.mono e5)) .nil)))))
    have o5 : Okk K [] [.val (.ref p), .dat (schD C T), .dat (.str x), .dat (partsD CP C T M1), .any, .any, .any, .any, .any, .any] [] (pubB B H1 H') H' σ' := ⟨i5, slots_dat (o4.sl.mono e5) (i := 3) rfl rpp, True.intro⟩
    have s05 : Stp [] B0 H0 (pubB B H1 H') H' := (s0.trans s1).trans s5
    generalize pubB B H1 H' = B5 at b5 o5 s05
    clear e5 i5 s5 rpp w1 w2 wk
    try dsimp only []
    refine st_seq (st_fldPlain (i := 0) (ds := []) s05 o5 hp0 b5 rfl hp5 .nil cV.cl cV.n1 (by decide) (by simp) (ev_var (i := 1) rfl) fun v1 B6 H6 s6 o6 b6 hp6 rf6 => ?_)
    try dsimp only []
    refine st_seq (st_fldPlain (i := 0) s6 o6 hp0 b6 rfl hp6 rf6 cV.cl cV.n2 (by simp) (by decide +kernel : ("nodes" : Str) ∉ (["schema"] : List Str)) (ev_cb (ea_cons (ev_pnodes cP (i := 3) rfl) ea_nil) cb_tupleL) fun v2 B7 H7 s7 o7 b7 hp7 rf7 => ?_)
    try dsimp only []
    refine st_seq (st_fldPlain (i := 0) s7 o7 hp0 b7 rfl hp7 rf7 cV.cl cV.n3 (by simp) (by decide +kernel : ("shown" : Str) ∉ (["schema", "nodes"] : List Str)) (ev_cb (ea_cons (ev_pshown cP (i := 3) rfl) ea_nil) cb_tupleL) fun v3 B8 H8 s8 o8 b8 hp8 rf8 => ?_)
    try dsimp only []
    refine st_seq (st_fldPlain (i := 0) s8 o8 hp0 b8 rfl hp8 rf8 cV.cl cV.n4 (by simp) (by decide +kernel : ("ranges" : Str) ∉ (["schema", "nodes", "shown"] : List Str)) (ev_cb (ea_cons (ev_pranges cP (i := 3) rfl) ea_nil) cb_tupleL) fun v4 B9 H9 s9 o9 b9 hp9 rf9 => ?_)
    try dsimp only []
    refine st_seq (st_fldPlain (i := 0) s9 o9 hp0 b9 rfl hp9 rf9 cV.cl cV.n5 (by simp) (by decide +kernel : ("_text" : Str) ∉ (["schema", "nodes", "shown", "ranges"] : List Str)) (ev_var (i := 2) rfl) fun v5 B10 H10 s10 o10 b10 hp10 rf10 => ?_)
    try dsimp only []
    dsimp only [List.nil_append, List.cons_append] at hp10 rf10
    have look : ∀ node, node < M1.nodes.length → ∃ cols, T.lookup (tabAt M1 node) = some cols ∧ colsOf T M1 node = cols ∧ cols.length ≤ 1000 := fun node hnd => by
      obtain ⟨cols, a, b, c⟩ := tab_look tk.sc.2 mokf hnd
      exact ⟨cols, a, b, (tk.cn _ c).2⟩
    -- steps
    refine st_seq (st_fldRead (i := 0) s10 o10 hp0 b10 rfl hp10 rf10 cV.cl cV.n6 (by simp) (by decide +kernel : ("steps" : Str) ∉ (["schema", "nodes", "shown", "ranges", "_text"] : List Str)) (ev_cb (ea_cons (EvF.ev (ef_mapE (l := M1.nodes.drop 1) (enc := nodeD) (wd_lst ((ev_sl (ev_pnodes cP (i := 3) rfl) (eo_some (ev_int (i := 1))) eo_none sd_L).eq (by rw [show ((1 : Int)) = ((1 : Nat) : Int) from rfl, cut_sufN, ← List.map_drop]))) (stepD T M1) (by rw [List.length_drop]; have := mokf.nl; omega) (fun p' i' y acc hy => ?_))) ea_nil) cb_tupleL) ?_ fun v6 B11 H11 s11 o11 b11 hp11 rf11 => ?_)
    · rw [List.getElem?_drop] at hy
      rcases vok.nd _ _ hy with ⟨z, _⟩ | ⟨_, np, r, hq, hlt, hlk⟩
      · omega
      · obtain ⟨o, t⟩ := y
        cases (show o = some (np, r) from hq)
        have hj := (List.getElem?_eq_some_iff.mp hy).1
        obtain ⟨cols, c1, c2, c3⟩ := look np (by omega)
        obtain ⟨j, hj⟩ := look_first (c2 ▸ hlk)
        exact ⟨_, _, g_name, by decide, ev_meth1 (ev_var (i := 0) rfl) (vfs (tail := _ :: _ :: _ :: []) (ks := ["shown", "ranges", "_text"]) rfl (by decide +kernel) (by decide +kernel)).ns (ea_cons (ev_var (i := 6) rfl) ea_nil) ⟨_, T, M1, np, r, cols, j, t, rfl, vfs (tail := _ :: _ :: _ :: []) (ks := ["shown", "ranges", "_text"]) rfl (by decide +kernel) (by decide +kernel), by omega, c1, c3, hj, rfl, rfl, rfl, rfl⟩⟩
    · exact ndA_map nd_step _
    dsimp only [List.nil_append, List.cons_append] at hp11 rf11
    try dsimp only []
    -- looks
    refine st_seq (st_fldRead (i := 0) s11 o11 hp0 b11 rfl hp11 rf11 cV.cl cV.n7 (by simp) (by decide +kernel : ("looks" : Str) ∉ (["schema", "nodes", "shown", "ranges", "_text", "steps"] : List Str)) (ev_cb (ea_cons (EvF.ev (ef_mapE (l := M1.shown) (enc := shownD) (wd_lst (ev_pshown cP (i := 3) rfl)) (lookDV T M1) (by have := vok.sz; omega) (fun p' i' y acc hy => ?_))) ea_nil) cb_tupleL) ?_ fun v7 B12 H12 s12 o12 b12 hp12 rf12 => ?_)
    · obtain ⟨a, b⟩ := vok.sh y (List.mem_of_getElem? hy)
      obtain ⟨cols, c1, c2, c3⟩ := look y.1 a
      obtain ⟨j, hj⟩ := look_first (c2 ▸ b)
      have vf := vfs (C := C) (T := T) (M := M1) (tail := [(("shown" : Str), D.tup (M1.shown.map shownD)), ("ranges", .tup (M1.ranges.map rangeMD)), ("_text", .str x), ("steps", .tup ((M1.nodes.drop 1).map (stepD T M1)))]) (ks := ["shown", "ranges", "_text", "steps"]) rfl (by decide +kernel) (by decide +kernel)
      exact ⟨_, _, (g_tup (g_cons g_name (g_cons g_name g_nil)) : GR K _ _ (.tup [.int (y.1 : Nat), .str y.2]) _ _), by decide, ev_tup (ds := [.int (y.1 : Nat), .int (placeF T M1 y.1 y.2 : Nat)]) (ea_cons (ev_var (i := 6) rfl) (ea_cons (ev_meth1 (ev_var (i := 0) rfl) vf.np (ea_cons (ev_var (i := 6) rfl) (ea_cons (ev_var (i := 7) rfl) ea_nil)) ⟨_, T, M1, y.1, y.2, cols, j, rfl, vf, a, c1, c3, hj, rfl, rfl, rfl, rfl⟩) ea_nil)) (by simp)⟩
    · exact ndA_map (fun _ => rfl) _
    dsimp only [List.nil_append, List.cons_append] at hp12 rf12
    try dsimp only []
    -- tests
    refine st_fldRead (i := 0) s12 o12 hp0 b12 rfl hp12 rf12 cV.cl cV.n8 (by simp) (by decide +kernel : ("tests" : Str) ∉ (["schema", "nodes", "shown", "ranges", "_text", "steps", "looks"] : List Str)) (ev_cb (ea_cons (EvF.ev (ef_mapE (l := M1.ranges) (enc := rangeMD) (wd_lst (ev_pranges cP (i := 3) rfl)) (testD T M1) (by have := vok.rl; omega) (fun p' i' y acc hy => ?_))) ea_nil) cb_tupleL) ?_ fun v8 B13 H13 s13 o13 b13 hp13 rf13 => ?_
    · obtain ⟨n1, c, lo, hi'⟩ := y
      obtain ⟨a, b⟩ := vok.rg _ (List.mem_of_getElem? hy)
      obtain ⟨cols, c1, c2, c3⟩ := look n1 a
      obtain ⟨j, hj⟩ := look_first (c2 ▸ b)
      have vf := vfs (C := C) (T := T) (M := M1) (tail := [(("shown" : Str), D.tup (M1.shown.map shownD)), ("ranges", .tup (M1.ranges.map rangeMD)), ("_text", .str x), ("steps", .tup ((M1.nodes.drop 1).map (stepD T M1))), ("looks", .tup (M1.shown.map (lookDV T M1)))]) (ks := ["shown", "ranges", "_text", "steps", "looks"]) rfl (by decide +kernel) (by decide +kernel)
      exact ⟨_, _, (g_tup (g_cons g_name (g_cons g_name (g_cons g_name (g_cons g_name g_nil)))) : GR K _ _ (.tup [.int (n1 : Nat), .str c, optI lo, optI hi']) _ _), by decide, ev_tup (ds := [.int (n1 : Nat), .int (placeF T M1 n1 c : Nat), optI lo, optI hi']) (ea_cons (ev_var (i := 6) rfl) (ea_cons (ev_meth1 (ev_var (i := 0) rfl) vf.np (ea_cons (ev_var (i := 6) rfl) (ea_cons (ev_var (i := 7) rfl) ea_nil)) ⟨_, T, M1, n1, c, cols, j, rfl, vf, a, c1, c3, hj, rfl, rfl, rfl, rfl⟩) (ea_cons (ev_var (i := 8) rfl) (ea_cons (ev_var (i := 9) rfl) ea_nil)))) (by simp)⟩
    · exact ndA_map nd_test _
    dsimp only [List.nil_append, List.cons_append] at hp13 rf13
    try dsimp only []
    refine q (upd B13 p (.ins CV dx [("schema", v1), ("nodes", v2), ("shown", v3), ("ranges", v4), ("_text", v5), ("steps", v6), ("looks", v7), ("tests", v8)])) H13 ⟨s13.ex.trans (Ex.new b13), s13.fr, fun b u e => ?_, s13.dm⟩ (fun b u e => ?_) (Rp.obj upd_same (RpF.mono (Ex.new b13) rf13))
    · rw [upd_ne (ne_of_none e hp0)]; exact s13.nb b u e
    · by_cases hb : b = p
      · subst hb; rw [upd_same] at e; cases e; exact hp13
      · rw [upd_ne hb] at e; exact o13.ex b u e
end
end T3
namespace SP
open PySem L2 DV PM
def preLText : Pre := fun rs Pl cs r cs' => ∃ T, rs = [.dat (encTs T)] ∧ tabsOk T ∧ Pl = [] ∧ cs = [] ∧ r = .dat (.str (textOf T)) ∧ cs' = []
end SP
namespace T3
open PySem L2 DV PM SP
abbrev s_l_schema_text : Stmt := topS 39
abbrev N_l_schema_text : List Str := ["tables", "rows", "table", "columns", "name", "target"]
theorem sc_l_schema_text : FnScope N_l_schema_text ["tables"] (defScope s_l_schema_text) := ⟨rfl, rfl, rfl, by decide +kernel, rfl, by decide +kernel, by decide +kernel⟩

section
variable {P : Program} {w : World} {K : PySem.W.Frag} {mg : Str → Option Value} {base : Heap} {C : Addr}
theorem ok_ltext {f : Addr} {fd : FuncData} (F : Fun K "_law_schema_text" "_law_schema_text" s_l_schema_text f fd) : FnOk P w K mg base CX0 1 f fd ["tables"] (spM K preLText) := by
  refine ok_body F sc_l_schema_text (fun rs Pl cs r cs' h => ?_) (fun X hX hr => ?_)
  · obtain ⟨T, rfl, _⟩ := h
    rfl
  obtain ⟨cdv, A, outer, s, H, E, rfl⟩ := hX
  have nd := sc_l_schema_text.nd
  refine ⟨_, (pss_cons (ps_set (i := 1) nd rfl (.inl rfl) (pe_lst pa_nil))
      (pss_cons (ps_for PassesOwn.never rfl (pi_list (pv 0)) (pg_tup (by rfl) (by exact (pgs_cons (by exact (pg_name (i := 2) nd (by rfl) (by first | exact .inl rfl | exact .inr rfl))) (by exact (pgs_cons (by exact (pg_name (i := 3) nd (by rfl) (by first | exact .inl rfl | exact .inr rfl))) (by exact pgs_nil)))))) (pss_cons (ps_expr (pe_bm PySem.F.plainAttrs_list PySem.F.slot_list_append PySem.F.type_list_append mt_append (pv 1) (pa_cons (pe_op op_addA pe_str (pv 2)) pa_nil)))
      (pss_one (ps_for PassesOwn.never rfl (pi_list (pv 3)) (pg_tup (by rfl) (by exact (pgs_cons (by exact (pg_name (i := 4) nd (by rfl) (by first | exact .inl rfl | exact .inr rfl))) (by exact (pgs_cons (by exact (pg_name (i := 5) nd (by rfl) (by first | exact .inl rfl | exact .inr rfl))) (by exact pgs_nil)))))) (pss_one (ps_expr (pe_bm PySem.F.plainAttrs_list PySem.F.slot_list_append PySem.F.type_list_append mt_append (pv 1) (pa_cons (pe_ifExp (pt_cmpR op_isN' (pv 5) pe_non (nomark _)) (pe_op op_addA pe_str (pv 4)) (pe_op op_addA (pe_op op_addA (pe_op op_addA pe_str (pv 4)) pe_str) (pv 5))) pa_nil))))))))
      (pss_one (ps_ret (pe_join pe_str (pv 1)))))), ?_⟩
  intro rs Pl cs r cs' hp B0 H0 σ Dn st hP hd hn
  obtain ⟨T, rfl, hT, rfl, rfl, rfl, rfl⟩ := hp
  refine st_new (i := 1) st (fun p σ1 H1 hp0 hpn st1 => ?_)
  refine st_for (α := Unit) st1 (wd_lst (ev_var rfl)) (fun _ _ => True) (fun _ _ => [.dat (encTs T), .val (.ref p), .any, .any, .any, .any]) (fun i _ => [(rowsOf (T.take i)).map D.str]) () True.intro ⟨.rfl _, .rfl _, .any _, .any _, .any _, .any _, True.intro⟩ rfl ?_ ?_
  · intro B1 H1' s1 i d z hd' _
    obtain ⟨t, ht, rfl⟩ := map_get hd'
    obtain ⟨hw, hc4, hcs⟩ := hT.2 t (List.mem_of_getElem? ht)
    have hi : i < T.length := (List.getElem?_eq_some_iff.mp ht).1
    have hrl := rows_len hT i
    have h3 := hT.1
    have l1 : ("table " : Str).length = 6 := by decide +kernel
    have hn8 : t.1.length ≤ 8 := hw.2.2.1
    refine ⟨_, _, g_tup (g_cons g_name (g_cons g_name g_nil)), fun σ2 H2 st2 => ?_⟩
    refine st_app (j := 0) (cs1 := [(rowsOf (T.take i)).map D.str]) (ds := (rowsOf (T.take i)).map D.str) (d := .str (rowOf ["table", t.1])) st2 rfl ?_ rfl ⟨_, rfl⟩ rfl (by rw [List.length_map]; omega) (fun H3 st3 => ?_)
    · rw [← row_table, Str.empty_append]
      exact ev_op ev_str (ev_var rfl) (od_addS (by omega))
    refine st_for (α := Unit) st3 (wd_lst (ev_var (i := 3) rfl)) (fun _ _ => True) (fun _ _ => [.dat (encTs T), .val (.ref p), .any, .any, .any, .any]) (fun j _ => [((rowsOf (T.take i)) ++ [rowOf ["table", t.1]] ++ (t.2.take j).map (fun c => rowOf (colWords c))).map D.str]) () True.intro ⟨.rfl _, .rfl _, .any _, .any _, .any _, .any _, True.intro⟩ (by simp) ?_ ?_
    · intro B2 H2' s2 j d z hd2 _
      obtain ⟨⟨n, t'⟩, hm, rfl⟩ := map_get hd2
      have hco := hcs _ (List.mem_of_getElem? hm)
      have hn8' : n.length ≤ 8 := hco.1.2.2.1
      have e1 : ((rowsOf (T.take i)) ++ [rowOf ["table", t.1]] ++ (t.2.take (j + 1)).map (fun c => rowOf (colWords c))).map D.str = ((rowsOf (T.take i)) ++ [rowOf ["table", t.1]] ++ (t.2.take j).map (fun c => rowOf (colWords c))).map D.str ++ [D.str (rowOf (colWords (n, t')))] := by
        rw [List.take_add_one, hm]
        simp
      have lenb : (((rowsOf (T.take i)) ++ [rowOf ["table", t.1]] ++ (t.2.take j).map (fun c => rowOf (colWords c))).map D.str).length ≤ 1000000 := by
        simp only [List.length_append, List.length_map, List.length_cons, List.length_nil, List.length_take]
        omega
      have lp : ("  plain " : Str).length = 8 := by decide +kernel
      have lr : ("  ref " : Str).length = 6 := by decide +kernel
      have ls : (" " : Str).length = 1 := by decide +kernel
      cases t' with
      | none =>
        refine ⟨_, _, g_tup (g_cons g_name (g_cons g_name g_nil)), fun σ4 H4 st4 => ?_⟩
        refine st_app (j := 0) (cs1 := [((rowsOf (T.take i)) ++ [rowOf ["table", t.1]] ++ (t.2.take j).map (fun c => rowOf (colWords c))).map D.str]) (ds := ((rowsOf (T.take i)) ++ [rowOf ["table", t.1]] ++ (t.2.take j).map (fun c => rowOf (colWords c))).map D.str) (d := .str (rowOf (colWords (n, none)))) st4 rfl ?_ rfl ⟨_, rfl⟩ rfl lenb (fun H5 st5 => ⟨(), True.intro, ?_⟩)
        · rw [← row_plain, Str.empty_append]
          exact ev_if (b := true) (et_test (ev_op (ev_var rfl) ev_non od_isN)) (fun _ => ev_op ev_str (ev_var rfl) (od_addS (by omega))) (fun z => by cases z)
        · have st6 : Sta K [p] B2 H2' [.dat (encTs T), .val (.ref p), .any, .any, .any, .any] [((rowsOf (T.take i)) ++ [rowOf ["table", t.1]] ++ (t.2.take j).map (fun c => rowOf (colWords c))).map D.str ++ [D.str (rowOf (colWords (n, none)))]] σ4 H5 := st5.le ⟨.rfl _, .rfl _, .any _, .any _, .any _, .any _, True.intro⟩
          rw [← e1] at st6
          exact st6
      | some t' =>
        have ht8 : t'.length ≤ 8 := (hco.2 _ rfl).2.2.1
        refine ⟨_, _, g_tup (g_cons g_name (g_cons g_name g_nil)), fun σ4 H4 st4 => ?_⟩
        refine st_app (j := 0) (cs1 := [((rowsOf (T.take i)) ++ [rowOf ["table", t.1]] ++ (t.2.take j).map (fun c => rowOf (colWords c))).map D.str]) (ds := ((rowsOf (T.take i)) ++ [rowOf ["table", t.1]] ++ (t.2.take j).map (fun c => rowOf (colWords c))).map D.str) (d := .str (rowOf (colWords (n, some t')))) st4 rfl ?_ rfl ⟨_, rfl⟩ rfl lenb (fun H5 st5 => ⟨(), True.intro, ?_⟩)
        · rw [← row_ref, Str.empty_append]
          exact ev_if (b := false) (et_test (ev_op (ev_var rfl) ev_non od_isN)) (fun z => by cases z) (fun _ => ev_op (ev_op (ev_op ev_str (ev_var rfl) (od_addS (by omega))) ev_str (od_addS (by simp only [len_app]; omega))) (ev_var rfl) (od_addS (by simp only [len_app]; omega)))
        · have st6 : Sta K [p] B2 H2' [.dat (encTs T), .val (.ref p), .any, .any, .any, .any] [((rowsOf (T.take i)) ++ [rowOf ["table", t.1]] ++ (t.2.take j).map (fun c => rowOf (colWords c))).map D.str ++ [D.str (rowOf (colWords (n, some t')))]] σ4 H5 := st5.le ⟨.rfl _, .rfl _, .any _, .any _, .any _, .any _, True.intro⟩
          rw [← e1] at st6
          exact st6
    · intro z σ4 H4 _ st4
      refine ⟨(), True.intro, ?_⟩
      have e2 : ((rowsOf (T.take i)) ++ [rowOf ["table", t.1]] ++ (t.2.take (t.2.map encC).length).map (fun c => rowOf (colWords c))).map D.str = (rowsOf (T.take (i + 1))).map D.str := by
        rw [words_snoc T i t ht, List.length_map, List.take_length]
      rw [e2] at st4
      exact st4
  · intro z σ2 H2 _ st2
    have st3 := Sta.pub (i := 1) st2 hp0 rfl
    rw [List.length_map, List.take_length] at st3
    exact st_ret st3 (ev_join ev_str (ev_var rfl) (text_small hT)) hd
end
end T3
namespace SP
open PySem L2 DV PM IX
def tgtD (c : Col) : D := match c.2 with | none => .non | some n => .str n
def idxD (names : List Str) (c : Col) : D := match c.2 with | none => .non | some n => .int (idxN n names : Nat)
def shapeD (T : List Tab) : D := .lst (T.map fun t => .lst (t.2.map (idxD (T.map (·.1)))))
def tgtsOk (T : List Tab) : Prop := ∀ t ∈ T, ∀ c ∈ t.2, ∀ n, c.2 = some n → n ∈ T.map (·.1)
def preShape (C : Addr) : Pre := fun rs Pl cs r cs' => ∃ T, rs = [.dat (schD C T)] ∧ schOk T ∧ tgtsOk T ∧ Pl = [] ∧ cs = [] ∧ r = .dat (shapeD T) ∧ cs' = []
theorem lookup_nodup : ∀ {T : List Tab} {t : Tab}, (T.map (·.1)).Nodup → t ∈ T → T.lookup t.1 = some t.2
  | [], _, _, h => by cases h
  | a :: r, t, nd, h => by
    obtain ⟨n, c⟩ := a
    rcases List.mem_cons.mp h with rfl | h'
    · simp [List.lookup]
    · have nd' : n ∉ r.map (·.1) ∧ (r.map (·.1)).Nodup := by simpa using nd
      have ne : ¬ t.1 = n := fun z => nd'.1 (z ▸ List.mem_map.mpr ⟨t, h', rfl⟩)
      have e : (t.1 == n) = false := by simpa using ne
      simp only [List.lookup, e]
      exact lookup_nodup nd'.2 h'
end SP
namespace T3
open PySem L2 DV PM SP IX
section
variable {P : Program} {w : World} {K : PySem.W.Frag} {mg : Str → Option Value} {base : Heap} {C : Addr}
end
end T3
namespace SP
open PySem L2 DV PM IX
def NAMES : List (List Str) := [["a", "b", "c"], ["region", "shop", "sale"], ["c", "b", "a"], ["t", "u", "v"]]
def CNT : List Nat := [1, 2, 2, 2, 3, 3]
def FEW : List Nat := [0, 1, 1, 1, 2]
def innerT (found : List Tab) (k : Nat) : Nat → List Col × Fd → List Col × Fd
  | 0, z => z
  | j + 1, z =>
    ((innerT found k j z).1 ++ [((["r", "one"] : List Str).getD j "", some ((found.getD (([k - 1, k - 1, fdI (innerT found k j z).2 k] : List Nat).getD (fdI (fdT (innerT found k j z).2 k) 3) 0) ("", [])).1))], fdT (fdT (innerT found k j z).2 k) 3)
/-- of one table: its columns without targets, how many with, the feed behind that -/
def WORDS (k : Nat) : List (List Str) := [["p", "size"], ["p", "size"], [if k = 0 then "r" else "p", "t"]]
def wordsOf (k : Nat) (s : Fd) : List Str := (WORDS k).getD (fdI s 3) []
def cols0 (k : Nat) (s : Fd) : List Col := ((wordsOf k s).take (FEW.getD (fdI (fdT s 3) 5) 0)).map fun n => (n, none)
def manyOf (k left : Nat) (s : Fd) : Nat := if k = 0 then 0 else min left (FEW.getD (fdI (fdT s 5) 5) 0)
def feed2 (k : Nat) (s : Fd) : Fd := if k = 0 then fdT s 5 else fdT (fdT s 5) 5
def outerT (names : List Str) (s0 : Fd) : Nat → List Tab × Nat × Fd
  | 0 => ([], 3, s0)
  | k + 1 =>
    let y := outerT names s0 k
    let w := innerT y.1 k (manyOf k y.2.1 (fdT y.2.2 3)) (cols0 k y.2.2, feed2 k (fdT y.2.2 3))
    (y.1 ++ [(names.getD k "", w.1)], y.2.1 - manyOf k y.2.1 (fdT y.2.2 3), w.2)
def namesOf (s : Fd) : List Str := NAMES.getD (fdI s 4) []
def countOf (s : Fd) : Nat := CNT.getD (fdI (fdT s 4) 6) 0
def tablesOf (s : Fd) : List Tab := (outerT (namesOf s) (fdT (fdT s 4) 6) (countOf s)).1
def feedOf (s : Fd) : Fd := (outerT (namesOf s) (fdT (fdT s 4) 6) (countOf s)).2.2
def preTables : Pre := fun rs Pl cs r cs' => ∃ p s, rs = [.val (.ref p)] ∧ Pl = [p] ∧ cs = [fdD s] ∧ r = .dat (encTs (tablesOf s)) ∧ cs' = [fdD (feedOf s)]
theorem pk_get {α : Type} (l : List α) (f : α → D) (a0 : α) (s : Fd) (n : Nat) (hn : l.length = n) (h : 0 < n) : (l.map f)[fdI s n]? = some (f (l.getD (fdI s n) a0)) := by
  have hi : fdI s n < l.length := by rw [hn]; exact fdI_lt h
  rw [List.getElem?_map, List.getElem?_eq_getElem hi, List.getD_eq_getElem?_getD, List.getElem?_eq_getElem hi]
  rfl
theorem outer_len (names : List Str) (s0 : Fd) : ∀ k, (outerT names s0 k).1.length = k
  | 0 => rfl
  | k + 1 => by
    show ((outerT names s0 k).1 ++ [_]).length = k + 1
    rw [List.length_append, outer_len names s0 k]; rfl
theorem inner_len (found : List Tab) (k : Nat) (z : List Col × Fd) : ∀ j, (innerT found k j z).1.length = z.1.length + j
  | 0 => rfl
  | j + 1 => by
    show ((innerT found k j z).1 ++ [_]).length = _
    rw [List.length_append, inner_len found k z j]; rfl
theorem names_len (s : Fd) : (namesOf s).length = 3 := by
  have h := fdI_lt (s := s) (show 0 < 4 by decide)
  unfold namesOf NAMES
  generalize fdI s 4 = i at h
  match i, h with
  | 0, _ => rfl
  | 1, _ => rfl
  | 2, _ => rfl
  | 3, _ => rfl
theorem few_le (i : Nat) : FEW.getD i 0 ≤ 2 := by
  unfold FEW
  match i with
  | 0 => decide
  | 1 => decide
  | 2 => decide
  | 3 => decide
  | 4 => decide
  | n + 5 => simp
theorem cnt_le (i : Nat) : CNT.getD i 0 ≤ 3 := by
  unfold CNT
  match i with
  | 0 => decide
  | 1 => decide
  | 2 => decide
  | 3 => decide
  | 4 => decide
  | 5 => decide
  | n + 6 => simp
theorem many_le (k left : Nat) (s : Fd) : manyOf k left s ≤ 2 ∧ manyOf k left s ≤ left := by
  have := few_le (fdI (fdT s 5) 5)
  unfold manyOf
  split <;> omega
theorem words_len (k : Nat) (s : Fd) : (wordsOf k s).length = 2 := by
  have h := fdI_lt (s := s) (show 0 < 3 by decide)
  unfold wordsOf WORDS
  generalize fdI s 3 = i at h
  match i, h with
  | 0, _ => rfl
  | 1, _ => rfl
  | 2, _ => rfl
theorem cols0_le (k : Nat) (s : Fd) : (cols0 k s).length ≤ 2 := by
  unfold cols0
  rw [List.length_map, List.length_take, words_len]
  omega
theorem cutTake {ds : List D} {n : Nat} (h : n ≤ ds.length) : cutD ds none (some (n : Int)) = ds.take n := by
  unfold cutD
  rw [HT.sIx_none, HT.sIx_nat, List.drop_zero, Nat.sub_zero, Nat.min_eq_left h]
section
variable {K : PySem.W.Frag} {P : List Addr} {B0 H0 H : Hp} {ss : List Sl} {cs : List (List D)} {σ : L2.St} {De : Ends}
theorem Sta.setv {i : Nat} {v : V} {r : Sl} (h : Sta K P B0 H0 ss cs σ H) (hv : ∀ B, RS K B v r) : Sta K P B0 H0 (ss.set i r) cs (σ.set i (some v)) H := by
  obtain ⟨B, s, o⟩ := h
  exact ⟨B, s, o.ex, o.sl.set (hv B), o.mu⟩
theorem st_parNew {i j : Nat} {n : Int} (h : Sta K P B0 H0 ss cs σ H) (k : ∀ p σ' H', H0 p = none → p ∉ P → Sta K (p :: P) B0 H0 ((ss.set i (.val (.ref p))).set j (.dat (.int n))) ([] :: cs) σ' H' → De.nx σ' H') : tPar i j (tCons (tLst tNil) (tCons (tC (.int n)) tNil)) De σ H := by
  have q := st_new (D := { De with nx := fun σ' H' => De.nx (σ'.set j (some (.int n))) H' }) (i := i) h (fun p σ' H' a b c => k p _ _ a b (Sta.setv c fun B => .int n))
  exact ⟨q.1, fun p hp => ⟨_, _, rfl, q.2 p hp⟩⟩
end
end SP
namespace T3
open PySem L2 DV PM SP IX
abbrev s_l_tables : Stmt := topS 38
abbrev N_l_tables : List Str := ["feed", "names", "found", "left", "k", "words", "columns", "many", "place", "target", "name"]
theorem sc_l_tables : FnScope N_l_tables ["feed"] (defScope s_l_tables) := ⟨rfl, rfl, rfl, by decide +kernel, rfl, by decide +kernel, by decide +kernel⟩

section
variable {P : Program} {w : World} {K : PySem.W.Frag} {mg : Str → Option Value} {base : Heap} {C : Addr}
theorem ok_tables {f fP fT : Addr} {fd fdP fdT' : FuncData} (F : Fun K "_law_tables" "_law_tables" s_l_tables f fd) (G_l_pick : Def P w K mg base 2 "_law_pick" fP fdP ["feed", "options"] (spM K prePick)) (G_l_take : Def P w K mg base 1 "_law_take" fT fdT' ["feed", "size"] (spM K preTake)) (b_range : mg "range" = none) (b_min : mg "min" = none) :
    FnOk P w K mg base CX0 3 f fd ["feed"] (spM K preTables) := by
  refine ok_body F sc_l_tables (fun rs Pl cs r cs' h => ?_) (fun X hX hr => ?_)
  · obtain ⟨p, s, rfl, _⟩ := h
    rfl
  obtain ⟨cdv, A, outer, s, H, E, rfl⟩ := hX
  have nd := sc_l_tables.nd
  refine ⟨_, (pss_cons (ps_set (i := 1) nd rfl (.inl rfl) (pe_def G_l_pick hr (by decide) (by rfl) (pa_cons (pv 0) (pa_cons (pe_lst (pa_cons (pe_lst (pa_cons pe_str (pa_cons pe_str (pa_cons pe_str pa_nil)))) (pa_cons (pe_lst (pa_cons pe_str (pa_cons pe_str (pa_cons pe_str pa_nil)))) (pa_cons (pe_lst (pa_cons pe_str (pa_cons pe_str (pa_cons pe_str pa_nil)))) (pa_cons (pe_lst (pa_cons pe_str (pa_cons pe_str (pa_cons pe_str pa_nil)))) pa_nil))))) pa_nil))))
      (pss_cons (ps_par (i := 2) (j := 3) rfl nd rfl rfl (by decide) rfl rfl (pa_cons (pe_lst pa_nil) (pa_cons pe_int pa_nil)) (by rfl))
      (pss_cons (ps_for PassesOwn.never rfl (pi_range1 (by rfl) b_range (pa_cons (pe_def G_l_pick hr (by decide) (by rfl) (pa_cons (pv 0) (pa_cons (pe_lst (pa_cons pe_int (pa_cons pe_int (pa_cons pe_int (pa_cons pe_int (pa_cons pe_int (pa_cons pe_int pa_nil))))))) pa_nil))) pa_nil)) (pg_name (i := 4) nd (by rfl) (by first | exact .inl rfl | exact .inr rfl)) (pss_cons (ps_set (i := 5) nd rfl (.inl rfl) (pe_def G_l_pick hr (by decide) (by rfl) (pa_cons (pv 0) (pa_cons (pe_lst (pa_cons (pe_lst (pa_cons pe_str (pa_cons pe_str pa_nil))) (pa_cons (pe_lst (pa_cons pe_str (pa_cons pe_str pa_nil))) (pa_cons (pe_lst (pa_cons (pe_ifExp (pt_cmpR (op_eqA hr.units) (pv 4) pe_int (nomark _)) pe_str pe_str) (pa_cons pe_str pa_nil))) pa_nil)))) pa_nil))))
      (pss_cons (ps_setLc (i := 6) (own := [("name", 10)]) (g := (gName 10)) (tt := tYes) (te := (tTup (tCons (tVar 10) (tCons (tC .non) tNil)))) rfl nd rfl rfl (sw_true rfl rfl rfl (by decide +kernel)) (pi_list (pe_slice sl_3 (pv 5) po_none (po_some (pe_def G_l_pick hr (by decide) (by rfl) (pa_cons (pv 0) (pa_cons (pe_lst (pa_cons pe_int (pa_cons pe_int (pa_cons pe_int (pa_cons pe_int (pa_cons pe_int pa_nil)))))) pa_nil)))))) (blkOk_by (N := N_l_tables) (sc := defScope s_l_tables) (by decide +kernel)) (by intro _ _ _ _ _; exact (pg_name (i := 10) nd (by rfl) (by first | exact .inl rfl | exact .inr rfl))) (by intro _ _ _ _ _; exact pts_nil) (by intro _ _ _ _ _; exact (pe_tup (pa_cons (pv 10) (pa_cons pe_non pa_nil)))))
      (pss_cons (ps_set (i := 7) nd rfl (.inl rfl) (pe_ifExp (pt_cmpR (op_eqA hr.units) (pv 4) pe_int (nomark _)) pe_int (pe_callB (call_min2' rfl) (by rfl) b_min (by decide +kernel) (pa_cons (pv 3) (pa_cons (pe_def G_l_pick hr (by decide) (by rfl) (pa_cons (pv 0) (pa_cons (pe_lst (pa_cons pe_int (pa_cons pe_int (pa_cons pe_int (pa_cons pe_int (pa_cons pe_int pa_nil)))))) pa_nil))) pa_nil)))))
      (pss_cons (ps_for PassesOwn.never rfl (pi_range1 (by rfl) b_range (pa_cons (pv 7) pa_nil)) (pg_name (i := 8) nd (by rfl) (by first | exact .inl rfl | exact .inr rfl)) (pss_cons (ps_set (i := 9) nd rfl (.inl rfl) (pe_ix ix_seq (pe_ix ix_seq (pv 2) (pe_def G_l_pick hr (by decide) (by rfl) (pa_cons (pv 0) (pa_cons (pe_lst (pa_cons (pe_op op_sub (pv 4) pe_int) (pa_cons (pe_op op_sub (pv 4) pe_int) (pa_cons (pe_def G_l_take hr (by decide) (by rfl) (pa_cons (pv 0) (pa_cons (pv 4) pa_nil))) pa_nil)))) pa_nil))) (fun _ _ => rfl)) pe_int (fun _ _ => rfl)))
      (pss_one (ps_expr (pe_bm PySem.F.plainAttrs_list PySem.F.slot_list_append PySem.F.type_list_append mt_append (pv 6) (pa_cons (pe_tup (pa_cons (pe_ix ix_seq (pe_lst (pa_cons pe_str (pa_cons pe_str pa_nil))) (pv 8) (fun _ _ => rfl)) (pa_cons (pv 9) pa_nil))) pa_nil))))))
      (pss_cons (ps_set (i := 3) nd rfl (.inl rfl) (pe_op op_sub (pv 3) (pv 7)))
      (pss_one (ps_expr (pe_bm PySem.F.plainAttrs_list PySem.F.slot_list_append PySem.F.type_list_append mt_append (pv 2) (pa_cons (pe_tup (pa_cons (pe_ix ix_seq (pv 1) (pv 4) (fun _ _ => rfl)) (pa_cons (pv 6) pa_nil))) pa_nil))))))))))
      (pss_one (ps_ret (pv 2)))))), ?_⟩
  intro rs Pl cs r cs' hp B0 H0 σ Dn st hP hd hn
  obtain ⟨p, s, rfl, rfl, rfl, rfl, rfl⟩ := hp
  refine st_seq (st_asg (i := 1) (r := .dat (.lst ((namesOf s).map D.str))) (cs1 := [fdD (fdT s 4)]) st (ev_call1 (j := 0) (ds := fdD s) (ds' := fdD (fdT s 4)) (ea_cons (r := .val (.ref p)) (ev_var rfl) (ea_cons (ev_lst (ds := NAMES.map fun l => .lst (l.map D.str)) (ea_cons (ev_lst (ds := (["a", "b", "c"] : List Str).map D.str) (ea_cons ev_str (ea_cons ev_str (ea_cons ev_str ea_nil)))) (ea_cons (ev_lst (ds := (["region", "shop", "sale"] : List Str).map D.str) (ea_cons ev_str (ea_cons ev_str (ea_cons ev_str ea_nil)))) (ea_cons (ev_lst (ds := (["c", "b", "a"] : List Str).map D.str) (ea_cons ev_str (ea_cons ev_str (ea_cons ev_str ea_nil)))) (ea_cons (ev_lst (ds := (["t", "u", "v"] : List Str).map D.str) (ea_cons ev_str (ea_cons ev_str (ea_cons ev_str ea_nil)))) ea_nil))))) ea_nil)) rfl rfl
    ⟨p, s, _, _, rfl, rfl, rfl, by decide, by decide, pk_get NAMES (fun l => .lst (l.map D.str)) [] s 4 rfl (by decide), rfl, rfl⟩) (fun σ1 H1 st1 => ?_))
  dsimp only []
  refine st_seq (st_parNew (i := 2) (j := 3) st1 (fun pf σ2 H2 hpf0 hpfn st2 => ?_))
  have hnp : pf ≠ p := fun z => hpfn (z ▸ List.mem_cons_self)
  dsimp only []
  refine st_seq (t := tFor _ _ _) ?_
  generalize hs0 : fdT (fdT s 4) 6 = s0
  generalize hnm : namesOf s = names at st2
  have hst2 : Sta K [pf, p] B0 H0 [.val (.ref p), .dat (.lst (names.map D.str)), .val (.ref pf), .dat (.int 3), .any, .any, .any, .any, .any, .any, .any] [[], fdD (fdT s 4)] σ2 H2 := st2
  have hcn : countOf s ≤ 3 := cnt_le _
  have hnl : names.length = 3 := by
    rw [← hnm]
    exact names_len s
  refine st_for (α := Unit) (cs1 := [[], fdD s0]) hst2 (wd_rng1 (n := ((countOf s : Nat) : Int)) (ea_cons (ev_call1 (j := 1) (cs1 := [[], fdD (fdT s 4)]) (ds := fdD (fdT s 4)) (ds' := fdD s0) (ea_cons (r := .val (.ref p)) (ev_var rfl) (ea_cons (ev_lst (ds := CNT.map fun n => D.int (n : Nat)) (ea_cons ev_int (ea_cons ev_int (ea_cons ev_int (ea_cons ev_int (ea_cons ev_int (ea_cons ev_int ea_nil))))))) ea_nil)) rfl rfl
    ⟨p, fdT s 4, _, _, rfl, rfl, rfl, by decide, by decide, pk_get CNT (fun n => .int (n : Nat)) 0 _ 6 rfl (by decide), rfl, by rw [← hs0]; rfl⟩) ea_nil) (by omega)) (fun _ _ => True)
    (fun k _ => [.val (.ref p), .dat (.lst (names.map D.str)), .val (.ref pf), .dat (.int ((outerT names s0 k).2.1 : Nat)), .any, .any, .any, .any, .any, .any, .any]) (fun k _ => [(outerT names s0 k).1.map encT, fdD (outerT names s0 k).2.2]) () True.intro ⟨.rfl _, .rfl _, .rfl _, .rfl _, .any _, .any _, .any _, .any _, .any _, .any _, .any _, True.intro⟩ rfl ?_ ?_
  · intro B1 H1' s1 k d z hd' _
    obtain ⟨hk, rfl⟩ := rangeD_get hd'
    rw [Int.zero_add]
    have hk3 : k < countOf s := by simpa using hk
    have hlen := outer_len names s0 k
    generalize hY : outerT names s0 k = Y at hlen
    obtain ⟨found, left, sk⟩ := Y
    have hfl : found.length = k := hlen
    have hnp2 := few_le (fdI (fdT sk 3) 5)
    have hml := many_le k left (fdT sk 3)
    have hc0 := cols0_le k sk
    refine ⟨_, _, g_name, fun σ3 H3 st3 => ?_⟩
    have st3 : Sta K [pf, p] B1 H1' [.val (.ref p), .dat (.lst (names.map D.str)), .val (.ref pf), .dat (.int (left : Nat)), .dat (.int (k : Nat)), .any, .any, .any, .any, .any, .any] [found.map encT, fdD sk] σ3 H3 := by
      have z := st3
      simp only [hY] at z
      exact z
    have hY1 : outerT names s0 (k + 1) = (found ++ [(names.getD k "", (innerT found k (manyOf k left (fdT sk 3)) (cols0 k sk, feed2 k (fdT sk 3))).1)], left - manyOf k left (fdT sk 3), (innerT found k (manyOf k left (fdT sk 3)) (cols0 k sk, feed2 k (fdT sk 3))).2) := by
      show (let y := outerT names s0 k
            let w := innerT y.1 k (manyOf k y.2.1 (fdT y.2.2 3)) (cols0 k y.2.2, feed2 k (fdT y.2.2 3))
            (y.1 ++ [(names.getD k "", w.1)], y.2.1 - manyOf k y.2.1 (fdT y.2.2 3), w.2)) = _
      rw [hY]
    -- words
    refine st_seq (st_asg (i := 5) (r := .dat (.lst ((wordsOf k sk).map D.str))) (cs1 := [found.map encT, fdD (fdT sk 3)]) st3 (ev_call1 (j := 1) (cs1 := [found.map encT, fdD sk]) (ds := fdD sk) (ds' := fdD (fdT sk 3)) (ea_cons (r := .val (.ref p)) (ev_var rfl) (ea_cons (ev_lst (ds := (WORDS k).map fun l => .lst (l.map D.str)) (ea_cons (ev_lst (ds := (["p", "size"] : List Str).map D.str) (ea_cons ev_str (ea_cons ev_str ea_nil))) (ea_cons (ev_lst (ds := (["p", "size"] : List Str).map D.str) (ea_cons ev_str (ea_cons ev_str ea_nil))) (ea_cons (ev_lst (ds := [.str (if k = 0 then "r" else "p"), .str "t"]) (ea_cons (ev_if (b := decide (((k : Nat) : Int) = 0)) (et_test (ev_op (ev_var rfl) ev_int od_eqI)) (fun hb => by rw [if_pos (by have := of_decide_eq_true hb; omega)]; exact ev_str) (fun hb => by rw [if_neg (by have := of_decide_eq_false hb; omega)]; exact ev_str)) (ea_cons ev_str ea_nil)) (by simp)) ea_nil))) (by simp [WORDS])) ea_nil)) rfl rfl
      ⟨p, sk, _, _, rfl, rfl, rfl, by simp [WORDS], by simp [WORDS], pk_get (WORDS k) (fun l => .lst (l.map D.str)) [] sk 3 rfl (by decide), rfl, rfl⟩) (fun σw Hw stw => ?_))
    dsimp only []
    have hwl := words_len k sk
    generalize hws : wordsOf k sk = ws at stw hwl
    have stw : Sta K [pf, p] B1 H1' [.val (.ref p), .dat (.lst (names.map D.str)), .val (.ref pf), .dat (.int (left : Nat)), .dat (.int (k : Nat)), .dat (.lst (ws.map D.str)), .any, .any, .any, .any, .any] [found.map encT, fdD (fdT sk 3)] σw Hw := stw
    refine st_asgF (i := 6) (cs1 := [found.map encT, fdD (fdT (fdT sk 3) 5)]) (ds := (cols0 k sk).map encC) stw ?_ (fun pc σ4 H4 hpc0 hpcn st4 => ?_)
    · have e1 : (cols0 k sk).map encC = (ws.take (FEW.getD (fdI (fdT sk 3) 5) 0)).map fun n => D.tup [.str n, .non] := by
        unfold cols0
        rw [List.map_map, hws]
        rfl
      rw [e1]
      refine ef_mapE (l := ws.take (FEW.getD (fdI (fdT sk 3) 5) 0)) (enc := D.str) (wd_lst ?_) _ (by rw [List.length_take]; omega) (fun p' i' n acc hd2 => ⟨_, _, g_name, by decide, ev_tup (ds := [.str n, .non]) (ea_cons (ev_var rfl) (ea_cons ev_non ea_nil)) (by simp)⟩)
      rw [List.map_take, ← cutTake (ds := ws.map D.str) (by rw [List.length_map, hwl]; exact hnp2)]
      exact ev_sl (ev_var (r := .dat (.lst (ws.map D.str))) (i := 5) rfl) eo_none (eo_some (ev_call1 (j := 1) (cs1 := [found.map encT, fdD (fdT sk 3)]) (ds := fdD (fdT sk 3)) (ds' := fdD (fdT (fdT sk 3) 5)) (ea_cons (r := .val (.ref p)) (ev_var rfl) (ea_cons (ev_lst (ds := FEW.map fun n => D.int (n : Nat)) (ea_cons ev_int (ea_cons ev_int (ea_cons ev_int (ea_cons ev_int (ea_cons ev_int ea_nil)))))) ea_nil)) rfl rfl
        ⟨p, fdT sk 3, _, _, rfl, rfl, rfl, by decide, by decide, pk_get FEW (fun n => .int (n : Nat)) 0 _ 5 rfl (by decide), rfl, rfl⟩)) sd_L
    have st4 : Sta K [pc, pf, p] B1 H1' [.val (.ref p), .dat (.lst (names.map D.str)), .val (.ref pf), .dat (.int (left : Nat)), .dat (.int (k : Nat)), .dat (.lst (ws.map D.str)), .val (.ref pc), .any, .any, .any, .any] [(cols0 k sk).map encC, found.map encT, fdD (fdT (fdT sk 3) 5)] σ4 H4 := st4
    dsimp only []
    refine st_seq (st_asg (i := 7) (r := .dat (.int (manyOf k left (fdT sk 3) : Nat))) (cs1 := [(cols0 k sk).map encC, found.map encT, fdD (feed2 k (fdT sk 3))]) st4 ?_ (fun σ5 H5 st5 => ?_))
    · refine ev_if (b := decide (((k : Nat) : Int) = 0)) (et_test (ev_op (ev_var rfl) ev_int od_eqI)) (fun hb => ?_) (fun hb => ?_)
      · have h0 : k = 0 := by have := of_decide_eq_true hb; omega
        have e1 : manyOf k left (fdT sk 3) = 0 := if_pos h0
        have e2 : feed2 k (fdT sk 3) = fdT (fdT sk 3) 5 := if_pos h0
        rw [e1, e2]
        exact ev_int
      · have h0 : ¬ k = 0 := by have := of_decide_eq_false hb; omega
        have e1 : manyOf k left (fdT sk 3) = min left (FEW.getD (fdI (fdT (fdT sk 3) 5) 5) 0) := if_neg h0
        have e2 : feed2 k (fdT sk 3) = fdT (fdT (fdT sk 3) 5) 5 := if_neg h0
        have e3 : ((min left (FEW.getD (fdI (fdT (fdT sk 3) 5) 5) 0) : Nat) : Int) = if ((FEW.getD (fdI (fdT (fdT sk 3) 5) 5) 0 : Nat) : Int) < (left : Int) then ((FEW.getD (fdI (fdT (fdT sk 3) 5) 5) 0 : Nat) : Int) else (left : Int) := by
          split <;> omega
        rw [e1, e2, e3]
        exact ev_cb (ea_cons (ev_var rfl) (ea_cons (ev_call1 (j := 2) (cs1 := [(cols0 k sk).map encC, found.map encT, fdD (fdT (fdT sk 3) 5)]) (ds := fdD (fdT (fdT sk 3) 5)) (ds' := fdD (fdT (fdT (fdT sk 3) 5) 5)) (ea_cons (r := .val (.ref p)) (ev_var rfl) (ea_cons (ev_lst (ds := FEW.map fun n => D.int (n : Nat)) (ea_cons ev_int (ea_cons ev_int (ea_cons ev_int (ea_cons ev_int (ea_cons ev_int ea_nil)))))) ea_nil)) rfl rfl
          ⟨p, fdT (fdT sk 3) 5, _, _, rfl, rfl, rfl, by decide, by decide, pk_get FEW (fun n => .int (n : Nat)) 0 _ 5 rfl (by decide), rfl, rfl⟩) ea_nil)) cb_min2
    generalize hZ : ((cols0 k sk, feed2 k (fdT sk 3)) : List Col × Fd) = z0 at hY1
    have hz1 : z0.1 = cols0 k sk := by rw [← hZ]
    have hz2 : z0.2 = feed2 k (fdT sk 3) := by rw [← hZ]
    rw [← hz1, ← hz2] at st5
    generalize hmm : manyOf k left (fdT sk 3) = many at st5 hY1 hml
    have st5 : Sta K [pc, pf, p] B1 H1' [.val (.ref p), .dat (.lst (names.map D.str)), .val (.ref pf), .dat (.int (left : Nat)), .dat (.int (k : Nat)), .dat (.lst (ws.map D.str)), .val (.ref pc), .dat (.int (many : Nat)), .any, .any, .any] [z0.1.map encC, found.map encT, fdD z0.2] σ5 H5 := st5
    refine st_for (α := Unit) (cs1 := [z0.1.map encC, found.map encT, fdD z0.2]) st5 (wd_rng1 (n := ((many : Nat) : Int)) (ea_cons (ev_var rfl) ea_nil) (by omega)) (fun _ _ => True)
      (fun j _ => [.val (.ref p), .dat (.lst (names.map D.str)), .val (.ref pf), .dat (.int (left : Nat)), .dat (.int (k : Nat)), .dat (.lst (ws.map D.str)), .val (.ref pc), .dat (.int (many : Nat)), .any, .any, .any]) (fun j _ => [(innerT found k j z0).1.map encC, found.map encT, fdD (innerT found k j z0).2]) () True.intro ⟨.rfl _, .rfl _, .rfl _, .rfl _, .rfl _, .rfl _, .rfl _, .rfl _, .any _, .any _, .any _, True.intro⟩ rfl ?_ ?_
    · intro B2 H2' s2 j d z hd2 _
      obtain ⟨hj, rfl⟩ := rangeD_get hd2
      rw [Int.zero_add]
      have hj' : j < many := by simpa using hj
      have hk0 : 0 < k := by
        by_cases h : k = 0
        · have : manyOf k left (fdT sk 3) = 0 := if_pos h
          omega
        · omega
      have hcl := inner_len found k z0 j
      generalize hI : innerT found k j z0 = I at hcl
      obtain ⟨cols, si⟩ := I
      refine ⟨_, _, g_name, fun σ6 H6 st6 => ?_⟩
      have st6 : Sta K [pc, pf, p] B2 H2' [.val (.ref p), .dat (.lst (names.map D.str)), .val (.ref pf), .dat (.int (left : Nat)), .dat (.int (k : Nat)), .dat (.lst (ws.map D.str)), .val (.ref pc), .dat (.int (many : Nat)), .dat (.int (j : Nat)), .any, .any] [cols.map encC, found.map encT, fdD si] σ6 H6 := by
        have z := st6
        simp only [hI] at z
        exact z
      have hI1 : innerT found k (j + 1) z0 = (cols ++ [((["r", "one"] : List Str).getD j "", some ((found.getD (([k - 1, k - 1, fdI si k] : List Nat).getD (fdI (fdT si k) 3) 0) ("", [])).1))], fdT (fdT si k) 3) := by
        show ((innerT found k j z0).1 ++ [((["r", "one"] : List Str).getD j "", some ((found.getD (([k - 1, k - 1, fdI (innerT found k j z0).2 k] : List Nat).getD (fdI (fdT (innerT found k j z0).2 k) 3) 0) ("", [])).1))], fdT (fdT (innerT found k j z0).2 k) 3) = _
        rw [hI]
      have hfd := fdI_lt (s := si) hk0
      have hix : ([k - 1, k - 1, fdI si k] : List Nat).getD (fdI (fdT si k) 3) 0 < k := by
        have h3 := fdI_lt (s := fdT si k) (show 0 < 3 by decide)
        generalize fdI (fdT si k) 3 = q at h3
        match q, h3 with
        | 0, _ => show k - 1 < k; omega
        | 1, _ => show k - 1 < k; omega
        | 2, _ => exact hfd
      have hk1 : ((k - 1 : Nat) : Int) = (k : Int) - 1 := by omega
      have hpk := pk_get ([k - 1, k - 1, fdI si k] : List Nat) (fun n => D.int (n : Nat)) 0 (fdT si k) 3 rfl (by decide)
      generalize ([k - 1, k - 1, fdI si k] : List Nat).getD (fdI (fdT si k) 3) 0 = ix at hix hI1 hpk
      have hf : found[ix]? = some (found.getD ix ("", [])) := by
        have : ix < found.length := by omega
        rw [List.getD_eq_getElem?_getD, List.getElem?_eq_getElem this]
        rfl
      have hf2 : (found.map encT)[ix]? = some (encT (found.getD ix ("", []))) := by rw [List.getElem?_map, hf]; rfl
      generalize found.getD ix ("", []) = tb at hf2 hI1
      refine st_asg (i := 9) (r := .dat (.str tb.1)) (cs1 := [cols.map encC, found.map encT, fdD (fdT (fdT si k) 3)]) st6 (ev_op (ev_ixM (j := 1) rfl (ev_call1 (j := 2) (cs1 := [cols.map encC, found.map encT, fdD (fdT si k)]) (ds := fdD (fdT si k)) (ds' := fdD (fdT (fdT si k) 3)) (ea_cons (r := .val (.ref p)) (ev_var rfl) (ea_cons (ev_lst (ds := [.int ((k : Int) - 1), .int ((k : Int) - 1), .int (fdI si k : Nat)]) (ea_cons (ev_op (ev_var rfl) ev_int od_subI) (ea_cons (ev_op (ev_var rfl) ev_int od_subI) (ea_cons (ev_call1 (j := 2) (cs1 := [cols.map encC, found.map encT, fdD si]) (ds := fdD si) (ds' := fdD (fdT si k)) (ea_cons (r := .val (.ref p)) (ev_var rfl) (ea_cons (ev_var rfl) ea_nil)) rfl rfl ⟨p, si, k, rfl, rfl, rfl, hk0, by omega, rfl, rfl⟩) ea_nil))) (by simp)) ea_nil)) rfl rfl
          ⟨p, fdT si k, _, .int (ix : Nat), rfl, rfl, rfl, by simp, by simp, ?_, rfl, rfl⟩) rfl rfl (atI_nat hf2)) ev_int (od_ixT (atI_nat (j := 0) rfl))) (fun σ7 H7 st7 => ?_)
      · rw [← hk1]
        exact hpk
      have hj2 : (["r", "one"] : List Str)[j]? = some ((["r", "one"] : List Str).getD j "") := by
        have : j < 2 := by omega
        match j, this with
        | 0, _ => rfl
        | 1, _ => rfl
      refine st_app (i := 6) (j := 0) (cs1 := [cols.map encC, found.map encT, fdD (fdT (fdT si k) 3)]) (ds := cols.map encC) (d := encC ((["r", "one"] : List Str).getD j "", some tb.1)) st7 rfl (ev_tup (ds := [.str ((["r", "one"] : List Str).getD j ""), .str tb.1]) (ea_cons (ev_op (ev_lst (ds := (["r", "one"] : List Str).map D.str) (ea_cons ev_str (ea_cons ev_str ea_nil))) (ev_var rfl) (od_ixL (atI_nat (strs_get hj2)))) (ea_cons (ev_var rfl) ea_nil)) (by simp)) rfl ⟨_, rfl⟩ rfl (by rw [List.length_map]; simp only [] at hcl; rw [hcl, hz1]; omega) (fun H8 st8 => ⟨(), True.intro, ?_⟩)
      show Sta K [pc, pf, p] B2 H2' _ [(innerT found k (j + 1) z0).1.map encC, found.map encT, fdD (innerT found k (j + 1) z0).2] σ7 H8
      rw [hI1, List.map_append]
      exact st8.le ⟨.rfl _, .rfl _, .rfl _, .rfl _, .rfl _, .rfl _, .rfl _, .rfl _, .any _, .any _, .any _, True.intro⟩
    · intro z σ6 H6 _ st6
      have st7 : Sta K [pc, pf, p] B1 H1' [.val (.ref p), .dat (.lst (names.map D.str)), .val (.ref pf), .dat (.int (left : Nat)), .dat (.int (k : Nat)), .dat (.lst (ws.map D.str)), .val (.ref pc), .dat (.int (many : Nat)), .any, .any, .any] [(innerT found k many z0).1.map encC, found.map encT, fdD (innerT found k many z0).2] σ6 H6 := by
        have z := st6
        rw [show (rangeD 0 ((many : Nat) : Int).toNat).length = many from by rw [rangeD_len, Int.toNat_natCast]] at z
        exact z
      generalize innerT found k many z0 = w at st7 hY1
      have hnk : names[k]? = some (names.getD k "") := by
        have : k < names.length := by omega
        rw [List.getD_eq_getElem?_getD, List.getElem?_eq_getElem this]
        rfl
      dsimp only []
      refine st_seq (st_asg (i := 3) (r := .dat (.int ((left - many : Nat) : Nat))) (cs1 := [w.1.map encC, found.map encT, fdD w.2]) st7 ?_ (fun σ8 H8 st8 => ?_))
      · have e : ((left - many : Nat) : Int) = (left : Int) - (many : Int) := by omega
        rw [e]
        exact ev_op (ev_var rfl) (ev_var rfl) od_subI
      have st9 := Sta.pub (i := 6) st8 hpc0 rfl
      refine st_app (i := 2) (j := 0) (cs1 := [found.map encT, fdD w.2]) (ds := found.map encT) (d := encT (names.getD k "", w.1)) st9 rfl (ev_tup (ds := [.str (names.getD k ""), .lst (w.1.map encC)]) (ea_cons (ev_op (ev_var rfl) (ev_var rfl) (od_ixL (atI_nat (strs_get hnk)))) (ea_cons (ev_var rfl) ea_nil)) (by simp)) rfl ⟨_, rfl⟩ rfl (by rw [List.length_map]; omega) (fun H10 st10 => ⟨(), True.intro, ?_⟩)
      show Sta K [pf, p] B1 H1' [.val (.ref p), .dat (.lst (names.map D.str)), .val (.ref pf), .dat (.int ((outerT names s0 (k + 1)).2.1 : Nat)), .any, .any, .any, .any, .any, .any, .any] [(outerT names s0 (k + 1)).1.map encT, fdD (outerT names s0 (k + 1)).2.2] σ8 H10
      rw [hY1, List.map_append]
      exact st10.le ⟨.rfl _, .rfl _, .rfl _, .rfl _, .any _, .any _, .any _, .any _, .any _, .any _, .any _, True.intro⟩
  · intro z σ3 H3 _ st3
    have st4 : Sta K [pf, p] B0 H0 [.val (.ref p), .dat (.lst (names.map D.str)), .val (.ref pf), .dat (.int ((outerT names s0 (countOf s)).2.1 : Nat)), .any, .any, .any, .any, .any, .any, .any] [(outerT names s0 (countOf s)).1.map encT, fdD (outerT names s0 (countOf s)).2.2] σ3 H3 := by
      have z := st3
      rw [show (rangeD 0 ((countOf s : Nat) : Int).toNat).length = countOf s from by rw [rangeD_len, Int.toNat_natCast]] at z
      exact z
    have st5 := Sta.pub (i := 2) st4 hpf0 rfl
    refine st_ret st5 (ev_var rfl) ?_
    unfold tablesOf feedOf at hd
    rw [hs0, hnm] at hd
    exact hd
end
end T3
namespace SP
open PySem L2 DV PM IX
variable {K : PySem.W.Frag}
def rSMul : R2 := fun x y H Q => ∃ a k, x = .str a ∧ y = .int k ∧ MulOk a k ∧ Q (.str (Txt.mul a k)) H
theorem op_smul {X : Cx} : OpR X (binaryOp .Mult) rSMul := by
  intro pins s σ H x y v u Q I rx ry h
  obtain ⟨a, k, rfl, rfl, hok, q⟩ := h
  obtain ⟨t, rfl⟩ := rx
  obtain ⟨t', rfl⟩ := ry
  exact SB.mul hok fun t' n => ⟨.str (Txt.mul a k), H, I.tok n, ⟨t', rfl⟩, q⟩
def XS : List Str := ["x", "xx", "xxx"]
def xs (k : Nat) : Str := XS.getD k ""
theorem od_smulX {k : Nat} (hk : k < 3) : OpD K rSMul (.dat (.str "x")) (.dat (.int ((k : Int) + 1))) (.dat (.str (xs k))) := fun B H x y e h1 h2 Q q => by
  have a' : Rp K B x (.str "x") := h1
  have b' : Rp K B y (.int ((k : Int) + 1)) := h2
  cases a'; cases b'
  have m : MulOk "x" ((k : Int) + 1) ∧ Txt.mul "x" ((k : Int) + 1) = xs k := by
    match k, hk with
    | 0, _ => exact ⟨⟨by decide +kernel, by decide +kernel, by decide +kernel⟩, by decide +kernel⟩
    | 1, _ => exact ⟨⟨by decide +kernel, by decide +kernel, by decide +kernel⟩, by decide +kernel⟩
    | 2, _ => exact ⟨⟨by decide +kernel, by decide +kernel, by decide +kernel⟩, by decide +kernel⟩
  refine ⟨_, _, rfl, rfl, m.1, ?_⟩
  rw [m.2]
  exact q _ B H (Stp.refl _ _ _) e (.str _)
/-! the dict of the new names -/
def dOf : Nat → List Str → List (Key × D)
  | _, [] => []
  | j, a :: r => (Sum.inr a, .str (xs j)) :: dOf (j + 1) r
def vOf : Nat → List Str → List (Key × V)
  | _, [] => []
  | j, a :: r => (Sum.inr a, .str (xs j)) :: vOf (j + 1) r
theorem rpk_of {B : Hp} : ∀ (j : Nat) (l : List Str), RpK K B (vOf j l) (dOf j l)
  | _, [] => .nil
  | j, a :: r => .cons (.str _) (rpk_of (j + 1) r)
theorem vOf_len : ∀ (j : Nat) (l : List Str), (vOf j l).length = l.length
  | _, [] => rfl
  | j, a :: r => by show (vOf (j + 1) r).length + 1 = r.length + 1; rw [vOf_len]
theorem vOf_snoc : ∀ (j : Nat) (l : List Str) (a : Str), vOf j (l ++ [a]) = vOf j l ++ [(Sum.inr a, .str (xs (j + l.length)))]
  | _, [], _ => rfl
  | j, b :: r, a => by
    show (Sum.inr b, V.str (xs j)) :: vOf (j + 1) (r ++ [a]) = _
    rw [vOf_snoc (j + 1) r a, List.length_cons, show j + 1 + r.length = j + (r.length + 1) by omega]
    rfl
theorem vOf_mem : ∀ {j : Nat} {l : List Str} {p : Key × V}, p ∈ vOf j l → ∃ a ∈ l, p.1 = Sum.inr a
  | _, [], _, h => by cases h
  | j, b :: r, p, h => by
    rcases List.mem_cons.mp h with rfl | h
    · exact ⟨b, List.mem_cons_self, rfl⟩
    · obtain ⟨a, h1, h2⟩ := vOf_mem (j := j + 1) (l := r) h
      exact ⟨a, List.mem_cons_of_mem _ h1, h2⟩
theorem valD_dOf {n : Str} : ∀ (j : Nat) {l : List Str}, n ∈ l → valD (dOf j l) (.inr n) = some (.str (xs (j + idxN n l)))
  | _, [], h => by cases h
  | j, b :: r, h => by
    by_cases e : b = n
    · have z : idxN n (b :: r) = 0 := if_pos e
      rw [z]
      unfold valD dOf
      rw [List.find?_cons]
      simp [e]
    · have z : idxN n (b :: r) = idxN n r + 1 := if_neg e
      have h' : n ∈ r := by
        rcases List.mem_cons.mp h with q | q
        · exact absurd q.symm e
        · exact q
      have ih := valD_dOf (j + 1) h'
      rw [z, show j + (idxN n r + 1) = j + 1 + idxN n r by omega, ← ih]
      have ne : ¬ (Sum.inr b : Key) = Sum.inr n := fun q => e (Sum.inr.inj q)
      show ((((Sum.inr b, D.str (xs j)) :: dOf (j + 1) r).find? fun kv => decide (kv.1 = Sum.inr n)).map (·.2)) = _
      rw [List.find?_cons]
      simp only [ne, decide_false]
      rfl
theorem idxN_app {n : Str} : ∀ {l m : List Str}, n ∈ l → idxN n (l ++ m) = idxN n l
  | [], _, h => by cases h
  | b :: r, m, h => by
    by_cases e : b = n
    · show (if b = n then 0 else _) = (if b = n then 0 else _)
      rw [if_pos e, if_pos e]
    · have h' : n ∈ r := by
        rcases List.mem_cons.mp h with q | q
        · exact absurd q.symm e
        · exact q
      show (if b = n then 0 else idxN n (r ++ m) + 1) = (if b = n then 0 else idxN n r + 1)
      rw [if_neg e, if_neg e, idxN_app h']
/-! the renamed tables -/
def namC (names : List Str) (c : Col) : Col := (c.1 ++ "q", c.2.map fun n => xs (idxN n names))
def namT (names : List Str) (k : Nat) (t : Tab) : Tab := (xs k, t.2.map (namC names))
def namedT (T : List Tab) : List Tab := T.mapIdx (namT (T.map (·.1)))
def tgtsEarly (T : List Tab) : Prop := ∀ i t, T[i]? = some t → ∀ c ∈ t.2, ∀ n, c.2 = some n → n ∈ (T.take i).map (·.1)
def preNamed : Pre := fun rs Pl cs r cs' => ∃ T, rs = [.dat (encTs T)] ∧ schOk T ∧ tgtsEarly T ∧ Pl = [] ∧ cs = [] ∧ r = .dat (encTs (namedT T)) ∧ cs' = []
/-! a dict is told no more -/
def rmH (B : Hp) (p : Addr) : Hp := fun b => if b = p then none else B b
theorem rm_ne {B : Hp} {p b : Addr} (h : b ≠ p) : rmH B p b = B b := if_neg h
theorem rm_eq {B : Hp} {p : Addr} : rmH B p p = none := if_pos rfl
mutual
theorem Rp.rm {B : Hp} {p : Addr} {kvs : List (Key × V)} (hb : B p = some (.dK kvs)) : ∀ {v : V} {d : D}, Rp K B v d → d.pl = true → Rp K (rmH B p) v d
  | _, _, .non, _ => .non
  | _, _, .bl b, _ => .bl b
  | _, _, .int i, _ => .int i
  | _, _, .str x, _ => .str x
  | _, _, .lst (a := a) h r, q => .lst (by rw [rm_ne (fun z => by rw [z, hb] at h; cases h)]; exact h) (RpA.rm hb r (by simpa [D.pl] using q))
  | _, _, .tup (a := a) h r, q => .tup (by
      rcases h with h | ⟨o, h⟩
      · exact .inl (by rw [rm_ne (fun z => by rw [z, hb] at h; cases h)]; exact h)
      · exact .inr ⟨o, by rw [rm_ne (fun z => by rw [z, hb] at h; cases h)]; exact h⟩) (RpA.rm hb r (by simpa [D.pl] using q))
  | _, _, .dic _ _, q => by simp [D.pl] at q
  | _, _, .obj _ _, q => by simp [D.pl] at q
  | _, _, .fro _ _, q => by simp [D.pl] at q
  | _, _, .nt _ _ _, q => by simp [D.pl] at q
theorem RpA.rm {B : Hp} {p : Addr} {kvs : List (Key × V)} (hb : B p = some (.dK kvs)) : ∀ {vs : List V} {ds : List D}, RpA K B vs ds → D.plA ds = true → RpA K (rmH B p) vs ds
  | _, _, .nil, _ => .nil
  | _, _, .cons h r, q => .cons (Rp.rm hb h (by simp [D.plA] at q; exact q.1)) (RpA.rm hb r (by simp [D.plA] at q; exact q.2))
end
theorem plA_map {α : Type} {f : α → D} (h : ∀ a, (f a).pl = true) : ∀ l : List α, D.plA (l.map f) = true
  | [] => rfl
  | a :: r => by simp [D.plA, h a, plA_map h r]
theorem encC_pl (c : Col) : (encC c).pl = true := by
  obtain ⟨n, t⟩ := c
  cases t <;> rfl
theorem encT_pl (t : Tab) : (encT t).pl = true := by
  have := plA_map encC_pl t.2
  simp [encT, D.pl, D.plA, this]
theorem encTs_pl (T : List Tab) : (encTs T).pl = true := by
  have := plA_map encT_pl T
  simpa [encTs, D.pl] using this
theorem slots_re {B : Hp} {σ : L2.St} {ss : List Sl} {i : Nat} {w : V} {r : Sl} (h : Slots K B σ ss) (hi : σ[i]? = some (some w)) (hr : RS K B w r) : Slots K B σ (ss.set i r) := by
  have e : σ.set i (some w) = σ := by
    apply List.ext_getElem?
    intro j
    rw [List.getElem?_set]
    by_cases hj : i = j
    · subst hj
      rw [if_pos rfl, if_pos (List.getElem?_eq_some_iff.mp hi).1, hi]
    · rw [if_neg hj]
  have := h.set (i := i) hr
  rw [e] at this
  exact this
theorem slots_rm {B : Hp} {p : Addr} {kvs : List (Key × V)} (hb : B p = some (.dK kvs)) {σ : L2.St} {ss : List Sl} (h : Slots K B σ ss) (hp : ∀ r ∈ ss, ∀ d, r = .dat d → d.pl = true) : Slots K (rmH B p) σ ss :=
  ⟨h.len, fun i r a b => by
    obtain ⟨v, h1, h2⟩ := h.get i r a b
    refine ⟨v, h1, ?_⟩
    cases r with
    | any => exact True.intro
    | val u => exact h2
    | dat d => exact Rp.rm hb h2 (hp _ (List.mem_of_getElem? a) d rfl)⟩
theorem idxN_nodup {a : Str} : ∀ {l : List Str} {i : Nat}, l.Nodup → l[i]? = some a → idxN a l = i
  | [], i, _, h => by simp at h
  | b :: r, 0, _, h => by
    have e : b = a := by simpa using h
    exact if_pos e
  | b :: r, i + 1, nd, h => by
    have h' : r[i]? = some a := by simpa using h
    have nd' : b ∉ r ∧ r.Nodup := by simpa using nd
    have ne : ¬ b = a := fun z => nd'.1 (z ▸ List.mem_of_getElem? h')
    show (if b = a then 0 else idxN a r + 1) = i + 1
    rw [if_neg ne, idxN_nodup nd'.2 h']
end SP
namespace T3
open PySem L2 DV PM SP IX
section
variable {P : Program} {w : World} {K : PySem.W.Frag} {mg : Str → Option Value} {base : Heap} {C : Addr}
end
end T3
/-! M: what the drawn tables are. -/
namespace SP
open PySem L2 DV PM IX
/-! okTabs and its parts -/
theorem okCols_app : ∀ {T : List Tab} {done a b : List Col}, okCols T done (a ++ b) ↔ okCols T done a ∧ okCols T (done ++ a) b
  | T, done, [], b => by simp [okCols]
  | T, done, c :: a, b => by
    show (okCol T done c ∧ okCols T (done ++ [c]) (a ++ b)) ↔ (okCol T done c ∧ okCols T (done ++ [c]) a) ∧ _
    rw [okCols_app (T := T) (done := done ++ [c]) (a := a) (b := b), List.append_assoc]
    constructor
    · rintro ⟨h1, h2, h3⟩; exact ⟨⟨h1, h2⟩, h3⟩
    · rintro ⟨⟨h1, h2⟩, h3⟩; exact ⟨h1, h2, h3⟩
theorem okTabs_app : ∀ {T a b : List Tab}, okTabs T (a ++ b) ↔ okTabs T a ∧ okTabs (T ++ a) b
  | T, [], b => by simp [okTabs]
  | T, t :: a, b => by
    show (okTab T t ∧ okTabs (T ++ [t]) (a ++ b)) ↔ (okTab T t ∧ okTabs (T ++ [t]) a) ∧ _
    rw [okTabs_app (T := T ++ [t]) (a := a) (b := b), List.append_assoc]
    constructor
    · rintro ⟨h1, h2, h3⟩; exact ⟨⟨h1, h2⟩, h3⟩
    · rintro ⟨⟨h1, h2⟩, h3⟩; exact ⟨h1, h2, h3⟩
theorem okTabs_at {T : List Tab} (h : okTabs [] T) {i : Nat} {t : Tab} (ht : T[i]? = some t) : okTab (T.take i) t := by
  have hi : i < T.length := (List.getElem?_eq_some_iff.mp ht).1
  have e : T = T.take i ++ (t :: T.drop (i + 1)) := by
    rw [← (List.getElem?_eq_some_iff.mp ht).2, ← List.drop_eq_getElem_cons hi, List.take_append_drop]
  rw [e] at h
  have := (okTabs_app.mp h).2.1
  simpa using this
theorem okTabs_take {T : List Tab} (h : okTabs [] T) (i : Nat) : okTabs [] (T.take i) := by
  rw [← List.take_append_drop i T] at h
  exact (okTabs_app.mp h).1
theorem okCols_take {T : List Tab} {cs : List Col} (h : okCols T [] cs) (i : Nat) : okCols T [] (cs.take i) := by
  rw [← List.take_append_drop i cs] at h
  exact (okCols_app.mp h).1
theorem okCols_at {T : List Tab} {cs : List Col} (h : okCols T [] cs) {i : Nat} {c : Col} (ht : cs[i]? = some c) : okCol T (cs.take i) c := by
  have hi : i < cs.length := (List.getElem?_eq_some_iff.mp ht).1
  have e : cs = cs.take i ++ (c :: cs.drop (i + 1)) := by
    rw [← (List.getElem?_eq_some_iff.mp ht).2, ← List.drop_eq_getElem_cons hi, List.take_append_drop]
  rw [e] at h
  have := (okCols_app.mp h).2.1
  simpa using this
theorem ok_len {T : List Tab} (h : okTabs [] T) : T.length ≤ 3 := by
  by_cases z : T.length = 0
  · omega
  · have hi : T.length - 1 < T.length := by omega
    have := (okTabs_at h (List.getElem?_eq_getElem hi)).2.2.1
    rw [List.length_take] at this
    omega
theorem refs_len : ∀ (cs : List Col), refsN cs ≤ cs.length := fun cs => List.length_filter_le _ _
theorem okCols_len {T : List Tab} {cs : List Col} (h : okCols T [] cs) : cs.length ≤ 4 := by
  have key : ∀ i ≤ cs.length, (cs.take i).length ≤ refsN (cs.take i) + 2 ∧ refsN (cs.take i) ≤ 2 := by
    intro i
    induction i with
    | zero => intro _; simp [refsN]
    | succ i ih =>
      intro hi
      obtain ⟨h1, h2⟩ := ih (by omega)
      have ht : cs[i]? = some cs[i] := List.getElem?_eq_getElem (by omega)
      have hc := okCols_at h ht
      generalize cs[i] = c at ht hc
      rw [List.take_add_one, ht]
      show (cs.take i ++ [c]).length ≤ refsN (cs.take i ++ [c]) + 2 ∧ refsN (cs.take i ++ [c]) ≤ 2
      rw [refsN_snoc, List.length_append]
      obtain ⟨n, t⟩ := c
      cases t with
      | none =>
        obtain ⟨a, b, _⟩ := hc
        simp only [Option.isSome, List.length_cons, List.length_nil, if_true, Bool.false_eq_true, if_false]
        omega
      | some t =>
        obtain ⟨a, _⟩ := hc
        simp only [Option.isSome, List.length_cons, List.length_nil, if_true, Bool.false_eq_true, if_false]
        omega
  have := key cs.length (Nat.le_refl _)
  rw [List.take_length] at this
  omega
theorem ok_tabsOk {T : List Tab} (h : okTabs [] T) : tabsOk T := by
  refine ⟨ok_len h, fun t ht => ?_⟩
  obtain ⟨i, hi, e⟩ := List.getElem_of_mem ht
  have ht' : T[i]? = some t := by rw [List.getElem?_eq_getElem hi, e]
  obtain ⟨h1, h2, h3, h4⟩ := okTabs_at h ht'
  refine ⟨wordOk_fine h1, okCols_len h4, fun c hc => ?_⟩
  obtain ⟨j, hj, ec⟩ := List.getElem_of_mem hc
  have hc' := okCols_at h4 (show t.2[j]? = some c by rw [List.getElem?_eq_getElem hj, ec])
  obtain ⟨n, o⟩ := c
  cases o with
  | none => exact ⟨wordOk_fine hc'.2.2.1, fun t e => by cases e⟩
  | some o =>
    refine ⟨wordOk_fine hc'.2.2.1, fun t' e => ?_⟩
    cases e
    obtain ⟨u, hu, eu⟩ := List.mem_map.mp hc'.2.2.2.2
    obtain ⟨k, hk, ek⟩ := List.getElem_of_mem hu
    have hku : (T.take i)[k]? = some u := by rw [List.getElem?_eq_getElem hk, ek]
    have hk2 : T[k]? = some u := by
      have : k < i := by rw [List.length_take] at hk; omega
      rw [List.getElem?_take_of_lt this] at hku
      exact hku
    rw [← eu]
    exact wordOk_fine (okTabs_at h hk2).1
theorem ok_nodup {T : List Tab} (h : okTabs [] T) : (T.map (·.1)).Nodup := by
  refine List.pairwise_iff_getElem.mpr fun i j hi hj hij e => ?_
  rw [List.length_map] at hi hj
  have hj' : T[j]? = some T[j] := List.getElem?_eq_getElem hj
  have := (okTabs_at h hj').2.1
  apply this
  rw [List.getElem_map, List.getElem_map] at e
  rw [← e]
  exact List.mem_map.mpr ⟨T[i], List.mem_iff_getElem?.mpr ⟨i, by rw [List.getElem?_take_of_lt hij, List.getElem?_eq_getElem hi]⟩, rfl⟩
theorem ok_sch {T : List Tab} (h : okTabs [] T) : schOk T := ⟨ok_tabsOk h, ok_nodup h⟩
theorem ok_early {T : List Tab} (h : okTabs [] T) : tgtsEarly T := fun i t ht c hc n hn => by
  obtain ⟨j, hj, ec⟩ := List.getElem_of_mem hc
  have hc' := okCols_at (okTabs_at h ht).2.2.2 (show t.2[j]? = some c by rw [List.getElem?_eq_getElem hj, ec])
  obtain ⟨m, o⟩ := c
  cases (show o = some n from hn)
  exact hc'.2.2.2.2
theorem early_ok {T : List Tab} (h : tgtsEarly T) : tgtsOk T := fun t ht c hc n hn => by
  obtain ⟨i, hi, e⟩ := List.getElem_of_mem ht
  have := h i t (by rw [List.getElem?_eq_getElem hi, e]) c hc n hn
  rw [List.map_take] at this
  exact List.mem_of_mem_take this
/-! the text -/
theorem words_fine {T : List Tab} (h : tabsOk T) : ∀ ws ∈ words T, ws ≠ [] ∧ ∀ w ∈ ws, free 10 w ∧ free 32 w := fun ws hw => by
  obtain ⟨t, ht, hw⟩ := List.mem_flatMap.mp hw
  obtain ⟨h1, _, h2⟩ := h.2 t ht
  rcases List.mem_cons.mp hw with rfl | hw
  · refine ⟨by simp, fun l hl => ?_⟩
    rcases List.mem_cons.mp hl with rfl | hl
    · exact ⟨wordOk_table.1, wordOk_table.2.1⟩
    · rw [List.mem_singleton.mp hl]; exact ⟨h1.1, h1.2.1⟩
  · obtain ⟨c, hc, rfl⟩ := List.mem_map.mp hw
    have hco := h2 c hc
    obtain ⟨n, t⟩ := c
    refine ⟨by cases t <;> simp [colWords], fun l hl => ?_⟩
    cases t with
    | none =>
      have : l = "" ∨ l = "" ∨ l = "plain" ∨ l = n := by simpa [colWords] using hl
      rcases this with rfl | rfl | rfl | rfl
      · exact ⟨wordOk_empty.1, wordOk_empty.2.1⟩
      · exact ⟨wordOk_empty.1, wordOk_empty.2.1⟩
      · exact ⟨wordOk_plain.1, wordOk_plain.2.1⟩
      · exact ⟨hco.1.1, hco.1.2.1⟩
    | some t =>
      have : l = "" ∨ l = "" ∨ l = "ref" ∨ l = n ∨ l = t := by simpa [colWords] using hl
      rcases this with rfl | rfl | rfl | rfl | rfl
      · exact ⟨wordOk_empty.1, wordOk_empty.2.1⟩
      · exact ⟨wordOk_empty.1, wordOk_empty.2.1⟩
      · exact ⟨wordOk_ref.1, wordOk_ref.2.1⟩
      · exact ⟨hco.1.1, hco.1.2.1⟩
      · exact ⟨(hco.2 _ rfl).1, (hco.2 _ rfl).2.1⟩
theorem words_ne {T : List Tab} (h : T ≠ []) : words T ≠ [] := by
  cases T with
  | nil => exact absurd rfl h
  | cons t r => intro z; simp [words, tabWords] at z
theorem split_text {T : List Tab} (h : tabsOk T) (hn : T ≠ []) : Txt.split (textOf T) nl = rowsOf T := by
  unfold textOf rowsOf
  rw [show nl = (⟨#[10]⟩ : Str) from nl_is]
  refine split_join 10 (by simpa using words_ne hn) (fun l hl => ?_)
  obtain ⟨ws, hw, rfl⟩ := List.mem_map.mp hl
  exact free_row fun w hw' => ((words_fine h ws hw).2 w hw').1
theorem read_text {T : List Tab} (h : okTabs [] T) (hn : T ≠ []) : readText (textOf T) = some T := by
  have ht := ok_tabsOk h
  unfold readText wordsText
  rw [split_text ht hn]
  unfold rowsOf
  rw [List.map_map]
  have e : (words T).map ((fun r => Txt.split r sp) ∘ PM.rowOf) = words T := by
    conv => rhs; rw [← List.map_id (words T)]
    apply List.map_congr_left
    intro ws hw
    exact split_row (words_fine ht ws hw).1 fun w hw' => ((words_fine ht ws hw).2 w hw').2
  rw [e]
  exact read_tabs T [] h
/-! the beginnings -/
theorem begin_words : ∀ (T : List Tab) (m : Nat), 1 ≤ m → m ≤ (words T).length → ∃ T1 t T2 j, T = T1 ++ t :: T2 ∧ (words T).take m = words (T1 ++ [(t.1, t.2.take j)]) ∧ j ≤ t.2.length
  | [], m, h1, h2 => by simp [words] at h2; omega
  | t :: r, m, h1, h2 => by
    have e : words (t :: r) = tabWords t ++ words r := rfl
    have hl : (tabWords t).length = t.2.length + 1 := by simp [tabWords]
    by_cases hm : m ≤ t.2.length + 1
    · refine ⟨[], t, r, m - 1, rfl, ?_, by omega⟩
      rw [e, List.take_append_of_le_length (by omega)]
      show (tabWords t).take m = tabWords (t.1, t.2.take (m - 1)) ++ words []
      unfold tabWords
      obtain ⟨m', rfl⟩ : ∃ m', m = m' + 1 := ⟨m - 1, by omega⟩
      simp [words, List.map_take]
    · have h2' : m - (t.2.length + 1) ≤ (words r).length := by
        rw [e, List.length_append, hl] at h2; omega
      obtain ⟨T1, u, T2, j, e1, e2, hj⟩ := begin_words r (m - (t.2.length + 1)) (by omega) h2'
      refine ⟨t :: T1, u, T2, j, by rw [e1]; rfl, ?_, hj⟩
      rw [e, List.take_append, hl, List.take_of_length_le (by omega), e2]
      rfl
theorem begin_ok {T1 T2 : List Tab} {t : Tab} (h : okTabs [] (T1 ++ t :: T2)) (j : Nat) : okTabs [] (T1 ++ [(t.1, t.2.take j)]) := by
  obtain ⟨h1, h2⟩ := okTabs_app.mp h
  exact okTabs_app.mpr ⟨h1, ⟨h2.1.1, h2.1.2.1, h2.1.2.2.1, okCols_take h2.1.2.2.2 j⟩, True.intro⟩
end SP
/-! M2: the drawn tables are right ones, also with other names. -/
namespace SP
open PySem L2 DV PM IX
theorem join_len (y : Str) : ∀ ls : List Str, (Txt.join y ls).length ≤ (ls.map (·.length)).sum + ls.length * y.length
  | [] => by show (Str.empty).length ≤ _; exact Nat.zero_le _
  | [a] => by rw [join_one]; simp
  | a :: b :: r => by
    rw [join_cons, len_app, len_app]
    have := join_len y (b :: r)
    simp only [List.map_cons, List.sum_cons, List.length_cons, Nat.add_mul] at this ⊢
    omega
theorem text_ok {T : List Tab} (h : tabsOk T) (hn : T ≠ []) : (textOf T).length ≤ 100000 ∧ PyData.strOk (textOf T) = true := by
  have h2 := T3.rows_len h T.length
  rw [List.take_length] at h2
  have h3 := h.1
  have h1 := sum_le (ls := rowsOf T) (k := 30) (fun l hl => (row_ok h hl).2)
  have h4 := join_len nl (rowsOf T)
  have h5 : nl.length = 1 := by decide +kernel
  have e : textOf T = Txt.join nl (rowsOf T) := rfl
  rw [h5] at h4
  refine ⟨by rw [e]; omega, ?_⟩
  rw [e]
  exact ok_join (by decide +kernel) (by unfold rowsOf; simpa using words_ne hn) (fun l hl => (row_ok h hl).1)
/-! drawn -/
def CN : List Str := ["p", "size", "r", "one", "t"]
theorem names_ok (s : Fd) : (namesOf s).Nodup ∧ ∀ n ∈ namesOf s, fineB n = true ∧ n ≠ "x" := by
  have h := fdI_lt (s := s) (show 0 < 4 by decide)
  unfold namesOf NAMES
  generalize fdI s 4 = i at h
  match i, h with
  | 0, _ => exact by decide +kernel
  | 1, _ => exact by decide +kernel
  | 2, _ => exact by decide +kernel
  | 3, _ => exact by decide +kernel
theorem refsN_app (a b : List Col) : refsN (a ++ b) = refsN a + refsN b := by unfold refsN; rw [List.filter_append, List.length_append]
def wsOk (ws : List Str) : Prop := ws = ([("p" : Str), "size"] : List Str) ∨ ws = ([("r" : Str), "t"] : List Str) ∨ ws = ([("p" : Str), "t"] : List Str)
theorem words_ok (k : Nat) (s : Fd) : wsOk (wordsOf k s) ∧ (0 < k → wordsOf k s ≠ (["r", "t"] : List Str)) := by
  have h := fdI_lt (s := s) (show 0 < 3 by decide)
  unfold wordsOf WORDS
  generalize fdI s 3 = i at h
  match i, h with
  | 0, _ => exact ⟨.inl rfl, fun _ => (by decide +kernel : (["p", "size"] : List Str) ≠ ([("r" : Str), "t"] : List Str))⟩
  | 1, _ => exact ⟨.inl rfl, fun _ => (by decide +kernel : (["p", "size"] : List Str) ≠ ([("r" : Str), "t"] : List Str))⟩
  | 2, _ =>
    show wsOk ([if k = 0 then "r" else "p", "t"] : List Str) ∧ (0 < k → ([if k = 0 then ("r" : Str) else "p", "t"] : List Str) ≠ ([("r" : Str), "t"] : List Str))
    by_cases hk : k = 0
    · rw [if_pos hk]; exact ⟨.inr (.inl rfl), fun z => by omega⟩
    · rw [if_neg hk]; exact ⟨.inr (.inr rfl), fun _ => (by decide +kernel : (["p", "t"] : List Str) ≠ ([("r" : Str), "t"] : List Str))⟩
theorem cols0_ok (T : List Tab) (k : Nat) (s : Fd) : okCols T [] (cols0 k s) ∧ refsN (cols0 k s) = 0 ∧ (cols0 k s).map Prod.fst = (wordsOf k s).take (FEW.getD (fdI (fdT s 3) 5) 0) := by
  have h := few_le (fdI (fdT s 3) 5)
  obtain ⟨hw, _⟩ := words_ok k s
  unfold cols0
  generalize FEW.getD (fdI (fdT s 3) 5) 0 = n at h
  generalize wordsOf k s = ws at hw
  have two : ∀ a b : Str, fineB a = true → fineB b = true → b ∉ [a] → okCols T [] ((([a, b] : List Str).take n).map fun n => (n, none)) ∧ refsN ((([a, b] : List Str).take n).map fun n => (n, none)) = 0 ∧ ((([a, b] : List Str).take n).map fun n => ((n, none) : Col)).map Prod.fst = ([a, b] : List Str).take n := fun a b fa fb hab => by
    match n, h with
    | 0, _ => exact ⟨True.intro, rfl, rfl⟩
    | 1, _ => exact ⟨⟨⟨rfl, by decide, fa, by simp⟩, True.intro⟩, rfl, rfl⟩
    | 2, _ => exact ⟨⟨⟨rfl, by decide, fa, by simp⟩, ⟨rfl, (by show 1 < 2; decide), fb, hab⟩, True.intro⟩, rfl, rfl⟩
  rcases hw with rfl | rfl | rfl
  · exact two _ _ (by decide +kernel) (by decide +kernel) (by decide +kernel)
  · exact two _ _ (by decide +kernel) (by decide +kernel) (by decide +kernel)
  · exact two _ _ (by decide +kernel) (by decide +kernel) (by decide +kernel)
theorem new_ref {ws : List Str} {n j : Nat} (hw : wsOk ws) (hr : ws ≠ (["r", "t"] : List Str)) (hn : n ≤ 2) (hj : j < 2) : fineB ((["r", "one"] : List Str).getD j "") = true ∧ (["r", "one"] : List Str).getD j "" ∉ ws.take n ++ (["r", "one"] : List Str).take j := by
  rcases hw with rfl | rfl | rfl
  · match n, hn, j, hj with
    | 0, _, 0, _ => decide +kernel
    | 0, _, 1, _ => decide +kernel
    | 1, _, 0, _ => decide +kernel
    | 1, _, 1, _ => decide +kernel
    | 2, _, 0, _ => decide +kernel
    | 2, _, 1, _ => decide +kernel
  · exact absurd rfl hr
  · match n, hn, j, hj with
    | 0, _, 0, _ => decide +kernel
    | 0, _, 1, _ => decide +kernel
    | 1, _, 0, _ => decide +kernel
    | 1, _, 1, _ => decide +kernel
    | 2, _, 0, _ => decide +kernel
    | 2, _, 1, _ => decide +kernel
theorem inner_ok {ws : List Str} (hw : wsOk ws) {found : List Tab} {k : Nat} {z : List Col × Fd} {n many : Nat} (hk : found.length = k) (hk0 : 0 < many → 0 < k) (hr : 0 < k → ws ≠ (["r", "t"] : List Str)) (hn : n ≤ 2) (hm2 : many ≤ 2) (hs : sumRefs found + many ≤ 3) (h1 : okCols found [] z.1) (h2 : refsN z.1 = 0) (h3 : z.1.map Prod.fst = ws.take n) :
    ∀ j, j ≤ many → okCols found [] (innerT found k j z).1 ∧ refsN (innerT found k j z).1 = j ∧ (innerT found k j z).1.map Prod.fst = ws.take n ++ (["r", "one"] : List Str).take j
  | 0, _ => ⟨h1, h2, by rw [List.take_zero, List.append_nil]; exact h3⟩
  | j + 1, hj => by
    obtain ⟨i1, i2, i3⟩ := inner_ok hw hk hk0 hr hn hm2 hs h1 h2 h3 j (by omega)
    have kp := hk0 (by omega)
    obtain ⟨f1, f2⟩ := new_ref (n := n) (j := j) hw (hr kp) hn (by omega)
    rw [← i3] at f2
    have hix : ([k - 1, k - 1, fdI (innerT found k j z).2 k] : List Nat).getD (fdI (fdT (innerT found k j z).2 k) 3) 0 < k := by
      have hfd := fdI_lt (s := (innerT found k j z).2) kp
      have h3 := fdI_lt (s := fdT (innerT found k j z).2 k) (show 0 < 3 by decide)
      generalize fdI (fdT (innerT found k j z).2 k) 3 = q at h3
      match q, h3 with
      | 0, _ => show k - 1 < k; omega
      | 1, _ => show k - 1 < k; omega
      | 2, _ => exact hfd
    show okCols found [] ((innerT found k j z).1 ++ [_]) ∧ refsN ((innerT found k j z).1 ++ [_]) = j + 1 ∧ ((innerT found k j z).1 ++ [_]).map Prod.fst = _
    generalize ([k - 1, k - 1, fdI (innerT found k j z).2 k] : List Nat).getD (fdI (fdT (innerT found k j z).2 k) 3) 0 = ix at hix
    refine ⟨okCols_app.mpr ⟨i1, ⟨?_, True.intro⟩⟩, ?_, ?_⟩
    · rw [List.nil_append]
      refine ⟨by omega, by omega, f1, f2, ?_⟩
      have hi : ix < found.length := by omega
      rw [List.getD_eq_getElem?_getD, List.getElem?_eq_getElem hi]
      exact List.mem_map.mpr ⟨_, List.getElem_mem hi, rfl⟩
    · rw [refsN_snoc, i2]; simp
    · rw [List.map_append, i3, List.append_assoc]
      congr 1
      have : j < 2 := by omega
      match j, this with
      | 0, _ => rfl
      | 1, _ => rfl
theorem outer_ok (s : Fd) (s0 : Fd) : ∀ k, k ≤ 3 → okTabs [] (outerT (namesOf s) s0 k).1 ∧ (outerT (namesOf s) s0 k).1.map Prod.fst = (namesOf s).take k ∧ (outerT (namesOf s) s0 k).2.1 + sumRefs (outerT (namesOf s) s0 k).1 = 3 ∧ ∀ t ∈ (outerT (namesOf s) s0 k).1, ∀ c ∈ t.2, c.1 ∈ CN
  | 0, _ => ⟨True.intro, rfl, rfl, fun t h => by cases h⟩
  | k + 1, hk => by
    obtain ⟨o1, o2, o3, o4⟩ := outer_ok s s0 k (by omega)
    have hlen := outer_len (namesOf s) s0 k
    obtain ⟨n1, n2⟩ := names_ok s
    have n3 := names_len s
    show okTabs [] ((outerT (namesOf s) s0 k).1 ++ [_]) ∧ ((outerT (namesOf s) s0 k).1 ++ [_]).map Prod.fst = _ ∧ _ - _ + sumRefs ((outerT (namesOf s) s0 k).1 ++ [_]) = 3 ∧ ∀ t ∈ (outerT (namesOf s) s0 k).1 ++ [_], ∀ c ∈ t.2, c.1 ∈ CN
    generalize outerT (namesOf s) s0 k = Y at o1 o2 o3 o4 hlen
    obtain ⟨found, left, sk⟩ := Y
    simp only [] at o1 o2 o3 o4 hlen
    obtain ⟨c1, c2, c3⟩ := cols0_ok found k sk
    obtain ⟨m1, m2⟩ := many_le k left (fdT sk 3)
    have hk0 : 0 < manyOf k left (fdT sk 3) → 0 < k := fun h => by
      by_cases z : k = 0
      · have : manyOf k left (fdT sk 3) = 0 := if_pos z
        omega
      · omega
    obtain ⟨i1, i2, i3⟩ := inner_ok (words_ok k sk).1 (z := (cols0 k sk, feed2 k (fdT sk 3))) hlen hk0 (words_ok k sk).2 (few_le (fdI (fdT sk 3) 5)) m1 (by omega) c1 c2 c3 (manyOf k left (fdT sk 3)) (Nat.le_refl _)
    have hnk : (namesOf s)[k]? = some ((namesOf s).getD k "") := by
      have : k < (namesOf s).length := by omega
      rw [List.getD_eq_getElem?_getD, List.getElem?_eq_getElem this]
      rfl
    have hmem := List.mem_of_getElem? hnk
    have htk : (namesOf s).take (k + 1) = (namesOf s).take k ++ [(namesOf s).getD k ""] := by rw [List.take_add_one, hnk]; rfl
    have hnew : (namesOf s).getD k "" ∉ (namesOf s).take k := fun z => by
      have nd2 : ((namesOf s).take (k + 1)).Nodup := n1.sublist (List.take_sublist _ _)
      rw [htk] at nd2
      exact (List.nodup_append.mp nd2).2.2 _ z _ (by simp) rfl
    refine ⟨okTabs_snoc _ _ _ o1 ⟨(n2 _ hmem).1, ?_, ?_, ?_⟩, ?_, ?_, ?_⟩
    · rw [List.nil_append, o2]; exact hnew
    · rw [List.nil_append]; show found.length < 3; omega
    · rw [List.nil_append]; exact i1
    · rw [List.map_append, o2, htk]; rfl
    · rw [sumRefs_snoc]
      show left - manyOf k left (fdT sk 3) + (sumRefs found + refsN (innerT found k (manyOf k left (fdT sk 3)) (cols0 k sk, feed2 k (fdT sk 3))).1) = 3
      rw [i2]; omega
    · intro t ht c hc
      rcases List.mem_append.mp ht with h | h
      · exact o4 t h c hc
      · rw [List.mem_singleton.mp h] at hc
        have hcn : c.1 ∈ (innerT found k (manyOf k left (fdT sk 3)) (cols0 k sk, feed2 k (fdT sk 3))).1.map Prod.fst := List.mem_map.mpr ⟨c, hc, rfl⟩
        rw [i3] at hcn
        rcases List.mem_append.mp hcn with q | q
        · have := List.mem_of_mem_take q
          rcases (words_ok k sk).1 with w | w | w
          · rw [w] at this
            have e : c.1 = "p" ∨ c.1 = "size" := by simpa using this
            rcases e with e | e <;> rw [e] <;> decide +kernel
          · rw [w] at this
            have e : c.1 = "r" ∨ c.1 = "t" := by simpa using this
            rcases e with e | e <;> rw [e] <;> decide +kernel
          · rw [w] at this
            have e : c.1 = "p" ∨ c.1 = "t" := by simpa using this
            rcases e with e | e <;> rw [e] <;> decide +kernel
        · have := List.mem_of_mem_take q
          have e : c.1 = "r" ∨ c.1 = "one" := by simpa using this
          rcases e with e | e <;> rw [e] <;> decide +kernel
theorem cnt_pos (s : Fd) : 1 ≤ countOf s := by
  have h := fdI_lt (s := fdT s 4) (show 0 < 6 by decide)
  unfold countOf CNT
  generalize fdI (fdT s 4) 6 = i at h
  match i, h with
  | 0, _ => decide
  | 1, _ => decide
  | 2, _ => decide
  | 3, _ => decide
  | 4, _ => decide
  | 5, _ => decide
theorem drawn (s : Fd) : okTabs [] (tablesOf s) ∧ tablesOf s ≠ [] ∧ (∀ t ∈ tablesOf s, ∀ c ∈ t.2, c.1 ∈ CN) ∧ ∀ t ∈ tablesOf s, t.1 ≠ "x" := by
  obtain ⟨o1, o2, _, o4⟩ := outer_ok s (fdT (fdT s 4) 6) (countOf s) (cnt_le _)
  have hlen := outer_len (namesOf s) (fdT (fdT s 4) 6) (countOf s)
  refine ⟨o1, fun z => ?_, o4, fun t ht => ?_⟩
  · have := cnt_pos s
    have e : (tablesOf s).length = countOf s := hlen
    rw [z] at e
    simp at e
    omega
  · have : t.1 ∈ (tablesOf s).map Prod.fst := List.mem_map.mpr ⟨t, ht, rfl⟩
    have e : (tablesOf s).map Prod.fst = (namesOf s).take (countOf s) := o2
    rw [e] at this
    exact ((names_ok s).2 _ (List.mem_of_mem_take this)).2
end SP
/-! M3: other names. -/
namespace SP
open PySem L2 DV PM IX
theorem fine_q {n : Str} (h : n ∈ CN) : fineB (n ++ "q") = true := (by decide +kernel : ∀ n ∈ CN, fineB (n ++ ("q" : Str)) = true) n h
theorem q_inj {a b : Str} (h : a ++ ("q" : Str) = b ++ "q") : a = b := by
  apply lst_eq
  have := congrArg (fun x : Str => x.cps.toList) h
  simp only [app_list] at this
  exact List.append_cancel_right this
theorem xs_ok {i : Nat} (h : i < 3) : fineB (xs i) = true ∧ xs i ∉ (List.range i).map xs := by
  match i, h with
  | 0, _ => decide +kernel
  | 1, _ => decide +kernel
  | 2, _ => decide +kernel
theorem refs_nam (ns : List Str) (cs : List Col) : refsN (cs.map (namC ns)) = refsN cs := by
  unfold refsN
  rw [List.filter_map, List.length_map]
  congr 1
  apply List.filter_congr
  intro c _
  obtain ⟨n, t⟩ := c
  cases t <;> rfl
theorem named_len (T : List Tab) : (namedT T).length = T.length := List.length_mapIdx
theorem named_get {T : List Tab} {i : Nat} {t : Tab} (h : T[i]? = some t) : (namedT T)[i]? = some (namT (T.map (·.1)) i t) := by
  unfold namedT
  rw [List.getElem?_mapIdx, h]; rfl
theorem named_names (T : List Tab) : (namedT T).map (·.1) = (List.range T.length).map xs := by
  apply List.ext_getElem?
  intro i
  rw [List.getElem?_map, List.getElem?_map]
  by_cases h : i < T.length
  · rw [named_get (List.getElem?_eq_getElem h), List.getElem?_range h]; rfl
  · have : (namedT T)[i]? = none := List.getElem?_eq_none (by rw [named_len]; omega)
    have h2 : (List.range T.length)[i]? = none := List.getElem?_eq_none (by rw [List.length_range]; omega)
    rw [this, h2]; rfl
theorem named_take (T : List Tab) (i : Nat) : ((namedT T).take i).map Prod.fst = ((List.range T.length).map xs).take i := by
  rw [List.map_take]
  show (((namedT T).map (·.1)).take i) = _
  rw [named_names]
theorem sum_take {T : List Tab} (i : Nat) : sumRefs ((namedT T).take i) = sumRefs (T.take i) := by
  unfold sumRefs
  congr 1
  apply List.ext_getElem?
  intro j
  rw [List.getElem?_map, List.getElem?_map, List.getElem?_take, List.getElem?_take]
  by_cases hj : j < i
  · rw [if_pos hj, if_pos hj]
    cases h : T[j]? with
    | none =>
      have : (namedT T)[j]? = none := by
        have := List.getElem?_eq_none_iff.mp h
        exact List.getElem?_eq_none (by rw [named_len]; exact this)
      rw [this]
    | some t =>
      rw [named_get h]
      show some (refsN (t.2.map (namC _))) = some (refsN t.2)
      rw [refs_nam]
  · simp only [if_neg hj]
theorem idx_lt {n : Str} {l : List Str} (h : n ∈ l) : idxN n l < l.length := (List.getElem?_eq_some_iff.mp (idxN_get h).1).1
theorem okCols_nam {T0 N0 : List Tab} {ns : List Str} (hs : sumRefs N0 = sumRefs T0) (hm : ∀ e, e ∈ T0.map Prod.fst → xs (idxN e ns) ∈ N0.map Prod.fst) : ∀ (cs done : List Col), (∀ c ∈ cs, c.1 ∈ CN) → okCols T0 done cs → okCols N0 (done.map (namC ns)) (cs.map (namC ns))
  | [], _, _, _ => True.intro
  | c :: r, done, hn, ⟨h1, h2⟩ => by
    have ih := okCols_nam hs hm r (done ++ [c]) (fun c' hc' => hn c' (List.mem_cons_of_mem _ hc')) h2
    rw [List.map_append] at ih
    refine ⟨?_, ih⟩
    have hc := fine_q (hn c List.mem_cons_self)
    have hnew : c.1 ∉ done.map Prod.fst → c.1 ++ "q" ∉ (done.map (namC ns)).map Prod.fst := fun h z => by
      rw [List.map_map] at z
      obtain ⟨d, hd, ed⟩ := List.mem_map.mp z
      exact h (List.mem_map.mpr ⟨d, hd, q_inj ed⟩)
    obtain ⟨n, t⟩ := c
    cases t with
    | none =>
      obtain ⟨a, b, _, d⟩ := h1
      exact ⟨by rw [refs_nam]; exact a, by rw [List.length_map]; exact b, hc, hnew d⟩
    | some t =>
      obtain ⟨a, b, _, d, e⟩ := h1
      exact ⟨by rw [refs_nam]; exact a, by rw [refs_nam, hs]; exact b, hc, hnew d, hm _ e⟩
theorem named_ok {T : List Tab} (h : okTabs [] T) (hn : ∀ t ∈ T, ∀ c ∈ t.2, c.1 ∈ CN) : okTabs [] (namedT T) := by
  have key : ∀ i, i ≤ T.length → okTabs [] ((namedT T).take i) := by
    intro i
    induction i with
    | zero => intro _; exact True.intro
    | succ i ih =>
      intro hi
      have ht : T[i]? = some T[i] := List.getElem?_eq_getElem (by omega)
      generalize T[i] = t at ht
      have h3 := ok_len h
      obtain ⟨x1, x2⟩ := xs_ok (i := i) (by omega)
      obtain ⟨_, _, _, hcs⟩ := okTabs_at h ht
      have e : (namedT T).take (i + 1) = (namedT T).take i ++ [namT (T.map (·.1)) i t] := by rw [List.take_add_one, named_get ht]; rfl
      have er : ((List.range T.length).map xs).take i = (List.range i).map xs := by
        rw [← List.map_take, List.take_range, Nat.min_eq_left (by omega)]
      rw [e]
      refine okTabs_snoc _ _ _ (ih (by omega)) ?_
      rw [List.nil_append]
      refine ⟨x1, by rw [named_take, er]; exact x2, by rw [List.length_take, named_len]; omega, ?_⟩
      refine okCols_nam (T0 := T.take i) (sum_take i) (fun e he => ?_) t.2 [] (hn t (List.mem_of_getElem? ht)) hcs
      rw [named_take, er]
      have he' : e ∈ (T.map (·.1)).take i := by rw [List.map_take] at he; exact he
      have hl := idx_lt he'
      have e2 : idxN e (T.map (·.1)) = idxN e ((T.map (·.1)).take i) := by
        have := idxN_app (m := (T.map (·.1)).drop i) he'
        rw [List.take_append_drop] at this
        exact this
      rw [e2]
      rw [List.length_take, List.length_map] at hl
      exact List.mem_map.mpr ⟨_, List.mem_range.mpr (by omega), rfl⟩
  have := key T.length (Nat.le_refl _)
  rw [← named_len T, List.take_length] at this
  exact this
theorem named_ne {T : List Tab} (h : T ≠ []) : namedT T ≠ [] := fun z => by
  have := named_len T
  rw [z] at this
  exact h (List.length_eq_zero_iff.mp this.symm)
theorem shape_named {T : List Tab} (h : okTabs [] T) (hn : ∀ t ∈ T, ∀ c ∈ t.2, c.1 ∈ CN) : shapeD (namedT T) = shapeD T := by
  have ho := named_ok h hn
  have h3 := ok_len h
  unfold shapeD
  congr 1
  apply List.ext_getElem?
  intro i
  rw [List.getElem?_map, List.getElem?_map]
  cases ht : T[i]? with
  | none =>
    have : (namedT T)[i]? = none := List.getElem?_eq_none (by rw [named_len]; exact List.getElem?_eq_none_iff.mp ht)
    rw [this]; rfl
  | some t =>
    rw [named_get ht]
    show some (D.lst ((t.2.map (namC (T.map (·.1)))).map (idxD ((namedT T).map (·.1))))) = some (D.lst (t.2.map (idxD (T.map (·.1)))))
    congr 2
    rw [List.map_map]
    apply List.map_congr_left
    intro c hc
    obtain ⟨n, o⟩ := c
    cases o with
    | none => rfl
    | some o =>
      have hm := early_ok (ok_early h) t (List.mem_of_getElem? ht) _ hc o rfl
      have hl := idx_lt hm
      rw [List.length_map] at hl
      show D.int (idxN (xs (idxN o (T.map (·.1)))) ((namedT T).map (·.1)) : Nat) = D.int (idxN o (T.map (·.1)) : Nat)
      rw [idxN_nodup (i := idxN o (T.map (·.1))) (ok_nodup ho) (by rw [named_names, List.getElem?_map, List.getElem?_range hl]; rfl)]
theorem rows_head (t : Tab) (r : List Tab) : rowsOf (t :: r) = PM.rowOf ["table", t.1] :: (rowsOf (t :: r)).tail := rfl
theorem named_rows {T : List Tab} (hx : ∀ t ∈ T, t.1 ≠ "x") (hn : T ≠ []) : ¬ rowsOf (namedT T) = rowsOf T := fun z => by
  cases T with
  | nil => exact hn rfl
  | cons t r =>
    have h0 : (namedT (t :: r))[0]? = some (namT ((t :: r).map (·.1)) 0 t) := named_get rfl
    cases hN : namedT (t :: r) with
    | nil => rw [hN] at h0; cases h0
    | cons u q =>
      rw [hN] at h0 z
      have eu : u = namT ((t :: r).map (·.1)) 0 t := Option.some.inj h0
      have z' : PM.rowOf ["table", u.1] :: (rowsOf (u :: q)).tail = PM.rowOf ["table", t.1] :: (rowsOf (t :: r)).tail := z
      have e := (List.cons.inj z').1
      rw [← row_table, ← row_table, Str.empty_append] at e
      have e2 : u.1 = t.1 := by
        apply lst_eq
        have := congrArg (fun x : Str => x.cps.toList) e
        simp only [app_list] at this
        exact List.append_cancel_left this
      have e3 : u.1 = "x" := by rw [eu]; rfl
      exact hx t List.mem_cons_self (e2 ▸ e3)
theorem lows_nam (ns : List Str) (cs : List Col) : lowsOf (cs.map (namC ns)) = lowsOf cs := by
  unfold lowsOf
  rw [List.map_map]
  congr 1
  apply List.map_congr_left
  intro c _
  obtain ⟨n, t⟩ := c
  cases t <;> rfl
theorem row_nam (ns : List Str) (cs : List Col) (vs : List Int) : rowB (cs.map (namC ns)) vs = rowB cs vs := by
  unfold rowB
  rw [lows_nam, List.length_map]
end SP
/-! L0: what the law needs beside. -/
namespace SP
open PySem L2 DV PM IX
variable {K : PySem.W.Frag}
section
variable {P : List Addr} {ss : List Sl} {cs cs1 cs2 : List (List D)} {te : TE} {ta : TA} {B0 H0 H : Hp} {σ : L2.St} {De : Ends}
theorem ef_lst {tA : TA} {ds : List D} (h : EvA K P ss cs tA (ds.map Sl.dat) cs1) (hl : ds.length ≤ 1000000 := by decide) : EvF K P ss cs (tLst tA) ds cs1 := fun B H σ o Q q =>
  h B H σ o _ fun vs B1 H1 s1 o1 r1 => by
    have ra := rsA r1
    refine ⟨le_line (by rw [ra.length]; exact hl), fun p hp => ?_⟩
    have hp0 : H p = none := by
      cases e : H p with
      | none => rfl
      | some u => obtain ⟨u', h'⟩ := s1.dm p u e; rw [hp] at h'; cases h'
    have bp : B1 p = none := o1.ex.free hp
    have hP : p ∉ P := fun z => by
      obtain ⟨u, h1, _⟩ := o1.mu.mem z
      rw [hp] at h1; cases h1
    refine q p vs B1 _ hp0 ⟨s1.ex, fun b u n e => ?_, s1.nb, fun b u e => ?_⟩ ⟨ex_upd o1.ex bp, o1.sl, o1.mu.keep (Ex.refl _) (fun x hx => upd_ne fun z => hP (z ▸ hx)) fun x hx => (o1.mu.mem hx).choose_spec.2⟩ upd_same bp ra
    · rw [upd_ne (ne_of_none e hp0)]; exact s1.fr b u n e
    · rw [upd_ne (ne_of_none e hp0)]; exact s1.dm b u e
/-- a new list, told to nobody -/
def spFeed (K : PySem.W.Frag) : Sp := fun vs H Q _ => ∃ B ns i, RSs K B vs [.dat (.fro (ns.map D.int)), .dat (.int (i : Nat))] ∧ ns.length ≤ 63 ∧ i < 60 ∧ Ex B H ∧
  ∀ p ws B' H', H p = none → Stp [] B H B' H' → Ex B' H' → H' p = some (.lst ws) → B' p = none → RpA K B' ws (fdD (preFeed.feedOf ns i)) → Q (.ref p) H'
theorem ef_feed {ns : List Int} {i : Nat} (h : EvA K P ss cs ta [.dat (.fro (ns.map D.int)), .dat (.int (i : Nat))] cs1) (hl : ns.length ≤ 63) (hi : i < 60) : EvF K P ss cs (tCall (spFeed K) [] E0 ta) (fdD (preFeed.feedOf ns i)) cs1 := fun B H σ o Q q =>
  h B H σ o _ fun vs B1 H1 s1 o1 r1 => by
    show spFeed K (vs ++ []) H1 Q E0
    rw [List.append_nil]
    refine ⟨B1, ns, i, r1, hl, hi, o1.ex, fun p ws B2 H2 hp s2 e2 h2 b2 r2 => ?_⟩
    have hp0 : H p = none := by
      cases e : H p with
      | none => rfl
      | some u => obtain ⟨u', h'⟩ := s1.dm p u e; rw [hp] at h'; cases h'
    exact q p ws B2 H2 hp0 (s1.trans s2.ofNil) (o1.step0 s2 e2) h2 b2 r2
theorem st_par {i j : Nat} {r1 r2 : Sl} (h : Sta K P B0 H0 ss cs σ H) (he : EvA K P ss cs ta [r1, r2] cs1) (k : ∀ σ' H', Sta K P B0 H0 ((ss.set i r1).set j r2) cs1 σ' H' → De.nx σ' H') : tPar i j ta De σ H := by
  obtain ⟨B, s, o⟩ := h
  refine he B H σ o _ fun vs B1 H1 s1 o1 r => ?_
  obtain ⟨v, v', rfl, h1, h2⟩ := rs2 r
  exact ⟨v, v', rfl, k _ _ ⟨B1, s.trans s1, o1.ex, (o1.sl.set h1).set h2, o1.mu⟩⟩
theorem ev_cmeth {C : Addr} {pre : Pre} {rs : List Sl} {r : Sl} (ha : EvA K P ss cs ta rs cs1) (hp : pre (.val (.ref C) :: rs) [] [] r []) : Ev K P ss cs (ClX.tCMeth C (spM K pre) E0 (tC (.ref C)) ta) r cs1 := fun B H σ o Q q => by
  refine ⟨rfl, ha B H σ o _ fun vs B1 H1 s1 o1 r1 => ?_⟩
  exact ⟨B1, _, [], [], r, [], hp, o1.ex, ⟨rfl, r1⟩, True.intro, fun v B2 H2 s2 e2 _ v2 => q v B2 H2 (s1.trans s2.ofNil) (o1.step0 s2 e2) v2⟩
end
theorem cb_strOwn {C : Addr} {T : List Tab} (hT : tabsOk T) : CbD K (OWN.rStrOwn C (spM K (preStr C))) [.dat (schD C T)] (.dat (.str (textOf T))) := fun B H vs e h Q q => by
  obtain ⟨v, rfl, h1⟩ := rs1 h
  have a' : Rp K B v (schD C T) := h1
  obtain ⟨a, rfl⟩ : ∃ a, v = .ref a := by
    unfold schD at a'
    cases a' with
    | @obj a => exact ⟨a, rfl⟩
  obtain ⟨dx, fvs, hH⟩ : ∃ dx fvs, H a = some (.ins C dx fvs) := by
    unfold schD at a'
    cases a' with
    | obj h5 _ => exact ⟨_, _, e _ _ h5⟩
  refine ⟨a, dx, fvs, rfl, hH, B, _, [], [], _, [], ⟨T, rfl, hT, rfl, rfl, rfl, rfl⟩, e, ⟨h1, True.intro⟩, True.intro, fun z B2 H2 s2 e2 _ v2 => ?_⟩
  have b' : Rp K B2 z (.str (textOf T)) := v2
  cases b'
  exact ⟨_, rfl, q _ B2 H2 s2 e2 v2⟩
theorem od_eqOwn {C : Addr} {T U : List Tab} {neg : Bool} (hT : tabsOk T) (hU : tabsOk U) : OpD K (OWN.rEqOwn K C (spM K (preSEq C)) neg) (.dat (schD C T)) (.dat (schD C U)) (.dat (.bl (if neg then !decide (rowsOf T = rowsOf U) else decide (rowsOf T = rowsOf U)))) := fun B H x y e h1 h2 Q q => by
  have isRef : ∀ {v : V} {T : List Tab}, Rp K B v (schD C T) → ∃ a dx fvs, v = .ref a ∧ H a = some (.ins C dx fvs) := fun {v T} a' => by
    unfold schD at a'
    cases a' with
    | @obj a _ dx fvs _ h5 _ => exact ⟨a, dx, fvs, rfl, e _ _ h5⟩
  obtain ⟨a, dx, fs, rfl, ha⟩ := isRef h1
  obtain ⟨b, dy, gs, rfl, hb⟩ := isRef h2
  refine ⟨a, dx, fs, rfl, ha, ⟨b, dy, gs, rfl, hb⟩, B, _, [], [], _, [], ⟨T, U, rfl, hT, hU, rfl, rfl, rfl, rfl⟩, e, ⟨h1, h2, True.intro⟩, True.intro, fun z B2 H2 s2 e2 _ v2 => ?_⟩
  have b' : Rp K B2 z (.bl (decide (rowsOf T = rowsOf U))) := v2
  cases b'
  exact ⟨_, rfl, q _ B2 H2 s2 e2 (.bl _)⟩
end SP
/-! W1: the laws' own drawing of a view: the model, and the dict of lists that change. -/
namespace SP
open PySem L2 DV PM RG LK
variable {K : PySem.W.Frag}
structure WV where
  nodes : List NodeM
  shown : List (Nat × Str)
  ranges : List RangeM
  rows : List Str
def plainN (cols : List Col) : List Str := (cols.filter fun c => c.2.isNone).map (·.1)
def chF (z : Fd × List Str) (x : Str) : Fd × List Str := (fdT z.1 2, if fdI z.1 2 = 0 then z.2 ++ [x] else z.2)
def chooseF (s : Fd) (l : List Str) : Fd × List Str := l.foldl chF (s, [])
def ahead (d : Nat) : Str := Txt.mul "  " (d : Int)
def endO (s : Fd) : Option Int := [none, none, some 0, some 1, some 1, some 2, some 3].getD (fdI s 7) none
def endW (o : Option Int) : Str := match o with
  | none => "-"
  | some i => toString i
def shF (d node : Nat) (V : WV) (x : Str) : WV := { V with shown := V.shown ++ [(node, x)], rows := V.rows ++ [ahead d ++ "shown " ++ x] }
def rgF (d node : Nat) (z : Fd × WV) (x : Str) : Fd × WV := if z.2.ranges.length < 4 then
    (let lo := endO z.1; let hi := endO (fdT z.1 7); (fdT (fdT z.1 7) 7, { z.2 with ranges := z.2.ranges ++ [(node, x, lo, hi)], rows := z.2.rows ++ [ahead d ++ "range " ++ x ++ " " ++ Txt.join " " [endW lo, endW hi]] }))
  else z
def foF (rec : Fd → WV → Nat → Nat → Fd × WV) (d node : Nat) (z : Fd × WV) (c : Col) : Fd × WV := match c.2 with
  | none => z
  | some t => if z.2.nodes.length < 4 then (if 0 < fdI z.1 4 then rec (fdT z.1 4) { z.2 with nodes := z.2.nodes ++ [(some (node, c.1), t)], rows := z.2.rows ++ [ahead d ++ "follow " ++ c.1] } z.2.nodes.length (d + 1) else (fdT z.1 4, z.2)) else z
def colsW (T : List Tab) (V : WV) (node : Nat) : List Col := (T.lookup ((V.nodes.getD node (none, Str.empty)).2)).getD []
def partsF (s : Fd) (V : WV) (cols : List Col) (node d : Nat) : Fd × WV :=
  let c1 := chooseF s (plainN cols)
  let V1 := c1.2.foldl (shF d node) V
  let c2 := chooseF c1.1 (plainN cols)
  c2.2.foldl (rgF d node) (c2.1, V1)
def nodeF (T : List Tab) : Nat → Fd → WV → Nat → Nat → Fd × WV
  | 0, s, V, _, _ => (s, V)
  | f + 1, s, V, node, d => (colsW T V node).foldl (foF (nodeF T f) d node) (partsF s V (colsW T V node) node d)
/-- the dict of a view that is drawn, and its rows of text -/
structure WObj (K : PySem.W.Frag) (B H : Hp) (pd n sh rg pr : Addr) (V : WV) : Prop where
  dct : H pd = some (.dK [(.inr "nodes", .ref n), (.inr "shown", .ref sh), (.inr "ranges", .ref rg)])
  nod : B pd = none
  nl : LC K B H n (V.nodes.map nodeD)
  sl : LC K B H sh (V.shown.map shownD)
  rl : LC K B H rg (V.ranges.map rangeMD)
  ro : LC K B H pr (V.rows.map D.str)
  d1 : n ≠ sh
  d2 : n ≠ rg
  d3 : n ≠ pr
  d4 : sh ≠ rg
  d5 : sh ≠ pr
  d6 : rg ≠ pr
section
variable {P : List Addr} {B H B' H' : Hp} {pd n sh rg pr : Addr} {V : WV}
theorem WObj.np (h : WObj K B H pd n sh rg pr V) : pd ≠ n ∧ pd ≠ sh ∧ pd ≠ rg ∧ pd ≠ pr := by
  have go : ∀ {a ds}, LC K B H a ds → pd ≠ a := fun {a ds} l z => by
    obtain ⟨vs, h1, _⟩ := l
    rw [← z, h.dct] at h1; cases h1
  exact ⟨go h.nl, go h.sl, go h.rl, go h.ro⟩
theorem WObj.step (h : WObj K B H pd n sh rg pr V) (s : Stp P B H B' H') (hp : pd ∉ P) (hn : n ∉ P) (hs : sh ∉ P) (hr : rg ∉ P) (hw : pr ∉ P) : WObj K B' H' pd n sh rg pr V where
  dct := s.fr _ _ hp h.dct
  nod := by rw [s.nb _ _ h.dct]; exact h.nod
  nl := h.nl.step s hn
  sl := h.sl.step s hs
  rl := h.rl.step s hr
  ro := h.ro.step s hw
  d1 := h.d1
  d2 := h.d2
  d3 := h.d3
  d4 := h.d4
  d5 := h.d5
  d6 := h.d6
theorem WObj.step0 (h : WObj K B H pd n sh rg pr V) (s : Stp [] B H B' H') : WObj K B' H' pd n sh rg pr V := h.step s (by simp) (by simp) (by simp) (by simp) (by simp)
theorem WObj.addN {q : NodeM} (h : WObj K B H pd n sh rg pr V) (l : LC K B H' n (V.nodes.map nodeD ++ [nodeD q])) (far : ∀ b, b ≠ n → H' b = H b) : WObj K B H' pd n sh rg pr { V with nodes := V.nodes ++ [q] } :=
  { dct := by rw [far _ h.np.1]; exact h.dct, nod := h.nod, nl := by rw [List.map_append]; exact l, sl := h.sl.same (far _ (Ne.symm h.d1)), rl := h.rl.same (far _ (Ne.symm h.d2)), ro := h.ro.same (far _ (Ne.symm h.d3)), d1 := h.d1, d2 := h.d2, d3 := h.d3, d4 := h.d4, d5 := h.d5, d6 := h.d6 }
theorem WObj.addS {q : Nat × Str} (h : WObj K B H pd n sh rg pr V) (l : LC K B H' sh (V.shown.map shownD ++ [shownD q])) (far : ∀ b, b ≠ sh → H' b = H b) : WObj K B H' pd n sh rg pr { V with shown := V.shown ++ [q] } :=
  { dct := by rw [far _ h.np.2.1]; exact h.dct, nod := h.nod, nl := h.nl.same (far _ h.d1), sl := by rw [List.map_append]; exact l, rl := h.rl.same (far _ (Ne.symm h.d4)), ro := h.ro.same (far _ (Ne.symm h.d5)), d1 := h.d1, d2 := h.d2, d3 := h.d3, d4 := h.d4, d5 := h.d5, d6 := h.d6 }
theorem WObj.addR {q : RangeM} (h : WObj K B H pd n sh rg pr V) (l : LC K B H' rg (V.ranges.map rangeMD ++ [rangeMD q])) (far : ∀ b, b ≠ rg → H' b = H b) : WObj K B H' pd n sh rg pr { V with ranges := V.ranges ++ [q] } :=
  { dct := by rw [far _ h.np.2.2.1]; exact h.dct, nod := h.nod, nl := h.nl.same (far _ h.d2), sl := h.sl.same (far _ h.d4), rl := by rw [List.map_append]; exact l, ro := h.ro.same (far _ (Ne.symm h.d6)), d1 := h.d1, d2 := h.d2, d3 := h.d3, d4 := h.d4, d5 := h.d5, d6 := h.d6 }
theorem WObj.addO {x : Str} (h : WObj K B H pd n sh rg pr V) (l : LC K B H' pr (V.rows.map D.str ++ [D.str x])) (far : ∀ b, b ≠ pr → H' b = H b) : WObj K B H' pd n sh rg pr { V with rows := V.rows ++ [x] } :=
  { dct := by rw [far _ h.np.2.2.2]; exact h.dct, nod := h.nod, nl := h.nl.same (far _ h.d3), sl := h.sl.same (far _ h.d5), rl := h.rl.same (far _ h.d6), ro := by rw [List.map_append]; exact l, d1 := h.d1, d2 := h.d2, d3 := h.d3, d4 := h.d4, d5 := h.d5, d6 := h.d6 }
theorem WObj.getN (h : WObj K B H pd n sh rg pr V) : DGet H pd (.str "nodes") (some (.ref n)) := by
  have := DGet.k (k := .inr "nodes") (H := H) (a := pd) h.dct
  have e : valV [((.inr "nodes" : Key), L2.V.ref n), (.inr "shown", .ref sh), (.inr "ranges", .ref rg)] (.inr "nodes") = some (L2.V.ref n) := by simp [valV]
  rw [e] at this
  exact this
theorem WObj.getS (h : WObj K B H pd n sh rg pr V) : DGet H pd (.str "shown") (some (.ref sh)) := by
  have := DGet.k (k := .inr "shown") (H := H) (a := pd) h.dct
  have e : valV [((.inr "nodes" : Key), L2.V.ref n), (.inr "shown", .ref sh), (.inr "ranges", .ref rg)] (.inr "shown") = some (L2.V.ref sh) := by simp [valV, show ¬ (("nodes" : Str) = "shown") by decide +kernel]
  rw [e] at this
  exact this
theorem WObj.getR (h : WObj K B H pd n sh rg pr V) : DGet H pd (.str "ranges") (some (.ref rg)) := by
  have := DGet.k (k := .inr "ranges") (H := H) (a := pd) h.dct
  have e : valV [((.inr "nodes" : Key), L2.V.ref n), (.inr "shown", .ref sh), (.inr "ranges", .ref rg)] (.inr "ranges") = some (L2.V.ref rg) := by simp [valV, show ¬ (("nodes" : Str) = "ranges") by decide +kernel, show ¬ (("shown" : Str) = "ranges") by decide +kernel]
  rw [e] at this
  exact this
end
theorem len_cell {B H : Hp} {a : Addr} {ds : List D} {Q : VK} (l : LC K B H a ds) (k : Q (.int (ds.length : Int)) H) : rLen1 K [.ref a] H Q := by
  obtain ⟨vs, h1, _, h3⟩ := l
  exact ⟨_, ds.length, rfl, .inl ⟨vs, .inl (.inl h1), h3.length.symm⟩, k⟩
theorem ix_cell {B H : Hp} {a : Addr} {ds : List D} {i : Int} {d : D} {Q : VK} (l : LC K B H a ds) (h : atI ds i = some d) (k : ∀ v, Rp K B v d → Q v H) : rIx K (.ref a) (.int i) H Q := by
  obtain ⟨vs, h1, _, h3⟩ := l
  obtain ⟨v, h4, h5⟩ := h3.atI h
  exact .inl ⟨_, _, i, v, rfl, rfl, .inl (.inl h1), h4, k v h5⟩
section
variable {P : List Addr} {ss : List Sl} {cs cs1 : List (List D)} {te : TE} {ds : List D}
/-- the comprehension whose test may change the lists -/
theorem ef_lcT {wi : TI} {g : TG} {tt : TT} {vs : List Nat} {es : List D} (hw : WD K P ss cs wi es cs1) (out : Nat → List D) (C : Nat → List (List D)) (o0 : out 0 = []) (c0 : C 0 = cs1) (hz : es.length ≤ 1000000)
    (hs : ∀ p i d, p ∉ P → es[i]? = some d → (out i).length ≤ i ∧ ∃ G W b, GR K (wipeS ss vs) g d G W ∧ (∀ k ∈ W, k ∈ vs) ∧ EvT K (p :: P) G (out i :: C i) tt b (out i :: C (i + 1)) ∧
      (b = true → ∃ e, Ev K (p :: P) G (out i :: C (i + 1)) te (.dat e) (out i :: C (i + 1)) ∧ out (i + 1) = out i ++ [e]) ∧ (b = false → out (i + 1) = out i)) :
    EvF K P ss cs (tLc wi g tt te vs) (out es.length) (C es.length) := fun B H σ o Q q => by
  refine hw B H σ o _ fun It B1 H1 s1 o1 wk Dp hDp => ?_
  have hDP : Dp ∉ P := fun z => by
    obtain ⟨u, h1, _⟩ := o1.mu.mem z
    rw [hDp] at h1; cases h1
  have hD0 : H Dp = none := by
    cases e : H Dp with
    | none => rfl
    | some u =>
      obtain ⟨u', h'⟩ := s1.dm Dp u e
      rw [hDp] at h'; cases h'
  let I : Nat → Hp → Prop := fun i H' => ∃ B', Stp (Dp :: P) B1 H1 B' H' ∧ Okk K (Dp :: P) ss (out i :: C i) B' H' σ
  have i0 : I 0 (upd H1 Dp (.lst [])) := by
    refine ⟨B1, ⟨Ex.refl _, fun b u n e => ?_, fun _ _ _ => rfl, fun b u e => ⟨u, Ex.new hDp b u e⟩⟩, fun b u e => Ex.new hDp b u (o1.ex b u e), o1.sl, ⟨⟨[], upd_same, by rw [o0]; exact .nil⟩, o1.ex.free hDp, hDP, ?_⟩⟩
    · rw [upd_ne (fun (z : b = Dp) => n (z ▸ List.mem_cons_self))]; exact e
    · rw [c0]
      exact o1.mu.keep (Ex.refl _) (fun x hx => upd_ne fun (z : x = Dp) => hDP (z ▸ hx)) fun x hx => (o1.mu.mem hx).choose_spec.2
  refine ⟨fun i m H' => m = es.length - i ∧ i ≤ es.length ∧ I i H', ⟨es.length, by simp, Nat.zero_le _, i0⟩, ?_⟩
  rintro i m H' ⟨rfl, hi, B2, s2, o2⟩
  obtain ⟨w1, w2⟩ := wk i B2 H' s2.ex o2.ex
  by_cases hlt : i < es.length
  · have hd' : es[i]? = some es[i] := List.getElem?_eq_getElem hlt
    obtain ⟨go, yl⟩ := w1 _ hd'
    obtain ⟨hol, G, W, b, hg, hW, htt, hyes, hno⟩ := hs Dp i _ hDP hd'
    refine .inr ⟨go, I (i + 1), fun H3 q => ⟨es.length - (i + 1), by omega, rfl, hlt, q⟩, fun x H3 y => ?_⟩
    obtain ⟨B3, s3, e3, x3⟩ := yl x H3 y
    have o3 := o2.step0 s3 e3
    refine hg B3 H3 (wipe σ vs) x o3.ex (o3.sl.wipe vs) x3 _ fun σ4 s4 on => ⟨on.wipe hW, ?_⟩
    refine htt B3 H3 σ4 ⟨o3.ex, s4, o3.mu⟩ _ fun B5 H5 s5 o5 => ?_
    have s35 : Stp (Dp :: P) B2 H' B5 H5 := s3.ofNil.trans s5
    have s15 := s2.trans s35
    cases b with
    | true =>
      obtain ⟨e, hev, ho⟩ := hyes rfl
      show te σ4 H5 _
      refine hev B5 H5 σ4 o5 _ fun v B6 H6 s6 o6 v6 => ?_
      obtain ⟨⟨ws, hw6, r6⟩, hB6, hn6, m6⟩ := o6.mu
      have s16 := s15.trans s6
      refine ⟨ws, hw6, lt_line (by rw [r6.length]; omega), B6, ⟨s16.ex, fun c u n ec => ?_, s16.nb, fun c u ec => ?_⟩, fun c u ec => ?_, ?_, ⟨⟨ws ++ [v], upd_same, by rw [ho]; exact r6.append (.cons v6 .nil)⟩, hB6, hn6, ?_⟩⟩
      · rw [upd_ne (fun (z : c = Dp) => n (z ▸ List.mem_cons_self))]
        exact s16.fr c u n ec
      · obtain ⟨u', h'⟩ := s16.dm c u ec
        by_cases hc : c = Dp
        · subst hc; exact ⟨_, upd_same⟩
        · exact ⟨u', by rw [upd_ne hc]; exact h'⟩
      · rw [upd_ne (fun (z : c = Dp) => by rw [z, hB6] at ec; cases ec)]
        exact o6.ex c u ec
      · exact o2.sl.mono (s35.trans s6).ex
      · exact m6.keep (Ex.refl _) (fun x hx => upd_ne fun (z : x = Dp) => hn6 (z ▸ hx)) fun x hx => (m6.mem hx).choose_spec.2
    | false =>
      have ho := hno rfl
      show I (i + 1) H5
      refine ⟨B5, s15, o5.ex, o2.sl.mono s35.ex, ?_⟩
      rw [ho]
      exact o5.mu
  · have e : i = es.length := by omega
    subst e
    obtain ⟨⟨ws, hw2, r2⟩, hB2, hn2, m2⟩ := o2.mu
    refine .inl ⟨w2 (Nat.le_refl _), q Dp ws B2 H' hD0 (s1.trans ⟨s2.ex, fun b u n eb => ?_, s2.nb, s2.dm⟩) ⟨o2.ex, o2.sl, m2⟩ hw2 hB2 r2⟩
    exact s2.fr b u (fun z => by
      rcases List.mem_cons.mp z with z | z
      · rw [z, hDp] at eb; cases eb
      · exact n z) eb
end
end SP
/-! W1b: what holds of a view that is drawn. -/
namespace SP
open PySem L2 DV PM RG LK
def NIn (V : WV) : Prop := V.shown.length + 4 ≤ 4 * V.nodes.length ∧ V.rows.length + 9 ≤ 10 * V.nodes.length
def NOut (V : WV) : Prop := V.shown.length ≤ 4 * V.nodes.length ∧ V.rows.length ≤ 10 * V.nodes.length
structure NOk (T : List Tab) (V : WV) : Prop where
  nl : V.nodes.length ≤ 4
  rl : V.ranges.length ≤ 4
  tab : ∀ q ∈ V.nodes, q.2 ∈ T.map (·.1)
def Grow (V V' : WV) : Prop := ∃ ext, V'.nodes = V.nodes ++ ext
theorem Grow.refl (V : WV) : Grow V V := ⟨[], by simp⟩
theorem Grow.trans {V V' V'' : WV} (a : Grow V V') (b : Grow V' V'') : Grow V V'' := by
  obtain ⟨x, hx⟩ := a
  obtain ⟨y, hy⟩ := b
  exact ⟨x ++ y, by rw [hy, hx, List.append_assoc]⟩
theorem Grow.len {V V' : WV} (a : Grow V V') : V.nodes.length ≤ V'.nodes.length := by
  obtain ⟨x, hx⟩ := a
  rw [hx, List.length_append]; omega
theorem choose_fold (l : List Str) : ∀ (s : Fd) (acc : List Str), (l.foldl chF (s, acc)).2.length ≤ acc.length + l.length := by
  induction l with
  | nil => intro s acc; simp
  | cons x l ih =>
    intro s acc
    rw [List.foldl_cons]
    show (l.foldl chF (fdT s 2, if fdI s 2 = 0 then acc ++ [x] else acc)).2.length ≤ _
    have := ih (fdT s 2) (if fdI s 2 = 0 then acc ++ [x] else acc)
    rw [List.length_cons]
    split at this
    · rw [List.length_append, List.length_singleton] at this; rename_i h; rw [if_pos h]; omega
    · rename_i h; rw [if_neg h]; omega
theorem choose_len (s : Fd) (l : List Str) : (chooseF s l).2.length ≤ l.length := by
  have := choose_fold l s []
  rw [List.length_nil, Nat.zero_add] at this
  exact this
theorem choose_sub_fold (l : List Str) : ∀ (s : Fd) (acc : List Str), ∃ r, (l.foldl chF (s, acc)).2 = acc ++ r ∧ List.Sublist r l := by
  induction l with
  | nil => intro s acc; exact ⟨[], by simp, List.Sublist.refl _⟩
  | cons x l ih =>
    intro s acc
    rw [List.foldl_cons]
    show ∃ r, (l.foldl chF (fdT s 2, if fdI s 2 = 0 then acc ++ [x] else acc)).2 = acc ++ r ∧ _
    obtain ⟨r, h1, h2⟩ := ih (fdT s 2) (if fdI s 2 = 0 then acc ++ [x] else acc)
    by_cases h : fdI s 2 = 0
    · rw [if_pos h] at h1 ⊢
      exact ⟨x :: r, by rw [h1, List.append_assoc]; rfl, h2.cons₂ x⟩
    · rw [if_neg h] at h1 ⊢
      exact ⟨r, h1, h2.cons x⟩
theorem choose_sub (s : Fd) (l : List Str) : List.Sublist (chooseF s l).2 l := by
  obtain ⟨r, h1, h2⟩ := choose_sub_fold l s []
  rw [List.nil_append] at h1
  unfold chooseF
  rw [h1]; exact h2
theorem plain_len (cols : List Col) : (plainN cols).length ≤ cols.length := by
  unfold plainN
  rw [List.length_map]
  exact List.length_filter_le _ _
theorem sh_fold (d node : Nat) : ∀ (l : List Str) (V : WV), (l.foldl (shF d node) V).nodes = V.nodes ∧ (l.foldl (shF d node) V).ranges = V.ranges ∧ (l.foldl (shF d node) V).shown.length = V.shown.length + l.length ∧ (l.foldl (shF d node) V).rows.length = V.rows.length + l.length
  | [], V => ⟨rfl, rfl, rfl, rfl⟩
  | x :: l, V => by
    rw [List.foldl_cons]
    obtain ⟨a, b, c, e⟩ := sh_fold d node l (shF d node V x)
    refine ⟨a, b, ?_, ?_⟩
    · rw [c]; show (V.shown ++ [(node, x)]).length + l.length = _; rw [List.length_append, List.length_singleton, List.length_cons]; omega
    · rw [e]; show (V.rows ++ [_]).length + l.length = _; rw [List.length_append, List.length_singleton, List.length_cons]; omega
theorem rg_fold (d node : Nat) : ∀ (l : List Str) (z : Fd × WV), z.2.ranges.length ≤ 4 → (l.foldl (rgF d node) z).2.nodes = z.2.nodes ∧ (l.foldl (rgF d node) z).2.shown = z.2.shown ∧ (l.foldl (rgF d node) z).2.ranges.length ≤ 4 ∧ (l.foldl (rgF d node) z).2.rows.length ≤ z.2.rows.length + l.length
  | [], z, h => ⟨rfl, rfl, h, Nat.le_refl _⟩
  | x :: l, z, h => by
    rw [List.foldl_cons]
    have h1 : (rgF d node z x).2.ranges.length ≤ 4 ∧ (rgF d node z x).2.nodes = z.2.nodes ∧ (rgF d node z x).2.shown = z.2.shown ∧ (rgF d node z x).2.rows.length ≤ z.2.rows.length + 1 := by
      unfold rgF
      split
      · refine ⟨?_, rfl, rfl, ?_⟩
        · show (z.2.ranges ++ [_]).length ≤ 4; rw [List.length_append, List.length_singleton]; omega
        · show (z.2.rows ++ [_]).length ≤ _; rw [List.length_append, List.length_singleton]; omega
      · exact ⟨h, rfl, rfl, Nat.le_succ _⟩
    obtain ⟨a, b, c, e⟩ := rg_fold d node l (rgF d node z x) h1.1
    refine ⟨a.trans h1.2.1, b.trans h1.2.2.1, c, ?_⟩
    rw [List.length_cons]; omega
theorem parts_ok {T : List Tab} {s : Fd} {V : WV} {cols : List Col} {node d : Nat} (hc : cols.length ≤ 4) (k : NOk T V) (i : NIn V) : (partsF s V cols node d).2.nodes = V.nodes ∧ NOk T (partsF s V cols node d).2 ∧ NOut (partsF s V cols node d).2 := by
  unfold partsF
  dsimp only
  generalize hc1 : chooseF s (plainN cols) = c1
  generalize hc2 : chooseF c1.1 (plainN cols) = c2
  have l1 : c1.2.length ≤ 4 := by
    have := choose_len s (plainN cols); rw [hc1] at this
    have := plain_len cols; omega
  have l2 : c2.2.length ≤ 4 := by
    have := choose_len c1.1 (plainN cols); rw [hc2] at this
    have := plain_len cols; omega
  obtain ⟨a, b, c, e⟩ := sh_fold d node c1.2 V
  obtain ⟨a', b', c', e'⟩ := rg_fold d node c2.2 (c2.1, c1.2.foldl (shF d node) V) (by dsimp only; rw [b]; exact k.rl)
  dsimp only at a' b' c' e'
  refine ⟨a'.trans a, ⟨by rw [a', a]; exact k.nl, c', by rw [a', a]; exact k.tab⟩, ?_, ?_⟩
  · rw [b', a', a, c]; have := i.1; omega
  · rw [a', a]; rw [e] at e'; have := i.2; omega
theorem cols_mem {T : List Tab} (hT : (T.map (·.1)).Nodup) {V : WV} (k : NOk T V) {node : Nat} (hn : node < V.nodes.length) : (V.nodes[node].2, colsW T V node) ∈ T := by
  have hm := k.tab _ (List.getElem_mem hn)
  obtain ⟨t, ht, he⟩ := List.mem_map.mp hm
  have e := lookup_mem hT ht
  have : colsW T V node = t.2 := by
    unfold colsW
    rw [List.getD_eq_getElem?_getD, List.getElem?_eq_getElem hn, Option.getD_some, ← he, e]; rfl
  rw [this, ← he]
  exact ht
theorem fo_one {T : List Tab} {rec : Fd → WV → Nat → Nat → Fd × WV} {m d node : Nat} (hrec : ∀ s V n' d', NOk T V → NIn V → n' < V.nodes.length → m + 1 ≤ V.nodes.length → NOk T (rec s V n' d').2 ∧ NOut (rec s V n' d').2 ∧ Grow V (rec s V n' d').2) {c : Col} (hc : ∀ t, c.2 = some t → t ∈ T.map (·.1)) {z : Fd × WV} (k : NOk T z.2) (o : NOut z.2) (hm : m ≤ z.2.nodes.length) :
    NOk T (foF rec d node z c).2 ∧ NOut (foF rec d node z c).2 ∧ Grow z.2 (foF rec d node z c).2 := by
  obtain ⟨cn, ct⟩ := c
  unfold foF
  cases ct with
  | none => exact ⟨k, o, Grow.refl _⟩
  | some t =>
    dsimp only
    split
    · rename_i hlt
      split
      · have hl : (z.2.nodes ++ [(some (node, cn), t)]).length = z.2.nodes.length + 1 := by rw [List.length_append, List.length_singleton]
        have h := hrec (fdT z.1 4) { z.2 with nodes := z.2.nodes ++ [(some (node, cn), t)], rows := z.2.rows ++ [ahead d ++ "follow " ++ cn] } z.2.nodes.length (d + 1) ⟨by show (z.2.nodes ++ [_]).length ≤ 4; rw [hl]; omega, k.rl, fun q hq => by
          rcases List.mem_append.mp (show q ∈ z.2.nodes ++ [(some (node, cn), t)] from hq) with h | h
          · exact k.tab q h
          · rw [List.mem_singleton.mp h]; exact hc t rfl⟩ ⟨by show z.2.shown.length + 4 ≤ 4 * (z.2.nodes ++ [_]).length; rw [hl]; have := o.1; omega, by show (z.2.rows ++ [_]).length + 9 ≤ 10 * (z.2.nodes ++ [_]).length; rw [hl, List.length_append, List.length_singleton]; have := o.2; omega⟩ (by show z.2.nodes.length < (z.2.nodes ++ [_]).length; rw [hl]; omega) (by show m + 1 ≤ (z.2.nodes ++ [_]).length; rw [hl]; omega)
        refine ⟨h.1, h.2.1, Grow.trans ⟨[(some (node, cn), t)], rfl⟩ h.2.2⟩
      · exact ⟨k, o, Grow.refl _⟩
    · exact ⟨k, o, Grow.refl _⟩
theorem fo_fold {T : List Tab} {rec : Fd → WV → Nat → Nat → Fd × WV} {m d node : Nat} (hrec : ∀ s V n' d', NOk T V → NIn V → n' < V.nodes.length → m + 1 ≤ V.nodes.length → NOk T (rec s V n' d').2 ∧ NOut (rec s V n' d').2 ∧ Grow V (rec s V n' d').2) : ∀ {cols : List Col}, (∀ c ∈ cols, ∀ t, c.2 = some t → t ∈ T.map (·.1)) → ∀ {z : Fd × WV}, NOk T z.2 → NOut z.2 → m ≤ z.2.nodes.length →
    NOk T (cols.foldl (foF rec d node) z).2 ∧ NOut (cols.foldl (foF rec d node) z).2 ∧ Grow z.2 (cols.foldl (foF rec d node) z).2
  | [], _, z, k, o, _ => ⟨k, o, Grow.refl _⟩
  | c :: cols, hc, z, k, o, hm => by
    rw [List.foldl_cons]
    obtain ⟨a, b, g⟩ := fo_one hrec (hc c List.mem_cons_self) (d := d) (node := node) k o hm
    obtain ⟨a', b', g'⟩ := fo_fold hrec (d := d) (node := node) (fun x hx => hc x (List.mem_cons_of_mem _ hx)) a b (by have := g.len; omega)
    exact ⟨a', b', g.trans g'⟩
theorem node_ok {T : List Tab} (hT : schOk T) (hX : refsOk T) : ∀ (f : Nat) (s : Fd) (V : WV) (node d : Nat), NOk T V → NIn V → node < V.nodes.length → 5 ≤ V.nodes.length + f → NOk T (nodeF T f s V node d).2 ∧ NOut (nodeF T f s V node d).2 ∧ Grow V (nodeF T f s V node d).2
  | 0, s, V, node, d, k, i, hn, hf => by have := k.nl; omega
  | f + 1, s, V, node, d, k, i, hn, hf => by
    have hm := cols_mem hT.2 k hn
    have hc4 := (hT.1.2 _ hm).2.1
    obtain ⟨p1, p2, p3⟩ := parts_ok (s := s) (node := node) (d := d) hc4 k i
    show NOk T ((colsW T V node).foldl (foF (nodeF T f) d node) (partsF s V (colsW T V node) node d)).2 ∧ _
    obtain ⟨a, b, g⟩ := fo_fold (m := V.nodes.length) (d := d) (node := node) (rec := nodeF T f) (T := T) (fun s' V' n' d' k' i' hn' hm' => node_ok hT hX f s' V' n' d' k' i' hn' (by omega)) (fun c hc t ht => hX _ hm c hc t ht) p2 p3 (by rw [p1]; exact Nat.le_refl _)
    exact ⟨a, b, Grow.trans ⟨[], by rw [p1, List.append_nil]⟩ g⟩
end SP
/-! W2: the laws' own drawing of a view. -/
namespace SP
open PySem L2 DV PM RG LK
variable {K : PySem.W.Frag}
def ENDS : List (Option Int) := [none, none, some 0, some 1, some 1, some 2, some 3]
def preEnd : Pre := fun rs Pl cs r cs' => ∃ p s, rs = [.val (.ref p)] ∧ Pl = [p] ∧ cs = [fdD s] ∧ r = .dat (optI (endO s)) ∧ cs' = [fdD (fdT s 7)]
def spAdd (K : PySem.W.Frag) (f : Nat) : Sp := fun vs H Q _ => ∃ B p s pd n sh rg pr Vw T vT node d, vs = [.ref p, vT, .ref pd, .ref pr, .int (node : Nat), .int (d : Nat)] ∧ Ex B H ∧ Mu K B H [p] [fdD s] ∧ Rp K B vT (encTs T) ∧ WObj K B H pd n sh rg pr Vw ∧ p ∉ [pd, n, sh, rg, pr] ∧ schOk T ∧ refsOk T ∧ NOk T Vw ∧ NIn Vw ∧ node < Vw.nodes.length ∧ 5 ≤ Vw.nodes.length + f ∧ d + f ≤ 100 ∧
  ∀ B' H', Stp [p, n, sh, rg, pr] B H B' H' → Ex B' H' → Mu K B' H' [p] [fdD (nodeF T f s Vw node d).1] → WObj K B' H' pd n sh rg pr (nodeF T f s Vw node d).2 → Q .non H'
theorem od_smulN {a : Str} {k : Nat} (hm : MulOk a (k : Int)) : OpD K rSMul (.dat (.str a)) (.dat (.int (k : Nat))) (.dat (.str (Txt.mul a (k : Int)))) := fun B H x y e h1 h2 Q q => by
  cases (show Rp K B x (.str a) from h1)
  cases (show Rp K B y (.int (k : Nat)) from h2)
  exact ⟨a, _, rfl, rfl, hm, q _ B H (Stp.refl _ _ _) e (.str _)⟩
/-- xs.append(d) of a list that is no feed -/
theorem app_cellE {B H : Hp} {ss : List Sl} {σ : L2.St} {p a : Addr} {s : Fd} {ds : List D} {d : D} {te : TE} {Q : Hp → Prop} (l : LC K B H a ds) (o : Okk K [p] ss [fdD s] B H σ) (hap : a ≠ p) (hz : ds.length ≤ 100000) (ev : Ev K [p] ss [fdD s] te (.dat d) [fdD s])
    (k : ∀ B1 H1 H2, Stp [p] B H B1 H1 → Stp [a] B1 H1 B1 H2 → Okk K [p] ss [fdD s] B1 H2 σ → LC K B1 H2 a (ds ++ [d]) → (∀ b, b ≠ a → H2 b = H1 b) → Q H2) :
    tyV K "list" (.ref a) H ∧ tCons te tNil σ H (fun xs H2 => rAppend (.ref a) xs H2 (fun _ H3 => Q H3)) := by
  refine ⟨l.ty, ?_⟩
  refine ev B H σ o _ fun v B1 H1 s1 o1 r1 => ?_
  have l1 := l.step s1 (by simpa using hap)
  refine tnil_go ?_
  refine app_cell l1 o1.ex (by omega) r1 fun H2 s2 e2 l2 far => ?_
  exact k B1 H1 H2 s1 s2 ⟨e2, o1.sl, o1.mu.keep (Ex.refl _) (fun x hx => far x (by rw [List.mem_singleton.mp hx]; exact Ne.symm hap)) fun x hx => (o1.mu.mem hx).choose_spec.2⟩ l2 far
theorem mulOk_sp {k : Nat} (h : k ≤ 1000) : MulOk "  " (k : Int) := by
  have hl : ("  " : Str).length = 2 := by decide +kernel
  refine ⟨by simp; omega, fun h1 _ => ?_, fun h1 _ => ?_⟩
  · rw [hl]
    have h2 : (1 : Int) ≤ k := by omega
    have h3 : (2 : Int) ≤ (2 ^ 63 - 1) / (k : Int) := by
      rw [Int.le_ediv_iff_mul_le (by omega)]
      omega
    omega
  · rw [hl]
    show decide _ = false
    rw [decide_eq_false_iff_not, sizeLine_eq, Int.toNat_natCast]
    omega
theorem setv {B H : Hp} {P : List Addr} {cs : List (List D)} {ss : List Sl} {σ : L2.St} {i : Nat} {v : V} {d : D} (o : Okk K P ss cs B H σ) (h : Rp K B v d) : Okk K P (ss.set i (.dat d)) cs B H (σ.set i (some v)) := ⟨o.ex, o.sl.set h, o.mu⟩
theorem foldl_app (l : List (Array Nat)) : ∀ acc : Array Nat, (l.foldl (· ++ ·) acc).toList = acc.toList ++ (l.map Array.toList).flatten := by
  induction l with
  | nil => intro acc; simp
  | cons a l ih => intro acc; rw [List.foldl_cons, ih]; simp
theorem sp2 : ("  " : Str).cps.toList = [32, 32] := by decide +kernel
theorem flat_sp : ∀ n : Nat, ((List.replicate n ("  " : Str).cps).map Array.toList).flatten = List.replicate (2 * n) 32
  | 0 => rfl
  | n + 1 => by
    rw [List.replicate_succ, List.map_cons, List.flatten_cons, flat_sp n, sp2, show 2 * (n + 1) = 2 * n + 1 + 1 by omega, List.replicate_succ, List.replicate_succ]
    rfl
theorem ahead_list (d : Nat) : (ahead d).cps.toList = List.replicate (2 * d) 32 := by
  unfold ahead Txt.mul
  by_cases h0 : d = 0
  · subst h0; rfl
  · rw [if_neg (by omega)]
    by_cases h1 : d = 1
    · subst h1
      rw [if_pos (by decide +kernel)]
      exact sp2
    · have hl : ("  " : Str).length = 2 := by decide +kernel
      rw [if_neg (by rw [hl]; simp; omega), Int.toNat_natCast]
      show (((List.replicate d ("  " : Str).cps).foldl (· ++ ·) #[])).toList = _
      rw [foldl_app, flat_sp]
      rfl
theorem ahead_len (d : Nat) : (ahead d).length = 2 * d := by
  have := congrArg List.length (ahead_list d)
  rw [List.length_replicate, Array.length_toList] at this
  exact this
theorem end_ok (s : Fd) : ∀ i, endO s = some i → 0 ≤ i ∧ i ≤ 3 := by
  have h := fdI_lt (s := s) (show 0 < 7 by decide)
  unfold endO
  generalize fdI s 7 = k at h
  intro i hi
  match k, h, hi with
  | 0, _, h => cases h
  | 1, _, h => cases h
  | 2, _, h => cases h; decide
  | 3, _, h => cases h; decide
  | 4, _, h => cases h; decide
  | 5, _, h => cases h; decide
  | 6, _, h => cases h; decide
theorem log_small {i : Int} (h : 0 ≤ i ∧ i ≤ 3) : i.natAbs.log2 < 1920 := by
  have h4 : i.natAbs < 4 := by omega
  exact Nat.lt_of_le_of_lt (Nat.log2_le_self _) (by omega)
def ENDSW : List (Option Int) := [none, some 0, some 1, some 2, some 3]
theorem end_mem {o : Option Int} (h : ∀ i, o = some i → 0 ≤ i ∧ i ≤ 3) : o ∈ ENDSW := by
  cases o with
  | none => decide
  | some i =>
    obtain ⟨h1, h2⟩ := h i rfl
    have : i = 0 ∨ i = 1 ∨ i = 2 ∨ i = 3 := by omega
    rcases this with rfl | rfl | rfl | rfl <;> decide
theorem join_two (lo hi : Option Int) (h1 : ∀ i, lo = some i → 0 ≤ i ∧ i ≤ 3) (h2 : ∀ i, hi = some i → 0 ≤ i ∧ i ≤ 3) : ([endW lo, endW hi].map (·.length)).sum + [endW lo, endW hi].length * (" " : Str).length ≤ 1000000 ∧ (Txt.join " " [endW lo, endW hi]).length ≤ 10 := by
  have := (by decide +kernel : ∀ lo ∈ ENDSW, ∀ hi ∈ ENDSW, ([endW lo, endW hi].map (·.length)).sum + [endW lo, endW hi].length * (" " : Str).length ≤ 1000000 ∧ (Txt.join " " [endW lo, endW hi]).length ≤ 10)
  exact this lo (end_mem h1) hi (end_mem h2)
/-- the chosen ones of some names -/
theorem ef_choose {ss : List Sl} {te : TE} {p : Addr} {s : Fd} {l : List Str} {tt : TT} {i : Nat} {te2 : TE} (hw : Ev K [p] ss [fdD s] te (.dat (.lst (l.map D.str))) [fdD s]) (hl : l.length ≤ 1000)
    (ht : ∀ q s' acc x, EvT K [q, p] ((wipeS ss [i]).set i (.dat (.str x))) [acc, fdD s'] tt (decide (fdI s' 2 = 0)) [acc, fdD (fdT s' 2)]) (he : ∀ q s' acc x, Ev K [q, p] ((wipeS ss [i]).set i (.dat (.str x))) [acc, fdD s'] te2 (.dat (.str x)) [acc, fdD s']) :
    EvF K [p] ss [fdD s] (tLc (iList K te) (gName i) tt te2 [i]) ((chooseF s l).2.map D.str) [fdD (chooseF s l).1] := by
  have h := ef_lcT (K := K) (P := [p]) (cs := [fdD s]) (cs1 := [fdD s]) (tt := tt) (te := te2) (g := gName i) (vs := [i]) (es := l.map D.str) (wd_lst hw) (fun j => (chooseF s (l.take j)).2.map D.str) (fun j => [fdD (chooseF s (l.take j)).1]) rfl rfl (by rw [List.length_map]; omega) (fun q j d hq hd => by
    obtain ⟨x, hx, rfl⟩ := map_get hd
    have hstep : chooseF s (l.take (j + 1)) = chF (chooseF s (l.take j)) x := by
      unfold chooseF
      rw [List.take_add_one, hx, List.foldl_append]
      rfl
    refine ⟨by rw [List.length_map]; have := choose_len s (l.take j); rw [List.length_take] at this; omega, _, [i], decide (fdI (chooseF s (l.take j)).1 2 = 0), g_name, by simp, ?_, fun hb => ?_, fun hb => ?_⟩
    · rw [show [fdD (chooseF s (l.take (j + 1))).1] = [fdD (fdT (chooseF s (l.take j)).1 2)] by rw [hstep]; rfl]
      exact ht q _ _ x
    · refine ⟨.str x, he q _ _ x, ?_⟩
      rw [hstep]
      unfold chF
      rw [if_pos (of_decide_eq_true hb), List.map_append]
      rfl
    · rw [hstep]
      unfold chF
      rw [if_neg (of_decide_eq_false hb)])
  rw [List.length_map, List.take_length] at h
  exact h
end SP
namespace T3
open PySem L2 DV PM SP LK
abbrev s_l_end : Stmt := topS 41
abbrev N_l_end : List Str := ["feed"]
theorem sc_l_end : FnScope N_l_end ["feed"] (defScope s_l_end) := ⟨rfl, rfl, rfl, by decide +kernel, rfl, by decide +kernel, by decide +kernel⟩

abbrev s_l_add_node : Stmt := topS 42
abbrev N_l_add_node : List Str := ["feed", "tables", "view", "rows", "node", "depth", "table", "ahead", "columns", "name", "target", "plain", "low", "high", "some", "end"]
theorem sc_l_add_node : FnScope N_l_add_node ["feed", "tables", "view", "rows", "node", "depth"] (defScope s_l_add_node) := ⟨rfl, rfl, rfl, by decide +kernel, rfl, by decide +kernel, by decide +kernel⟩

section
variable {P : Program} {w : World} {K : PySem.W.Frag} {mg : Str → Option Value} {base : Heap}
theorem ok_lend {f fP : Addr} {fd fdP : FuncData} (F : Fun K "_law_end" "_law_end" s_l_end f fd) (G_l_pick : Def P w K mg base 2 "_law_pick" fP fdP ["feed", "options"] (spM K prePick)) : FnOk P w K mg base CX0 3 f fd ["feed"] (spM K preEnd) := by
  refine ok_body F sc_l_end (fun rs Pl cs r cs' h => ?_) (fun X hX hr => ?_)
  · obtain ⟨p, s, rfl, _⟩ := h
    rfl
  obtain ⟨cdv, A, outer, s', H, E, rfl⟩ := hX
  have nd := sc_l_end.nd
  refine ⟨_, (pss_one (ps_ret (pe_def G_l_pick hr (by decide) (by rfl) (pa_cons (pv 0) (pa_cons (pe_lst (pa_cons pe_non (pa_cons pe_non (pa_cons pe_int (pa_cons pe_int (pa_cons pe_int (pa_cons pe_int (pa_cons pe_int pa_nil)))))))) pa_nil))))), ?_⟩
  intro rs Pl cs r cs' hp B0 H0 σ Dn st hP hd hn
  obtain ⟨p, s, rfl, rfl, rfl, rfl, rfl⟩ := hp
  refine st_ret st (ev_call1 (j := 0) (ds := fdD s) (ds' := fdD (fdT s 7)) (ea_cons (r := .val (.ref p)) (ev_var rfl) (ea_cons (ev_lst (ds := ENDS.map optI) (ea_cons ev_non (ea_cons ev_non (ea_cons ev_int (ea_cons ev_int (ea_cons ev_int (ea_cons ev_int (ea_cons ev_int ea_nil)))))))) ea_nil)) rfl rfl
    ⟨p, s, _, _, rfl, rfl, rfl, by decide, by decide, pk_get ENDS optI none s 7 rfl (by decide), rfl, rfl⟩) hd
theorem ok_ladd0 {f : Addr} {fd : FuncData} (F : Fun K "_law_add_node" "_law_add_node" s_l_add_node f fd) : FnOk P w K mg base CX0 4 f fd ["feed", "tables", "view", "rows", "node", "depth"] (spAdd K 0) := by
  refine F.ok sc_l_add_node (fun vs H Q E h => ?_) (fun cdv A outer s H vs Q E hr h => ?_)
  · obtain ⟨B, p, s, pd, n, sh, rg, pr, Vw, T, vT, node, d, rfl, _⟩ := h
    rfl
  · obtain ⟨B, p, s, pd, n, sh, rg, pr, Vw, T, vT, node, d, rfl, _, _, _, _, _, _, _, k, _, _, h, _⟩ := h
    have := k.nl
    omega
theorem ok_laddS {jj : Nat} {f fC fT fE : Addr} {fd fdC fdTk fdE : FuncData} (F : Fun K "_law_add_node" "_law_add_node" s_l_add_node f fd) (G_l_add_node : Def P w K mg base (jj + 4) "_law_add_node" f fd ["feed", "tables", "view", "rows", "node", "depth"] (spAdd K jj)) (G_l_columns : Def P w K mg base 1 "_law_columns" fC fdC ["tables", "table"] (spM K preLCols)) (G_l_take : Def P w K mg base 1 "_law_take" fT fdTk ["feed", "size"] (spM K preTake)) (G_l_end : Def P w K mg base 3 "_law_end" fE fdE ["feed"] (spM K preEnd)) (b_len : mg "len" = none) (b_str : mg "str" = none) :
    FnOk P w K mg base CX0 (jj + 4 + 1) f fd ["feed", "tables", "view", "rows", "node", "depth"] (spAdd K (jj + 1)) := by
  refine F.ok sc_l_add_node (fun vs H Q E h => ?_) (fun cdv A outer s H vs Q E hr h => ?_)
  · obtain ⟨B, p, s, pd, n, sh, rg, pr, Vw, T, vT, node, d, rfl, _⟩ := h
    rfl
  have nd := sc_l_add_node.nd
  refine ⟨_, (pss_cons (ps_set (i := 6) nd rfl (.inl rfl) (pe_ix ix_seq (pe_ix ix_seq (pe_dget (hu_of hr) (pv 2) pe_str (fun _ _ => rfl)) (pv 4) (fun _ _ => rfl)) pe_int (fun _ _ => rfl)))
      (pss_cons (ps_par (i := 7) (j := 8) rfl nd rfl rfl (by decide) rfl rfl (pa_cons (pe_op op_smul pe_str (pv 5)) (pa_cons (pe_def G_l_columns hr (by omega) (by rfl) (pa_cons (pv 1) (pa_cons (pv 6) pa_nil))) pa_nil)) (by rfl))
      (pss_cons (ps_setLc (i := 11) (own := [("name", 9), ("target", 10)]) (g := (gTup K 2 (gCons (gName 9) (gCons (gName 10) gNil)))) (tt := (tTest (tOp rIsN (tVar 10) (tC .non)))) (te := (tVar 9)) rfl nd rfl rfl (sw_true rfl rfl rfl (by decide +kernel)) (pi_list (pv 8)) (blkOk_by (N := N_l_add_node) (sc := defScope s_l_add_node) (by decide +kernel)) (by intro _ _ _ _ _; exact (pg_tup (by rfl) (by exact (pgs_cons (by exact (pg_name (i := 9) nd (by rfl) (by first | exact .inl rfl | exact .inr rfl))) (by exact (pgs_cons (by exact (pg_name (i := 10) nd (by rfl) (by first | exact .inl rfl | exact .inr rfl))) (by exact pgs_nil))))))) (by intro _ _ _ _ _; exact (pts_one (pt_cmpR op_isN' (pv 10) pe_non (nomark _)))) (by intro _ _ _ _ _; exact (pv 9)))
      (pss_cons (ps_for PassesOwn.never rfl (pi_list (pe_lc (own := [("name", 9)]) (g := (gName 9)) (tt := (tTest (tOp (eqA K) (tCall _ [] E0 (tCons (tVar 0) (tCons (tC (.int 2)) tNil))) (tC (.int 0))))) (te := (tVar 9)) rfl nd (pi_list (pv 11)) (blkOk_by (N := N_l_add_node) (sc := defScope s_l_add_node) (by decide +kernel)) (by intro _ _ _ _ _; exact (pg_name (i := 9) nd (by rfl) (by first | exact .inl rfl | exact .inr rfl))) (by intro _ _ _ _ _; exact (pts_one (pt_cmpR (op_eqA hr.units) (pe_def G_l_take hr (by omega) (by rfl) (pa_cons (pv 0) (pa_cons pe_int pa_nil))) pe_int (nomark _)))) (by intro _ _ _ _ _; exact (pv 9)))) (pg_name (i := 9) nd (by rfl) (by first | exact .inl rfl | exact .inr rfl)) (pss_cons (ps_expr (pe_bm PySem.F.plainAttrs_list PySem.F.slot_list_append PySem.F.type_list_append mt_append (pe_dget (hu_of hr) (pv 2) pe_str (fun _ _ => rfl)) (pa_cons (pe_tup (pa_cons (pv 4) (pa_cons (pv 9) pa_nil))) pa_nil)))
      (pss_one (ps_expr (pe_bm PySem.F.plainAttrs_list PySem.F.slot_list_append PySem.F.type_list_append mt_append (pv 3) (pa_cons (pe_op op_addA (pe_op op_addA (pv 7) pe_str) (pv 9)) pa_nil))))))
      (pss_cons (ps_for PassesOwn.never rfl (pi_list (pe_lc (own := [("name", 9)]) (g := (gName 9)) (tt := (tTest (tOp (eqA K) (tCall _ [] E0 (tCons (tVar 0) (tCons (tC (.int 2)) tNil))) (tC (.int 0))))) (te := (tVar 9)) rfl nd (pi_list (pv 11)) (blkOk_by (N := N_l_add_node) (sc := defScope s_l_add_node) (by decide +kernel)) (by intro _ _ _ _ _; exact (pg_name (i := 9) nd (by rfl) (by first | exact .inl rfl | exact .inr rfl))) (by intro _ _ _ _ _; exact (pts_one (pt_cmpR (op_eqA hr.units) (pe_def G_l_take hr (by omega) (by rfl) (pa_cons (pv 0) (pa_cons pe_int pa_nil))) pe_int (nomark _)))) (by intro _ _ _ _ _; exact (pv 9)))) (pg_name (i := 9) nd (by rfl) (by first | exact .inl rfl | exact .inr rfl)) (pss_one (ps_if (pt_cmpR op_lt (pe_callB call_len1 (by rfl) b_len PySem.boot_len (pa_cons (pe_dget (hu_of hr) (pv 2) pe_str (fun _ _ => rfl)) pa_nil)) pe_int (nomark _)) (pss_cons (ps_par (i := 12) (j := 13) rfl nd rfl rfl (by decide) rfl rfl (pa_cons (pe_def G_l_end hr (by omega) (by rfl) (pa_cons (pv 0) pa_nil)) (pa_cons (pe_def G_l_end hr (by omega) (by rfl) (pa_cons (pv 0) pa_nil)) pa_nil)) (by rfl))
      (pss_cons (ps_expr (pe_bm PySem.F.plainAttrs_list PySem.F.slot_list_append PySem.F.type_list_append mt_append (pe_dget (hu_of hr) (pv 2) pe_str (fun _ _ => rfl)) (pa_cons (pe_tup (pa_cons (pv 4) (pa_cons (pv 9) (pa_cons (pv 12) (pa_cons (pv 13) pa_nil))))) pa_nil)))
      (pss_cons (ps_setLc (i := 14) (own := [("end", 15)]) (g := (gName 15)) (tt := tYes) (te := (tIf (tTest (tOp rIsN (tVar 15) (tC .non))) (tC (.str "-")) _)) rfl nd rfl rfl (sw_true rfl rfl rfl (by decide +kernel)) (pi_tup (pe_tup (pa_cons (pv 12) (pa_cons (pv 13) pa_nil)))) (blkOk_by (N := N_l_add_node) (sc := defScope s_l_add_node) (by decide +kernel)) (by intro _ _ _ _ _; exact (pg_name (i := 15) nd (by rfl) (by first | exact .inl rfl | exact .inr rfl))) (by intro _ _ _ _ _; exact pts_nil) (by intro _ _ _ _ _; exact (pe_ifExp (pt_cmpR op_isN' (pv 15) pe_non (nomark _)) pe_str (pe_callTy call_strI1 (by rfl) b_str (by decide +kernel) (pa_cons (pv 15) pa_nil)))))
      (pss_one (ps_expr (pe_bm PySem.F.plainAttrs_list PySem.F.slot_list_append PySem.F.type_list_append mt_append (pv 3) (pa_cons (pe_op op_addA (pe_op op_addA (pe_op op_addA (pe_op op_addA (pv 7) pe_str) (pv 9)) pe_str) (pe_join pe_str (pv 14))) pa_nil))))))) pss_nil)))
      (pss_one (ps_for PassesOwn.never rfl (pi_list (pv 8)) (pg_tup (by rfl) (by exact (pgs_cons (by exact (pg_name (i := 9) nd (by rfl) (by first | exact .inl rfl | exact .inr rfl))) (by exact (pgs_cons (by exact (pg_name (i := 10) nd (by rfl) (by first | exact .inl rfl | exact .inr rfl))) (by exact pgs_nil)))))) (pss_one (ps_if (PW.pt (pw_and (pt_cmpR op_notN' (pv 10) pe_non (nomark _)) (pw_and (pt_cmpR op_lt (pe_callB call_len1 (by rfl) b_len PySem.boot_len (pa_cons (pe_dget (hu_of hr) (pv 2) pe_str (fun _ _ => rfl)) pa_nil)) pe_int (nomark _)) (pw_and1 (pt_cmpR op_gt (pe_def G_l_take hr (by omega) (by rfl) (pa_cons (pv 0) (pa_cons pe_int pa_nil))) pe_int (nomark _)))))) (pss_cons (ps_expr (pe_bm PySem.F.plainAttrs_list PySem.F.slot_list_append PySem.F.type_list_append mt_append (pe_dget (hu_of hr) (pv 2) pe_str (fun _ _ => rfl)) (pa_cons (pe_tup (pa_cons (pv 4) (pa_cons (pv 9) (pa_cons (pv 10) pa_nil)))) pa_nil)))
      (pss_cons (ps_expr (pe_bm PySem.F.plainAttrs_list PySem.F.slot_list_append PySem.F.type_list_append mt_append (pv 3) (pa_cons (pe_op op_addA (pe_op op_addA (pv 7) pe_str) (pv 9)) pa_nil)))
      (pss_one (ps_expr (pe_def G_l_add_node hr (by omega) (by rfl) (pa_cons (pv 0) (pa_cons (pv 1) (pa_cons (pv 2) (pa_cons (pv 3) (pa_cons (pe_op op_sub (pe_callB call_len1 (by rfl) b_len PySem.boot_len (pa_cons (pe_dget (hu_of hr) (pv 2) pe_str (fun _ _ => rfl)) pa_nil)) pe_int) (pa_cons (pe_op op_addA (pv 5) pe_int) pa_nil))))))))))) pss_nil))))))))), ?_⟩
  obtain ⟨B, p, s, pd, n, sh, rg, pr, Vw, T, vT, node, d, rfl, e0, mu0, rT, wo, hp, hT, hX, nk, ni, hnd, hf, hdf, q⟩ := h
  have st := sta_start (vs := [.ref p, vT, .ref pd, .ref pr, .int (node : Nat), .int (d : Nat)]) (N := N_l_add_node) (K := K) (P := [p]) (cs := [fdD s]) (rs := [.val (.ref p), .dat (encTs T), .val (.ref pd), .val (.ref pr), .dat (.int (node : Nat)), .dat (.int (d : Nat))]) e0 ⟨rfl, rT, rfl, rfl, .int _, .int _, True.intro⟩ mu0
  generalize L2.start N_l_add_node [V.ref p, vT, .ref pd, .ref pr, .int (node : Nat), .int (d : Nat)] = σ at st ⊢
  have st : Sta K [p] B H [.val (.ref p), .dat (encTs T), .val (.ref pd), .val (.ref pr), .dat (.int (node : Nat)), .dat (.int (d : Nat)), .any, .any, .any, .any, .any, .any, .any, .any, .any, .any] [fdD s] σ H := st
  obtain ⟨B1, s1, o1⟩ := st
  simp only [List.mem_cons, List.not_mem_nil, or_false, not_or] at hp
  obtain ⟨hp1, hp2, hp3, hp4, hp5⟩ := hp
  have wst : ∀ {B H B' H' : Hp} {Vw : WV}, WObj K B H pd n sh rg pr Vw → Stp [p] B H B' H' → WObj K B' H' pd n sh rg pr Vw := fun w t => w.step t (by simpa using Ne.symm hp1) (by simpa using Ne.symm hp2) (by simpa using Ne.symm hp3) (by simpa using Ne.symm hp4) (by simpa using Ne.symm hp5)
  have w1 := wst wo s1
  have hcm := cols_mem hT.2 nk hnd
  have hc4 : (colsW T Vw node).length ≤ 4 := (hT.1.2 _ hcm).2.1
  have hlook : T.lookup Vw.nodes[node].2 = some (colsW T Vw node) := by
    have := lookup_mem hT.2 hcm
    exact this
  obtain ⟨hpn1, hpn2, hpn3⟩ := parts_ok (s := s) (node := node) (d := d) hc4 nk ni
  -- table
  obtain ⟨u2, k2, e2⟩ := o1.sl.get 2 (.val (.ref pd)) rfl (by intro z; cases z)
  cases (show u2 = .ref pd from e2)
  obtain ⟨u4, k4, e4⟩ := o1.sl.get 4 (.dat (.int (node : Nat))) rfl (by intro z; cases z)
  cases (show Rp K B1 u4 (.int (node : Nat)) from e4)
  refine st_seq ?_
  refine ⟨.ref pd, k2, pd, .ref n, rfl, w1.getN, .int (node : Nat), k4, ?_⟩
  refine ix_cell w1.nl (d := nodeD Vw.nodes[node]) (atI_nat (by rw [List.getElem?_map, List.getElem?_eq_getElem hnd]; rfl)) fun v rv => ?_
  obtain ⟨na, nb, nE⟩ := node_third Vw.nodes[node]
  rw [nE] at rv
  refine od_ixT (d := .str Vw.nodes[node].2) (atI_nat (j := 2) rfl) B1 H v (.int 2) o1.ex rv (.int 2) _ fun v2 B2 H2 s2 x2 r2 => ?_
  have o2 := setv (i := 6) (o1.step0 s2 x2) r2
  have w2 := w1.step0 s2
  refine g_go ?_
  dsimp only []
  have o2 : Okk K [p] [.val (.ref p), .dat (encTs T), .val (.ref pd), .val (.ref pr), .dat (.int (node : Nat)), .dat (.int (d : Nat)), .dat (.str Vw.nodes[node].2), .any, .any, .any, .any, .any, .any, .any, .any, .any] [fdD s] B2 H2 (σ.set 6 (some v2)) := o2
  generalize σ.set 6 (some v2) = σ2 at o2
  have s02 : Stp [p] B H B2 H2 := s1.trans s2.ofNil
  -- ahead, columns
  refine st_seq ?_
  refine (ea_cons (ev_op ev_str (ev_var (i := 5) rfl) (od_smulN (mulOk_sp (by omega)))) (ea_cons (ev_call0 (ea_cons (ev_var (i := 1) rfl) (ea_cons (ev_var (i := 6) rfl) ea_nil)) ⟨T, _, _, rfl, hT.1, hT.2, hlook, rfl, rfl, rfl, rfl⟩) ea_nil) : EvA K [p] _ [fdD s] _ [.dat (.str (ahead d)), .dat (.lst ((colsW T Vw node).map encC))] [fdD s]) B2 H2 σ2 o2 _ fun vs B3 H3 s3 o3 r3 => ?_
  obtain ⟨v3, v4, rfl, r31, r32⟩ := rs2 r3
  refine ⟨v3, v4, rfl, ?_⟩
  have o3 := setv (i := 8) (setv (i := 7) o3 r31) r32
  have w3 := wst w2 s3
  dsimp only []
  have o3 : Okk K [p] [.val (.ref p), .dat (encTs T), .val (.ref pd), .val (.ref pr), .dat (.int (node : Nat)), .dat (.int (d : Nat)), .dat (.str Vw.nodes[node].2), .dat (.str (ahead d)), .dat (.lst ((colsW T Vw node).map encC)), .any, .any, .any, .any, .any, .any, .any] [fdD s] B3 H3 ((σ2.set 7 (some v3)).set 8 (some v4)) := o3
  generalize (σ2.set 7 (some v3)).set 8 (some v4) = σ3 at o3
  generalize hcols : colsW T Vw node = cols at *
  -- plain
  refine st_seq ?_
  have evp : Ev K [p] [.val (.ref p), .dat (encTs T), .val (.ref pd), .val (.ref pr), .dat (.int (node : Nat)), .dat (.int (d : Nat)), .dat (.str Vw.nodes[node].2), .dat (.str (ahead d)), .dat (.lst (cols.map encC)), .any, .any, .any, .any, .any, .any, .any] [fdD s] (tLc (iList K (tVar 8)) (gTup K 2 (gCons (gName 9) (gCons (gName 10) gNil))) (tTest (tOp rIsN (tVar 10) (tC .non))) (tVar 9) [9, 10]) (.dat (.lst ((plainN cols).map D.str))) [fdD s] := by
    refine Ev.eq (EvF.ev (ef_filterE (l := cols) (enc := encC) (wd_lst (ev_var (i := 8) rfl)) (fun c => .str c.1) (fun c => c.2.isNone) (by omega) (fun p' i c acc hx => ?_))) (by unfold plainN; rw [List.map_map]; rfl)
    obtain ⟨m, t⟩ := c
    cases t with
    | none => exact ⟨_, _, (g_tup (g_cons (g_name (i := 9)) (g_cons (g_name (i := 10)) g_nil)) : GR K _ _ (.tup [.str m, .non]) _ _), by decide, et_test (ev_op (ev_var (i := 10) rfl) ev_non od_isN), fun _ => ev_var (i := 9) rfl⟩
    | some t => exact ⟨_, _, (g_tup (g_cons (g_name (i := 9)) (g_cons (g_name (i := 10)) g_nil)) : GR K _ _ (.tup [.str m, .str t]) _ _), by decide, et_test (ev_op (ev_var (i := 10) rfl) ev_non od_isN), fun _ => ev_var (i := 9) rfl⟩
  refine evp B3 H3 σ3 o3 _ fun v5 B4 H4 s4 o4 r4 => ?_
  have o4 := setv (i := 11) o4 r4
  have w4 := wst w3 s4
  refine g_go ?_
  dsimp only []
  have o4 : Okk K [p] [.val (.ref p), .dat (encTs T), .val (.ref pd), .val (.ref pr), .dat (.int (node : Nat)), .dat (.int (d : Nat)), .dat (.str Vw.nodes[node].2), .dat (.str (ahead d)), .dat (.lst (cols.map encC)), .any, .any, .dat (.lst ((plainN cols).map D.str)), .any, .any, .any, .any] [fdD s] B4 H4 (σ3.set 11 (some v5)) := o4
  generalize σ3.set 11 (some v5) = σ4 at o4
  have s04 : Stp [p] B H B4 H4 := s02.trans (s3.trans s4)
  -- the shown ones
  have pPS : ∀ x ∈ [p], x ∈ [p, n, sh, rg, pr] := by simp
  have evc : ∀ s', EvF K [p] [.val (.ref p), .dat (encTs T), .val (.ref pd), .val (.ref pr), .dat (.int (node : Nat)), .dat (.int (d : Nat)), .dat (.str Vw.nodes[node].2), .dat (.str (ahead d)), .dat (.lst (cols.map encC)), .any, .any, .dat (.lst ((plainN cols).map D.str)), .any, .any, .any, .any] [fdD s'] (tLc (iList K (tVar 11)) (gName 9) (tTest (tOp (eqA K) (tCall (spM K preTake) [] E0 (tCons (tVar 0) (tCons (tC (.int 2)) tNil))) (tC (.int 0)))) (tVar 9) [9]) ((chooseF s' (plainN cols)).2.map D.str) [fdD (chooseF s' (plainN cols)).1] := fun s' => by
    refine ef_choose (ev_var (i := 11) rfl) (by have := plain_len cols; omega) (fun q s2 acc x => ?_) (fun q s2 acc x => ev_var (i := 9) rfl)
    exact et_test (Ev.eq (ev_op (ev_call1 (j := 1) (cs1 := [acc, fdD s2]) (ds := fdD s2) (ds' := fdD (fdT s2 2)) (ea_cons (r := .val (.ref p)) (ev_var (i := 0) rfl) (ea_cons ev_int ea_nil)) rfl rfl ⟨p, s2, 2, rfl, rfl, rfl, by decide, by decide, rfl, rfl⟩) ev_int od_eqI) (by rw [show decide (((fdI s2 2 : Nat) : Int) = 0) = decide (fdI s2 2 = 0) from by simp]))
  have hpf : partsF s Vw cols node d = ((chooseF (chooseF s (plainN cols)).1 (plainN cols)).2.foldl (rgF d node) ((chooseF (chooseF s (plainN cols)).1 (plainN cols)).1, (chooseF s (plainN cols)).2.foldl (shF d node) Vw)) := rfl
  have evc1 := evc s
  have hl1 := choose_len s (plainN cols)
  have hpl := plain_len cols
  have hwn : ∀ c ∈ cols, c.1.length ≤ 8 := fun c hc => ((hT.1.2 _ hcm).2.2 c hc).1.2.2.1
  have hpn : ∀ x ∈ plainN cols, x.length ≤ 8 := fun x hx => by
    unfold plainN at hx
    obtain ⟨c, hc, rfl⟩ := List.mem_map.mp hx
    exact hwn c (List.mem_filter.mp hc).1
  have hnm : ∀ x ∈ (chooseF s (plainN cols)).2, x.length ≤ 8 := fun x hx => hpn x ((choose_sub s (plainN cols)).subset hx)
  generalize hc1 : chooseF s (plainN cols) = c1 at evc1 hl1 hpf hnm
  obtain ⟨s1', names1⟩ := c1
  dsimp only at evc1 hl1 hpf hnm
  refine st_seq (t := tFor _ _ _) ?_
  refine st_forX (α := WV) (PS := [p, n, sh, rg, pr]) (P := [p]) (cs1 := [fdD s1']) pPS (Stp.refl [p, n, sh, rg, pr] B4 H4) o4 (wd_lst evc1.ev)
    (fun i z => z = (names1.take i).foldl (shF d node) Vw) (fun _ _ => [.val (.ref p), .dat (encTs T), .val (.ref pd), .val (.ref pr), .dat (.int (node : Nat)), .dat (.int (d : Nat)), .dat (.str Vw.nodes[node].2), .dat (.str (ahead d)), .dat (.lst (cols.map encC)), .any, .any, .dat (.lst ((plainN cols).map D.str)), .any, .any, .any, .any]) (fun _ _ => [fdD s1']) (fun _ z B H => WObj K B H pd n sh rg pr z) Vw
    rfl ⟨.rfl _, .rfl _, .rfl _, .rfl _, .rfl _, .rfl _, .rfl _, .rfl _, .rfl _, .any _, .any _, .rfl _, .any _, .any _, .any _, .any _, True.intro⟩ rfl (fun B5 H5 s5 => wst w4 s5) (fun i z B H B' H' x s => x.step0 s) (fun B5 H5 s5 i d' z hd' j => ?_) (fun z B6 σ6 H6 j s46 o6 x6 => ?_)
  · obtain ⟨x, hx, rfl⟩ := map_get hd'
    subst j
    have hnext : shF d node ((names1.take i).foldl (shF d node) Vw) x = (names1.take (i + 1)).foldl (shF d node) Vw := by
      rw [List.take_add_one, hx, List.foldl_append]; rfl
    obtain ⟨f1, f2, f3, f4⟩ := sh_fold d node (names1.take i) Vw
    have hil : i < names1.length := (List.getElem?_eq_some_iff.mp hx).1
    rw [List.length_take, Nat.min_eq_left (by omega)] at f3 f4
    generalize (names1.take i).foldl (shF d node) Vw = z at hnext f1 f2 f3 f4
    refine ⟨_, _, g_name (i := 9), fun B7 σ7 H7 s57 o7 x7 => ?_⟩
    have o7 : Okk K [p] [.val (.ref p), .dat (encTs T), .val (.ref pd), .val (.ref pr), .dat (.int (node : Nat)), .dat (.int (d : Nat)), .dat (.str Vw.nodes[node].2), .dat (.str (ahead d)), .dat (.lst (cols.map encC)), .dat (.str x), .any, .dat (.lst ((plainN cols).map D.str)), .any, .any, .any, .any] [fdD s1'] B7 H7 σ7 := o7
    have x7 : WObj K B7 H7 pd n sh rg pr z := x7
    have := ni.1
    have := ni.2
    -- view["shown"].append(..)
    obtain ⟨u2, k2, e2⟩ := o7.sl.get 2 (.val (.ref pd)) rfl (by intro z; cases z)
    cases (show u2 = .ref pd from e2)
    refine st_seq ?_
    refine ⟨.ref pd, k2, pd, .ref sh, rfl, x7.getS, ?_⟩
    refine app_cellE x7.sl o7 (Ne.symm hp3) (by rw [List.length_map, f3]; have := nk.nl; omega) (ev_tup (ds := [.int (node : Nat), .str x]) (ea_cons (ev_var (i := 4) rfl) (ea_cons (ev_var (i := 9) rfl) ea_nil)) (by simp)) fun B8 H8 H9 s8 s9 o9 l9 far => ?_
    have x9 := (wst x7 s8).addS (q := (node, x)) l9 far
    dsimp only []
    -- rows.append(..)
    obtain ⟨u3, k3, e3⟩ := o9.sl.get 3 (.val (.ref pr)) rfl (by intro z; cases z)
    cases (show u3 = .ref pr from e3)
    refine ⟨.ref pr, k3, ?_⟩
    refine app_cellE (d := .str (ahead d ++ "shown " ++ x)) x9.ro o9 (Ne.symm hp5) (by rw [List.length_map]; show z.rows.length ≤ _; rw [f4]; have := nk.nl; omega) (ev_op (ev_op (ev_var (i := 7) rfl) ev_str (od_addS (by rw [ahead_len, show ("shown " : Str).length = 6 by decide +kernel]; omega))) (ev_var (i := 9) rfl) (od_addS (by rw [len_app, ahead_len, show ("shown " : Str).length = 6 by decide +kernel]; have := hnm x (List.mem_of_getElem? hx); omega))) fun B10 H10 H11 s10 s11 o11 l11 far2 => ?_
    have x11 := (wst x9 s10).addO (x := ahead d ++ "shown " ++ x) l11 far2
    refine ⟨shF d node z x, hnext, B10, s57.trans ((s8.mono pPS).trans ((s9.mono (by simp)).trans ((s10.mono pPS).trans (s11.mono (by simp))))), ⟨o11.ex, o11.sl.le ⟨.rfl _, .rfl _, .rfl _, .rfl _, .rfl _, .rfl _, .rfl _, .rfl _, .rfl _, .any _, .any _, .rfl _, .any _, .any _, .any _, .any _, True.intro⟩, o11.mu⟩, x11⟩
  · rw [List.length_map, List.take_length] at j
    subst j
    obtain ⟨g1, g2, g3, g4⟩ := sh_fold d node names1 Vw
    have ni1 := ni.1
    have ni2 := ni.2
    have nk1 := nk.nl
    generalize hV1 : names1.foldl (shF d node) Vw = V1 at x6 hpf g1 g2 g3 g4
    dsimp only []
    -- the ranges
    have evc2 := evc s1'
    have hl2 := choose_len s1' (plainN cols)
    have hnm2 : ∀ x ∈ (chooseF s1' (plainN cols)).2, x.length ≤ 8 := fun x hx => hpn x ((choose_sub s1' (plainN cols)).subset hx)
    generalize hc2 : chooseF s1' (plainN cols) = c2 at evc2 hl2 hpf hnm2
    obtain ⟨s2', names2⟩ := c2
    dsimp only at evc2 hl2 hpf hnm2
    refine st_seq (t := tFor _ _ _) ?_
    refine st_forX (α := Fd × WV) (PS := [p, n, sh, rg, pr]) (P := [p]) (cs1 := [fdD s2']) pPS (Stp.refl [p, n, sh, rg, pr] B6 H6) o6 (wd_lst evc2.ev)
      (fun i z => z = (names2.take i).foldl (rgF d node) (s2', V1)) (fun _ _ => [.val (.ref p), .dat (encTs T), .val (.ref pd), .val (.ref pr), .dat (.int (node : Nat)), .dat (.int (d : Nat)), .dat (.str Vw.nodes[node].2), .dat (.str (ahead d)), .dat (.lst (cols.map encC)), .any, .any, .dat (.lst ((plainN cols).map D.str)), .any, .any, .any, .any]) (fun _ z => [fdD z.1]) (fun _ z B H => WObj K B H pd n sh rg pr z.2) (s2', V1)
      rfl ⟨.rfl _, .rfl _, .rfl _, .rfl _, .rfl _, .rfl _, .rfl _, .rfl _, .rfl _, .any _, .any _, .rfl _, .any _, .any _, .any _, .any _, True.intro⟩ rfl (fun B7 H7 s7 => wst x6 s7) (fun i z B H B' H' x s => x.step0 s) (fun B7 H7 s7 i d' z hd' j => ?_) (fun z B8 σ8 H8 j s68 o8 x8 => ?_)
    · obtain ⟨x, hx, rfl⟩ := map_get hd'
      subst j
      have hxl : x.length ≤ 8 := hnm2 x (List.mem_of_getElem? hx)
      have hnext : rgF d node ((names2.take i).foldl (rgF d node) (s2', V1)) x = (names2.take (i + 1)).foldl (rgF d node) (s2', V1) := by
        rw [List.take_add_one, hx, List.foldl_append]; rfl
      obtain ⟨f1, f2, f3, f4⟩ := rg_fold d node (names2.take i) (s2', V1) (by dsimp only; rw [g2]; exact nk.rl)
      have hil : i < names2.length := (List.getElem?_eq_some_iff.mp hx).1
      rw [List.length_take, Nat.min_eq_left (by omega)] at f4
      generalize (names2.take i).foldl (rgF d node) (s2', V1) = z at hnext f1 f2 f3 f4
      obtain ⟨zs, zV⟩ := z
      dsimp only at f1 f2 f3 f4
      refine ⟨_, _, g_name (i := 9), fun B9 σ9 H9 s79 o9 x9 => ?_⟩
      have o9 : Okk K [p] [.val (.ref p), .dat (encTs T), .val (.ref pd), .val (.ref pr), .dat (.int (node : Nat)), .dat (.int (d : Nat)), .dat (.str Vw.nodes[node].2), .dat (.str (ahead d)), .dat (.lst (cols.map encC)), .dat (.str x), .any, .dat (.lst ((plainN cols).map D.str)), .any, .any, .any, .any] [fdD zs] B9 H9 σ9 := o9
      have x9 : WObj K B9 H9 pd n sh rg pr zV := x9
      obtain ⟨u2, k2, e2⟩ := o9.sl.get 2 (.val (.ref pd)) rfl (by intro z; cases z)
      cases (show u2 = .ref pd from e2)
      obtain ⟨u3, k3, e3⟩ := o9.sl.get 3 (.val (.ref pr)) rfl (by intro z; cases z)
      cases (show u3 = .ref pr from e3)
      refine ⟨.ref pd, k2, pd, .ref rg, rfl, x9.getR, ?_⟩
      refine tnil_go ?_
      refine len_cell x9.rl ?_
      rw [List.length_map]
      refine ⟨_, _, rfl, rfl, decide ((zV.ranges.length : Int) < 4), rfl, ?_⟩
      by_cases hlt : zV.ranges.length < 4
      · refine ifTv (by rw [decide_eq_true]; omega) ?_
        have hrg : rgF d node (zs, zV) x = (fdT (fdT zs 7) 7, { zV with ranges := zV.ranges ++ [(node, x, endO zs, endO (fdT zs 7))], rows := zV.rows ++ [ahead d ++ "range " ++ x ++ " " ++ Txt.join " " [endW (endO zs), endW (endO (fdT zs 7))]] }) := by
          unfold rgF
          rw [if_pos hlt]
        -- low, high
        refine st_seq ?_
        refine (ea_cons (ev_call1 (j := 0) (cs1 := [fdD zs]) (ds := fdD zs) (ds' := fdD (fdT zs 7)) (ea_cons (r := .val (.ref p)) (ev_var (i := 0) rfl) ea_nil) rfl rfl ⟨p, zs, rfl, rfl, rfl, rfl, rfl⟩) (ea_cons (ev_call1 (j := 0) (cs1 := [fdD (fdT zs 7)]) (ds := fdD (fdT zs 7)) (ds' := fdD (fdT (fdT zs 7) 7)) (ea_cons (r := .val (.ref p)) (ev_var (i := 0) rfl) ea_nil) rfl rfl ⟨p, fdT zs 7, rfl, rfl, rfl, rfl, rfl⟩) ea_nil) : EvA K [p] _ [fdD zs] _ [.dat (optI (endO zs)), .dat (optI (endO (fdT zs 7)))] [fdD (fdT (fdT zs 7) 7)]) B9 H9 σ9 o9 _ fun vs B10 H10 s10 o10 r10 => ?_
        have hlo := end_ok zs
        have hhi := end_ok (fdT zs 7)
        generalize endO zs = lo at r10 hrg hlo
        generalize endO (fdT zs 7) = hi at r10 hrg hhi
        generalize fdT (fdT zs 7) 7 = zs' at o10 hrg
        obtain ⟨v1, v2, rfl, r101, r102⟩ := rs2 r10
        refine ⟨v1, v2, rfl, ?_⟩
        have o10 := setv (i := 13) (setv (i := 12) o10 r101) r102
        have x10 := wst x9 s10
        dsimp only []
        have o10 : Okk K [p] [.val (.ref p), .dat (encTs T), .val (.ref pd), .val (.ref pr), .dat (.int (node : Nat)), .dat (.int (d : Nat)), .dat (.str Vw.nodes[node].2), .dat (.str (ahead d)), .dat (.lst (cols.map encC)), .dat (.str x), .any, .dat (.lst ((plainN cols).map D.str)), .dat (optI lo), .dat (optI hi), .any, .any] [fdD zs'] B10 H10 ((σ9.set 12 (some v1)).set 13 (some v2)) := o10
        have k2' : ((σ9.set 12 (some v1)).set 13 (some v2))[2]? = some (some (.ref pd)) := by rw [List.getElem?_set_ne (by decide), List.getElem?_set_ne (by decide)]; exact k2
        have k3' : ((σ9.set 12 (some v1)).set 13 (some v2))[3]? = some (some (.ref pr)) := by rw [List.getElem?_set_ne (by decide), List.getElem?_set_ne (by decide)]; exact k3
        generalize (σ9.set 12 (some v1)).set 13 (some v2) = σ10 at o10 k2' k3'
        -- view["ranges"].append(..)
        refine st_seq ?_
        refine ⟨.ref pd, k2', pd, .ref rg, rfl, x10.getR, ?_⟩
        refine app_cellE x10.rl o10 (Ne.symm hp4) (by rw [List.length_map]; omega) (ev_tup (ds := [.int (node : Nat), .str x, optI lo, optI hi]) (ea_cons (ev_var (i := 4) rfl) (ea_cons (ev_var (i := 9) rfl) (ea_cons (ev_var (i := 12) rfl) (ea_cons (ev_var (i := 13) rfl) ea_nil)))) (by simp)) fun B11 H11 H12 s11 s12 o12 l12 far => ?_
        have x12 := (wst x10 s11).addR (q := (node, x, lo, hi)) l12 far
        dsimp only []
        -- some
        refine st_seq ?_
        refine (EvF.ev (ef_mapE (l := [lo, hi]) (enc := optI) (wd_tup (ev_tup (ds := [optI lo, optI hi]) (ea_cons (ev_var (i := 12) rfl) (ea_cons (ev_var (i := 13) rfl) ea_nil)) (by simp))) (fun o => .str (endW o)) (by simp) (fun p' i' o acc ho => ⟨_, _, g_name (i := 15), by decide, ?_⟩)) : Ev K [p] _ [fdD zs'] (tLc (iTup K (tTup (tCons (tVar 12) (tCons (tVar 13) tNil)))) (gName 15) tYes (tIf (tTest (tOp rIsN (tVar 15) (tC .non))) (tC (.str "-")) (tCB rStrI (tCons (tVar 15) tNil))) [15]) (.dat (.lst ([endW lo, endW hi].map D.str))) [fdD zs']) B11 H12 σ10 o12 _ fun v3 B13 H13 s13 o13 r13 => ?_
        · have hoo : ∀ i, o = some i → 0 ≤ i ∧ i ≤ 3 := fun i hi' => by
            have hm := List.mem_of_getElem? ho
            rw [hi'] at hm
            rcases List.mem_cons.mp hm with h | h
            · exact hlo i h.symm
            · exact hhi i (List.mem_singleton.mp h).symm
          cases o with
          | none => exact ev_if (b := true) (et_test (ev_op (ev_var (i := 15) (r := .dat .non) rfl) ev_non od_isN)) (fun _ => ev_str) (fun z => by cases z)
          | some i => exact ev_if (b := false) (et_test (ev_op (ev_var (i := 15) (r := .dat (.int i)) rfl) ev_non od_isN)) (fun z => by cases z) (fun _ => ev_cb (ea_cons (ev_var (i := 15) (r := .dat (.int i)) rfl) ea_nil) (cb_strI (log_small (hoo i rfl))))
        have o13 := setv (i := 14) o13 r13
        have x13 := wst x12 s13
        refine g_go ?_
        dsimp only []
        have o13 : Okk K [p] [.val (.ref p), .dat (encTs T), .val (.ref pd), .val (.ref pr), .dat (.int (node : Nat)), .dat (.int (d : Nat)), .dat (.str Vw.nodes[node].2), .dat (.str (ahead d)), .dat (.lst (cols.map encC)), .dat (.str x), .any, .dat (.lst ((plainN cols).map D.str)), .dat (optI lo), .dat (optI hi), .dat (.lst ([endW lo, endW hi].map D.str)), .any] [fdD zs'] B13 H13 (σ10.set 14 (some v3)) := o13
        have k3'' : (σ10.set 14 (some v3))[3]? = some (some (.ref pr)) := by rw [List.getElem?_set_ne (by decide)]; exact k3'
        generalize σ10.set 14 (some v3) = σ13 at o13 k3''
        have hj := join_two lo hi hlo hhi
        -- rows.append(..)
        refine ⟨.ref pr, k3'', ?_⟩
        refine app_cellE (d := .str (ahead d ++ "range " ++ x ++ " " ++ Txt.join " " [endW lo, endW hi])) x13.ro o13 (Ne.symm hp5) (by rw [List.length_map]; show zV.rows.length ≤ _; omega) (ev_op (ev_op (ev_op (ev_op (ev_var (i := 7) rfl) ev_str (od_addS (by rw [ahead_len, show ("range " : Str).length = 6 by decide +kernel]; omega))) (ev_var (i := 9) rfl) (od_addS (by rw [len_app, ahead_len, show ("range " : Str).length = 6 by decide +kernel]; omega))) ev_str (od_addS (by rw [len_app, len_app, ahead_len, show ("range " : Str).length = 6 by decide +kernel, show (" " : Str).length = 1 by decide +kernel]; omega))) (ev_join (a := " ") ev_str (ev_var (i := 14) rfl) hj.1) (od_addS (by rw [len_app, len_app, len_app, ahead_len, show ("range " : Str).length = 6 by decide +kernel, show (" " : Str).length = 1 by decide +kernel]; have := hj.2; omega))) fun B14 H14 H15 s14 s15 o15 l15 far2 => ?_
        have x15 := (wst x13 s14).addO (x := ahead d ++ "range " ++ x ++ " " ++ Txt.join " " [endW lo, endW hi]) l15 far2
        refine ⟨rgF d node (zs, zV) x, hnext, B14, s79.trans ((s10.mono pPS).trans ((s11.mono pPS).trans ((s12.mono (by simp)).trans ((s13.mono pPS).trans ((s14.mono pPS).trans (s15.mono (by simp))))))), ?_, ?_⟩
        · rw [hrg]; exact ⟨o15.ex, o15.sl.le ⟨.rfl _, .rfl _, .rfl _, .rfl _, .rfl _, .rfl _, .rfl _, .rfl _, .rfl _, .any _, .any _, .rfl _, .any _, .any _, .any _, .any _, True.intro⟩, o15.mu⟩
        · rw [hrg]; exact x15
      · refine ifFv (by rw [decide_eq_false]; omega) (st_next ?_)
        have hrg : rgF d node (zs, zV) x = (zs, zV) := by
          unfold rgF
          rw [if_neg hlt]
        refine ⟨rgF d node (zs, zV) x, hnext, B9, s79, ?_, ?_⟩
        · rw [hrg]; exact ⟨o9.ex, o9.sl.le ⟨.rfl _, .rfl _, .rfl _, .rfl _, .rfl _, .rfl _, .rfl _, .rfl _, .rfl _, .any _, .any _, .rfl _, .any _, .any _, .any _, .any _, True.intro⟩, o9.mu⟩
        · rw [hrg]; exact x9
    · rw [List.length_map, List.take_length, ← hpf] at j
      rw [← hcols] at j
      have hz : z.2.nodes = Vw.nodes ∧ NOk T z.2 ∧ NOut z.2 := by
        rw [j]
        rw [hcols]
        exact ⟨hpn1, hpn2, hpn3⟩
      rw [hcols] at j
      have hfin : nodeF T (jj + 1) s Vw node d = cols.foldl (foF (nodeF T jj) d node) z := by
        rw [j]
        show (colsW T Vw node).foldl (foF (nodeF T jj) d node) (partsF s Vw (colsW T Vw node) node d) = _
        rw [hcols]
      clear j
      obtain ⟨hz1, hz2, hz3⟩ := hz
      dsimp only []
      have hrec : ∀ s V n' d', NOk T V → NIn V → n' < V.nodes.length → Vw.nodes.length + 1 ≤ V.nodes.length → NOk T (nodeF T jj s V n' d').2 ∧ NOut (nodeF T jj s V n' d').2 ∧ Grow V (nodeF T jj s V n' d').2 := fun s V n' d' a b c e => node_ok hT hX jj s V n' d' a b c (by omega)
      refine st_forX (α := Fd × WV) (PS := [p, n, sh, rg, pr]) (P := [p]) (cs1 := [fdD z.1]) pPS (Stp.refl [p, n, sh, rg, pr] B8 H8) o8 (wd_lst (ev_var (i := 8) rfl))
        (fun i y => y = (cols.take i).foldl (foF (nodeF T jj) d node) z) (fun _ _ => [.val (.ref p), .dat (encTs T), .val (.ref pd), .val (.ref pr), .dat (.int (node : Nat)), .dat (.int (d : Nat)), .dat (.str Vw.nodes[node].2), .dat (.str (ahead d)), .dat (.lst (cols.map encC)), .any, .any, .dat (.lst ((plainN cols).map D.str)), .any, .any, .any, .any]) (fun _ y => [fdD y.1]) (fun _ y B H => WObj K B H pd n sh rg pr y.2) z
        rfl ⟨.rfl _, .rfl _, .rfl _, .rfl _, .rfl _, .rfl _, .rfl _, .rfl _, .rfl _, .any _, .any _, .rfl _, .any _, .any _, .any _, .any _, True.intro⟩ rfl (fun B9 H9 s9 => wst x8 s9) (fun i y B H B' H' x s => x.step0 s) (fun B9 H9 s9 i d' y hd' j => ?_) (fun y B10 σ10 H10 j s810 o10 x10 => ?_)
      · obtain ⟨c, hc, rfl⟩ := map_get hd'
        subst j
        have hcm2 := List.mem_of_getElem? hc
        have hnext : foF (nodeF T jj) d node ((cols.take i).foldl (foF (nodeF T jj) d node) z) c = (cols.take (i + 1)).foldl (foF (nodeF T jj) d node) z := by
          rw [List.take_add_one, hc, List.foldl_append]; rfl
        obtain ⟨y1, y2, y3⟩ := fo_fold (T := T) (d := d) (node := node) hrec (cols := cols.take i) (fun x hx t ht => hX _ hcm x (List.mem_of_mem_take hx) t ht) (z := z) hz2 hz3 (by rw [hz1]; exact Nat.le_refl _)
        have hyl := y3.len
        rw [hz1] at hyl
        generalize (cols.take i).foldl (foF (nodeF T jj) d node) z = y at hnext y1 y2 hyl
        clear y3
        obtain ⟨ys, yV⟩ := y
        dsimp only at y1 y2 hyl
        obtain ⟨cn, ct⟩ := c
        have hcl : cn.length ≤ 8 := hwn (cn, ct) hcm2
        cases ct with
        | none =>
          refine ⟨_, _, (g_tup (g_cons (g_name (i := 9)) (g_cons (g_name (i := 10)) g_nil)) : GR K _ _ (.tup [.str cn, .non]) _ _), fun B11 σ11 H11 s911 o11 x11 => ?_⟩
          refine (et_test (ev_op (ev_var (i := 10) rfl) ev_non od_notN) : EvT K [p] _ [fdD ys] _ false [fdD ys]) B11 H11 σ11 o11 _ fun B12 H12 s12 o12 => ?_
          refine ifFv rfl ?_
          refine ifFv rfl (st_next ?_)
          refine ⟨foF (nodeF T jj) d node (ys, yV) (cn, none), hnext, B12, s911.trans (s12.mono pPS), ⟨o12.ex, o12.sl.le ⟨.rfl _, .rfl _, .rfl _, .rfl _, .rfl _, .rfl _, .rfl _, .rfl _, .rfl _, .any _, .any _, .rfl _, .any _, .any _, .any _, .any _, True.intro⟩, o12.mu⟩, wst x11 s12⟩
        | some t =>
          refine ⟨_, _, (g_tup (g_cons (g_name (i := 9)) (g_cons (g_name (i := 10)) g_nil)) : GR K _ _ (.tup [.str cn, .str t]) _ _), fun B11 σ11 H11 s911 o11 x11 => ?_⟩
          have o11 : Okk K [p] [.val (.ref p), .dat (encTs T), .val (.ref pd), .val (.ref pr), .dat (.int (node : Nat)), .dat (.int (d : Nat)), .dat (.str Vw.nodes[node].2), .dat (.str (ahead d)), .dat (.lst (cols.map encC)), .dat (.str cn), .dat (.str t), .dat (.lst ((plainN cols).map D.str)), .any, .any, .any, .any] [fdD ys] B11 H11 σ11 := o11
          have x11 : WObj K B11 H11 pd n sh rg pr yV := x11
          obtain ⟨u2, k2, e2⟩ := o11.sl.get 2 (.val (.ref pd)) rfl (by intro z; cases z)
          cases (show u2 = .ref pd from e2)
          obtain ⟨u3, k3, e3⟩ := o11.sl.get 3 (.val (.ref pr)) rfl (by intro z; cases z)
          cases (show u3 = .ref pr from e3)
          obtain ⟨u0, k0, e0⟩ := o11.sl.get 0 (.val (.ref p)) rfl (by intro z; cases z)
          cases (show u0 = .ref p from e0)
          refine (et_test (ev_op (ev_var (i := 10) rfl) ev_non od_notN) : EvT K [p] _ [fdD ys] _ true [fdD ys]) B11 H11 σ11 o11 _ fun B12 H12 s12 o12 => ?_
          have x12 := wst x11 s12
          refine ifTv rfl ?_
          refine ⟨.ref pd, k2, pd, .ref n, rfl, x12.getN, ?_⟩
          refine tnil_go ?_
          refine len_cell x12.nl ?_
          rw [List.length_map]
          refine ⟨_, _, rfl, rfl, decide ((yV.nodes.length : Int) < 4), rfl, ?_⟩
          by_cases hlt : yV.nodes.length < 4
          · refine ifTv (by rw [decide_eq_true]; omega) ?_
            refine (et_test (ev_op (ev_call1 (j := 0) (cs1 := [fdD ys]) (ds := fdD ys) (ds' := fdD (fdT ys 4)) (ea_cons (r := .val (.ref p)) (ev_var (i := 0) rfl) (ea_cons ev_int ea_nil)) rfl rfl ⟨p, ys, 4, rfl, rfl, rfl, by decide, by decide, rfl, rfl⟩) ev_int (od_I0 fun _ => .bl _)) : EvT K [p] _ [fdD ys] _ (decide ((0 : Int) < ((fdI ys 4 : Nat) : Int))) [fdD (fdT ys 4)]) B12 H12 σ11 o12 _ fun B13 H13 s13 o13 => ?_
            have x13 := wst x12 s13
            by_cases hb : 0 < fdI ys 4
            · refine ifTv (by rw [decide_eq_true]; omega) ?_
              have hfo : foF (nodeF T jj) d node (ys, yV) (cn, some t) = nodeF T jj (fdT ys 4) { yV with nodes := yV.nodes ++ [(some (node, cn), t)], rows := yV.rows ++ [ahead d ++ "follow " ++ cn] } yV.nodes.length (d + 1) := by
                unfold foF
                dsimp only
                rw [if_pos hlt, if_pos hb]
              have htT : t ∈ T.map (·.1) := hX _ hcm (cn, some t) hcm2 t rfl
              generalize fdT ys 4 = ys' at o13 hfo
              -- view["nodes"].append(..)
              refine st_seq ?_
              refine ⟨.ref pd, k2, pd, .ref n, rfl, x13.getN, ?_⟩
              refine app_cellE x13.nl o13 (Ne.symm hp2) (by rw [List.length_map]; omega) (ev_tup (ds := [.int (node : Nat), .str cn, .str t]) (ea_cons (ev_var (i := 4) rfl) (ea_cons (ev_var (i := 9) rfl) (ea_cons (ev_var (i := 10) rfl) ea_nil))) (by simp)) fun B14 H14 H15 s14 s15 o15 l15 far => ?_
              have x15 := (wst x13 s14).addN (q := (some (node, cn), t)) l15 far
              dsimp only []
              -- rows.append(..)
              refine st_seq ?_
              refine ⟨.ref pr, k3, ?_⟩
              refine app_cellE (d := .str (ahead d ++ "follow " ++ cn)) x15.ro o15 (Ne.symm hp5) (by rw [List.length_map]; show yV.rows.length ≤ _; have := y2.2; omega) (ev_op (ev_op (ev_var (i := 7) rfl) ev_str (od_addS (by rw [ahead_len, show ("follow " : Str).length = 7 by decide +kernel]; omega))) (ev_var (i := 9) rfl) (od_addS (by rw [len_app, ahead_len, show ("follow " : Str).length = 7 by decide +kernel]; omega))) fun B16 H16 H17 s16 s17 o17 l17 far2 => ?_
              have x17 := (wst x15 s16).addO (x := ahead d ++ "follow " ++ cn) l17 far2
              dsimp only []
              -- the child
              obtain ⟨u1, k1, r1⟩ := o17.sl.get 1 (.dat (encTs T)) rfl (by intro z; cases z)
              have r1 : Rp K B16 u1 (encTs T) := r1
              obtain ⟨u5, k5, r5⟩ := o17.sl.get 5 (.dat (.int (d : Nat))) rfl (by intro z; cases z)
              cases (show Rp K B16 u5 (.int (d : Nat)) from r5)
              have hln : (yV.nodes ++ [((some (node, cn), t) : NodeM)]).length = yV.nodes.length + 1 := by rw [List.length_append, List.length_singleton]
              refine ⟨.ref p, k0, u1, k1, .ref pd, k2, .ref pr, k3, .ref pd, k2, pd, .ref n, rfl, x17.getN, ?_⟩
              refine tnil_go ?_
              refine len_cell x17.nl ?_
              refine ⟨_, _, rfl, rfl, ?_⟩
              refine ⟨.int (d : Nat), k5, ?_⟩
              refine .inl ⟨_, _, rfl, rfl, ?_⟩
              refine tnil_go ?_
              refine ⟨B16, p, ys', pd, n, sh, rg, pr, _, T, u1, yV.nodes.length, d + 1, ?_, o17.ex, o17.mu, r1, x17, ?_, hT, hX, ⟨?_, y1.rl, fun q hq => ?_⟩, ⟨?_, ?_⟩, ?_, ?_, by omega, fun B18 H18 s18 e18 mu18 x18 => ?_⟩
              · show [V.ref p, u1, .ref pd, .ref pr, .int ((((yV.nodes ++ [((some (node, cn), t) : NodeM)]).map nodeD).length : Int) - 1), .int ((d : Int) + 1)] ++ [] = _
                rw [List.length_map, hln, List.append_nil, show (((yV.nodes.length + 1 : Nat) : Int) - 1) = ((yV.nodes.length : Nat) : Int) by omega]
                rfl
              · simp only [List.mem_cons, List.not_mem_nil, or_false, not_or]
                exact ⟨hp1, hp2, hp3, hp4, hp5⟩
              · show (yV.nodes ++ [_]).length ≤ 4; rw [hln]; omega
              · rcases List.mem_append.mp (show q ∈ yV.nodes ++ [((some (node, cn), t) : NodeM)] from hq) with h | h
                · exact y1.tab q h
                · rw [List.mem_singleton.mp h]; exact htT
              · show yV.shown.length + 4 ≤ 4 * (yV.nodes ++ [_]).length; rw [hln]; have := y2.1; omega
              · show (yV.rows ++ [_]).length + 9 ≤ 10 * (yV.nodes ++ [_]).length; rw [hln, List.length_append, List.length_singleton]; have := y2.2; omega
              · show yV.nodes.length < (yV.nodes ++ [_]).length; rw [hln]; omega
              · show 5 ≤ (yV.nodes ++ [_]).length + jj; rw [hln]; omega
              refine ⟨foF (nodeF T jj) d node (ys, yV) (cn, some t), hnext, B18, s911.trans ((s12.mono pPS).trans ((s13.mono pPS).trans ((s14.mono pPS).trans ((s15.mono (by simp)).trans ((s16.mono pPS).trans ((s17.mono (by simp)).trans s18)))))), ?_, ?_⟩
              · rw [hfo]; exact ⟨e18, (o17.sl.mono s18.ex).le ⟨.rfl _, .rfl _, .rfl _, .rfl _, .rfl _, .rfl _, .rfl _, .rfl _, .rfl _, .any _, .any _, .rfl _, .any _, .any _, .any _, .any _, True.intro⟩, mu18⟩
              · rw [hfo]; exact x18
            · refine ifFv (by rw [decide_eq_false]; omega) (st_next ?_)
              have hfo : foF (nodeF T jj) d node (ys, yV) (cn, some t) = (fdT ys 4, yV) := by
                unfold foF
                dsimp only
                rw [if_pos hlt, if_neg hb]
              refine ⟨foF (nodeF T jj) d node (ys, yV) (cn, some t), hnext, B13, s911.trans ((s12.mono pPS).trans (s13.mono pPS)), ?_, ?_⟩
              · rw [hfo]; exact ⟨o13.ex, o13.sl.le ⟨.rfl _, .rfl _, .rfl _, .rfl _, .rfl _, .rfl _, .rfl _, .rfl _, .rfl _, .any _, .any _, .rfl _, .any _, .any _, .any _, .any _, True.intro⟩, o13.mu⟩
              · rw [hfo]; exact x13
          · refine ifFv (by rw [decide_eq_false]; omega) ?_
            refine ifFv rfl (st_next ?_)
            have hfo : foF (nodeF T jj) d node (ys, yV) (cn, some t) = (ys, yV) := by
              unfold foF
              dsimp only
              rw [if_neg hlt]
            refine ⟨foF (nodeF T jj) d node (ys, yV) (cn, some t), hnext, B12, s911.trans (s12.mono pPS), ?_, ?_⟩
            · rw [hfo]; exact ⟨o12.ex, o12.sl.le ⟨.rfl _, .rfl _, .rfl _, .rfl _, .rfl _, .rfl _, .rfl _, .rfl _, .rfl _, .any _, .any _, .rfl _, .any _, .any _, .any _, .any _, True.intro⟩, o12.mu⟩
            · rw [hfo]; exact x12
      · rw [List.length_map, List.take_length, ← hfin] at j
        subst j
        exact q B10 H10 ((s04.mono pPS).trans (s46.trans (s68.trans s810))) o10.ex o10.mu x10
end
end T3
/-! W1c: the rows of a drawn view, as words. -/
namespace SP
open PySem L2 PM
def spN (n : Nat) : Str := ⟨(List.replicate n 32).toArray⟩
theorem spN_list (n : Nat) : (spN n).cps.toList = List.replicate n 32 := by simp [spN]
theorem ahead_sp (d : Nat) : ahead d = spN (2 * d) := lst_eq (by rw [ahead_list, spN_list])
theorem sp_list : (sp : Str).cps.toList = [32] := by decide +kernel
theorem emp_list : ("" : Str).cps.toList = [] := by decide +kernel
theorem join_sp : ∀ (n : Nat) (w : Str) (r : List Str), rowOf (List.replicate n ("" : Str) ++ w :: r) = spN n ++ rowOf (w :: r)
  | 0, w, r => lst_eq (by rw [app_list, spN_list]; rfl)
  | n + 1, w, r => by
    have ih := join_sp n w r
    rw [List.replicate_succ, List.cons_append]
    cases e : List.replicate n ("" : Str) ++ w :: r with
    | nil => simp at e
    | cons y t =>
      rw [e] at ih
      show Txt.join sp ("" :: y :: t) = _
      rw [join_cons, show Txt.join sp (y :: t) = rowOf (y :: t) from rfl, ih]
      apply lst_eq
      simp only [app_list, spN_list, sp_list, emp_list, List.replicate_succ, List.nil_append, List.cons_append]
def indW (d : Nat) (ws : List Str) : List Str := List.replicate (2 * d) ("" : Str) ++ ws
theorem ind_row (d : Nat) (w : Str) (r : List Str) : rowOf (indW d (w :: r)) = ahead d ++ rowOf (w :: r) := by
  unfold indW
  rw [join_sp, ahead_sp]
theorem app_as (a b c : Str) : a ++ b ++ c = a ++ (b ++ c) := lst_eq (by simp only [app_list, List.append_assoc])
theorem row_sh (d : Nat) (x : Str) : ahead d ++ "shown " ++ x = rowOf (indW d ["shown", x]) := by
  rw [ind_row]
  show _ = ahead d ++ Txt.join sp ["shown", x]
  rw [join_cons, join_one, show ("shown " : Str) = "shown" ++ sp by decide +kernel, app_as]
theorem row_fo (d : Nat) (x : Str) : ahead d ++ "follow " ++ x = rowOf (indW d ["follow", x]) := by
  rw [ind_row]
  show _ = ahead d ++ Txt.join sp ["follow", x]
  rw [join_cons, join_one, show ("follow " : Str) = "follow" ++ sp by decide +kernel, app_as]
theorem row_rg (d : Nat) (x a b : Str) : ahead d ++ "range " ++ x ++ " " ++ Txt.join " " [a, b] = rowOf (indW d ["range", x, a, b]) := by
  rw [ind_row]
  show _ = ahead d ++ Txt.join sp ["range", x, a, b]
  rw [show Txt.join " " [a, b] = Txt.join sp [a, b] from rfl, join_cons sp "range" x, join_cons sp x a, show ("range " : Str) = "range" ++ sp by decide +kernel]
  simp only [app_as]
theorem row_vw (x : Str) : ("view " : Str) ++ x = rowOf ["view", x] := by
  show _ = Txt.join sp ["view", x]
  rw [join_cons, join_one, show ("view " : Str) = "view" ++ sp by decide +kernel]
theorem free_emp (k : Nat) : free k "" := by unfold free; rw [emp_list]; simp
theorem ind_free {k d : Nat} {ws : List Str} (h : ∀ w ∈ ws, free k w) : ∀ w ∈ indW d ws, free k w := fun w hw => by
  rcases List.mem_append.mp hw with h1 | h1
  · rw [List.eq_of_mem_replicate h1]; exact free_emp k
  · exact h w h1
theorem ind_split {d : Nat} {w : Str} {r : List Str} (h : ∀ x ∈ w :: r, free 32 x) : Txt.split (rowOf (indW d (w :: r))) " " = indW d (w :: r) := split_row (by unfold indW; simp) (ind_free h)
theorem ind_drop {d : Nat} {ws : List Str} : (indW d ws).drop (2 * d) = ws := by
  unfold indW
  rw [List.drop_append_of_le_length (by simp)]
  simp
theorem tw_sp (c : Nat) (t : List Nat) (h : c ≠ 32) : ∀ n, List.takeWhile (fun x => (" " : Str).cps.contains x) (List.replicate n 32 ++ c :: t) = List.replicate n 32
  | 0 => by
    rw [List.replicate_zero, List.nil_append, List.takeWhile_cons]
    have : (" " : Str).cps.contains c = false := by
      rw [show (" " : Str).cps = #[32] by decide +kernel]
      simp [Ne.symm h, h]
    rw [this]; rfl
  | n + 1 => by
    rw [List.replicate_succ, List.cons_append, List.takeWhile_cons]
    have : (" " : Str).cps.contains 32 = true := by decide +kernel
    rw [this, tw_sp c t h n]; rfl
theorem lstrip_len {x : Str} {n c : Nat} {t : List Nat} (h : x.cps.toList = List.replicate n 32 ++ c :: t) (hc : c ≠ 32) : (Txt.lstripChars x " ").length = x.length - n := by
  have h1 : Txt.lstripChars x " " = PySem.stripped (fun y => (" " : Str).cps.contains y) true false x := W.stripBy_eq x _ true false
  rw [h1]
  have hlo : stripLo (fun y => (" " : Str).cps.contains y) true x = n := by
    unfold stripLo
    rw [if_pos rfl, h, tw_sp c t hc, List.length_replicate]
  unfold PySem.stripped
  rw [hlo]
  have hhi : stripHi (fun y => (" " : Str).cps.contains y) false x n = x.length := by
    unfold stripHi
    rw [if_neg (by decide)]
  rw [hhi]
  show (x.cps.extract n x.length).size = _
  rw [Array.size_extract]
  show min x.cps.size x.cps.size - n = x.cps.size - n
  omega
theorem row_head {w : Str} {r : List Str} {c : Nat} {t : List Nat} (h : w.cps.toList = c :: t) : ∃ t', (rowOf (w :: r)).cps.toList = c :: t' := by
  cases r with
  | nil => exact ⟨t, h⟩
  | cons y r =>
    refine ⟨t ++ (sp.cps.toList ++ (Txt.join sp (y :: r)).cps.toList), ?_⟩
    show (Txt.join sp (w :: y :: r)).cps.toList = _
    rw [join_cons]
    simp only [app_list, h, List.cons_append, List.append_assoc]
theorem indent_row {d : Nat} {w : Str} {r : List Str} {c : Nat} {t : List Nat} (h : w.cps.toList = c :: t) (hc : c ≠ 32) : (rowOf (indW d (w :: r))).length - (Txt.lstripChars (rowOf (indW d (w :: r))) " ").length = 2 * d := by
  obtain ⟨t', e⟩ := row_head (r := r) h
  have hl : (rowOf (indW d (w :: r))).cps.toList = List.replicate (2 * d) 32 ++ c :: t' := by
    rw [ind_row, app_list, ahead_list, e]
  rw [lstrip_len hl hc]
  have : (rowOf (indW d (w :: r))).length = 2 * d + (t'.length + 1) := by
    show (rowOf (indW d (w :: r))).cps.size = _
    rw [← Array.length_toList, hl]
    simp
  omega
theorem fine_bad {w : Str} (h : fineB w = true) : goodD w = false := by
  have hs := fine_sign h
  have hst : Txt.startswith w "-" = false := by
    cases e : Txt.startswith w "-" with
    | false => rfl
    | true =>
      exfalso
      unfold Txt.startswith at e
      rw [Bool.and_eq_true] at e
      have e2 := e.2
      unfold Builtin.Str.subAt at e2
      have e3 := congrArg Array.toList (eq_of_beq e2)
      rw [show (0 : Nat) + ("-" : Str).length = 1 by decide +kernel, show ("-" : Str).cps.toList = [45] by decide +kernel] at e3
      have hm : 45 ∈ w.cps.toList := by
        have : (w.cps.extract 0 1).toList = w.cps.toList.take 1 := by simp
        rw [this] at e3
        exact List.mem_of_mem_take (by rw [e3]; exact List.mem_singleton_self _)
      have := hs 45 hm
      omega
  have hd : digsOf w = w := by unfold digsOf; rw [hst]; rfl
  unfold goodD
  rw [hd]
  have hdg : Txt.isdigit w = false := by
    unfold Txt.isdigit
    obtain ⟨l1, _⟩ := fine_len h
    cases e : w.cps.toList with
    | nil =>
      have : w.length = 0 := by show w.cps.size = 0; rw [← Array.length_toList, e]; rfl
      omega
    | cons c t =>
      have hc := hs c (by rw [e]; exact List.mem_cons_self)
      have hb : Unicode.isDigit c = false := by
        have := (by decide +kernel : ∀ k < 26, Unicode.isDigit (97 + k) = false) (c - 97) (by omega)
        rw [show 97 + (c - 97) = c by omega] at this
        exact this
      have : w.cps.all Unicode.isDigit = false := by
        rw [← Array.all_toList, e, List.all_cons, hb]; rfl
      rw [this, Bool.and_false]
  rw [hdg]
  simp
theorem okInt_fine {w : Str} (h : fineB w = true) : okInt w := ⟨by have := fine_len h; omega, fun z => by rw [fine_bad h] at z; cases z⟩
theorem okInt_bad {w : Str} (hl : w.length ≤ 600) (h : goodD w = false) : okInt w := ⟨hl, fun z => by rw [h] at z; cases z⟩
theorem endW_ok : ∀ o ∈ ENDSW, isEndF (endW o) = true ∧ readEndF (endW o) = o ∧ free 32 (endW o) ∧ free 10 (endW o) ∧ (endW o).length ≤ 2 := by decide +kernel
theorem endW_int : ∀ o ∈ ENDSW, okInt (endW o) := fun o ho => by
  have h : o = none ∨ o = some 0 ∨ o = some 1 ∨ o = some 2 ∨ o = some 3 := by simpa [ENDSW] using ho
  rcases h with rfl | rfl | rfl | rfl | rfl
  · exact okInt_bad (by decide +kernel) (by decide +kernel)
  · exact ⟨by decide +kernel, fun _ => ⟨0, by decide +kernel, by decide⟩⟩
  · exact ⟨by decide +kernel, fun _ => ⟨1, by decide +kernel, by decide⟩⟩
  · exact ⟨by decide +kernel, fun _ => ⟨2, by decide +kernel, by decide⟩⟩
  · exact ⟨by decide +kernel, fun _ => ⟨3, by decide +kernel, by decide⟩⟩
end SP
/-! W4: the rows of a drawn view are read as its parts. -/
namespace SP
open PySem L2 PM
/-- the rows are read, and the last part of the way is told -/
def PIv (T : List Tab) (V : WV) (W : List (Nat × Nat × Nat)) (level node : Nat) (last : Nat × Nat) : Prop := V.rows ≠ [] ∧ W.length = level ∧ ∃ M, readParts T 0 V.rows PtM0 = some M ∧ M.nodes = V.nodes ∧ M.shown = V.shown ∧ M.ranges = V.ranges ∧ M.way.take level = W ∧ M.way[level]? = some (node, last)
section
variable {T : List Tab} {V : WV} {W : List (Nat × Nat × Nat)} {level node : Nat} {last : Nat × Nat}
theorem colsOf_W {M : PtM} (h : M.nodes = V.nodes) : colsOf T M node = colsW T V node := by unfold colsOf colsW; rw [h]
theorem PIv.back {W' : List (Nat × Nat × Nat)} {node' : Nat} {last' : Nat × Nat} (h : PIv T V W' (level + 1) node' last') (e : W' = W ++ [(node, last)]) (hl : W.length = level) : PIv T V W level node last := by
  obtain ⟨h0, _, M, h1, h2, h3, h4, h5, h6⟩ := h
  rw [e] at h5
  have hlt : level + 1 < M.way.length := (List.getElem?_eq_some_iff.mp h6).1
  refine ⟨h0, hl, M, h1, h2, h3, h4, ?_, ?_⟩
  · have := congrArg (List.take level) h5
    rw [List.take_take, Nat.min_eq_left (by omega), List.take_left' hl] at this
    exact this
  · have : (M.way.take (level + 1))[level]? = (W ++ [(node, last)])[level]? := by rw [h5]
    rw [List.getElem?_take_of_lt (by omega), List.getElem?_append_right (by omega), hl, Nat.sub_self] at this
    exact this
/-- one more row -/
theorem PIv.row {V' : WV} {ws : List Str} {w0 w1 : Str} {rest : List Str} {c : Nat} {t : List Nat} {rank : Nat × Nat} (h : PIv T V W level node last) (hw : ws = w0 :: w1 :: rest) (hf : ∀ w ∈ ws, free 32 w) (h0 : w0.cps.toList = c :: t) (hc : c ≠ 32)
    (hr : ∀ M : PtM, M.nodes = V.nodes → rankF T M node ws = some rank) (hlt : ltRank last rank = true) (hV : V'.rows = V.rows ++ [rowOf (indW (level + 1) ws)])
    (hM : ∀ M : PtM, M.nodes = V.nodes → M.shown = V.shown → M.ranges = V.ranges → ∃ M1, wordsF T node ws M = some M1 ∧ M1.nodes = V'.nodes ∧ M1.shown = V'.shown ∧ M1.ranges = V'.ranges ∧ M1.way = M.way ++ (if w0 = "follow" then [(V.nodes.length, 0, 0)] else [])) :
    PIv T V' W level node rank ∧ (w0 = "follow" → PIv T V' (W ++ [(node, rank)]) (level + 1) V.nodes.length (0, 0)) := by
  obtain ⟨hne, hl, M, h1, h2, h3, h4, h5, h6⟩ := h
  obtain ⟨M1, m1, m2, m3, m4, m5⟩ := hM M h2 h3 h4
  have hlw : level < M.way.length := (List.getElem?_eq_some_iff.mp h6).1
  subst hw
  have htk : takesF T (0 + V.rows.length) (rowOf (indW (level + 1) (w0 :: w1 :: rest))) M = some { M1 with way := M1.way.take level ++ [(node, rank)] ++ (if (w0 :: w1 :: rest).head? = some ("follow" : Str) then M1.way.drop (M1.way.length - 1) else []) } := by
    unfold takesF
    rw [if_neg (by have := List.length_pos_iff.mpr hne; omega)]
    dsimp only
    rw [indent_row h0 hc, ind_split hf, ind_drop, if_pos ⟨by omega, by omega, by omega⟩, show 2 * (level + 1) / 2 - 1 = level by omega]
    unfold partF
    rw [h6]
    dsimp only
    rw [hr M h2]
    dsimp only
    rw [if_pos hlt, m1]
    rfl
  have hrp : readParts T 0 V'.rows PtM0 = some { M1 with way := M1.way.take level ++ [(node, rank)] ++ (if (w0 :: w1 :: rest).head? = some ("follow" : Str) then M1.way.drop (M1.way.length - 1) else []) } := by
    rw [hV, readParts_snoc, h1]
    exact htk
  have htake : M1.way.take level = W := by rw [m5, List.take_append_of_le_length (by omega)]; exact h5
  rw [htake] at hrp
  have hne' : V'.rows ≠ [] := by rw [hV]; simp
  refine ⟨⟨hne', hl, _, hrp, m2, m3, m4, ?_, ?_⟩, fun hfo => ⟨hne', by rw [List.length_append, hl]; rfl, _, hrp, m2, m3, m4, ?_, ?_⟩⟩
  · show (W ++ [(node, rank)] ++ _).take level = W
    rw [List.append_assoc, List.take_left' hl]
  · show (W ++ [(node, rank)] ++ _)[level]? = _
    rw [List.append_assoc, List.getElem?_append_right (by omega), hl, Nat.sub_self]
    rfl
  · show (W ++ [(node, rank)] ++ _).take (level + 1) = _
    rw [List.take_left' (by rw [List.length_append, hl]; rfl)]
  · show (W ++ [(node, rank)] ++ (if (w0 :: w1 :: rest).head? = some ("follow" : Str) then M1.way.drop (M1.way.length - 1) else []))[level + 1]? = _
    rw [if_pos (by rw [List.head?_cons, hfo]), List.getElem?_append_right (by rw [List.length_append, hl]; exact Nat.le_refl _), m5, if_pos hfo]
    rw [show level + 1 - (W ++ [(node, rank)]).length = 0 by rw [List.length_append, hl]; simp, List.length_append, show M.way.length + [(V.nodes.length, 0, 0)].length - 1 = M.way.length by simp, List.drop_left]
    rfl
end
/-! ranks -/
def okLast (kd m : Nat) (last : Nat × Nat) : Prop := last.1 < kd ∨ (last.1 = kd ∧ last.2 ≤ m)
theorem okLast.lt {kd m : Nat} {last : Nat × Nat} (h : okLast kd m last) : ltRank last (kd, 1 + m) = true := by
  unfold ltRank
  rcases h with h | ⟨h1, h2⟩
  · rw [decide_eq_true (by exact h)]; rfl
  · rw [decide_eq_true (show last.1 = (kd, 1 + m).1 from h1), decide_eq_true (show last.2 < (kd, 1 + m).2 by show last.2 < 1 + m; omega)]
    simp
theorem okLast.mono {kd m m' : Nat} {last : Nat × Nat} (h : okLast kd m last) (hm : m ≤ m') : okLast kd m' last := by
  rcases h with h | ⟨h1, h2⟩
  · exact .inl h
  · exact .inr ⟨h1, by omega⟩
theorem firstAt_app {x : Str} : ∀ {a b : List Str}, x ∉ a → firstAt x (a ++ x :: b) = some a.length
  | [], b, _ => by simp [firstAt]
  | y :: a, b, h => by
    have hy : ¬ y = x := fun z => h (by rw [z]; exact List.mem_cons_self)
    have ih := firstAt_app (a := a) (b := b) fun z => h (List.mem_cons_of_mem _ z)
    show firstAt x (y :: (a ++ x :: b)) = _
    unfold firstAt
    rw [if_neg hy, ih]
    rfl
theorem firstAt_nd {x : Str} {a b : List Str} (h : (a ++ x :: b).Nodup) : firstAt x (a ++ x :: b) = some a.length := firstAt_app fun z => by
  have := (List.nodup_append.mp h).2.2 x z x List.mem_cons_self
  exact this rfl
def refN (cols : List Col) : List Str := (cols.filter fun c => c.2.isSome).map (·.1)
theorem names_plain {cols : List Col} {w : Str} (h : ¬ w = "follow") : namesAt cols w = plainN cols := by
  unfold namesAt plainN
  rw [decide_eq_false h]
  congr 1
  apply List.filter_congr
  intro c _
  cases c.2 <;> rfl
theorem names_ref {cols : List Col} : namesAt cols "follow" = refN cols := by
  unfold namesAt refN
  congr 1
  apply List.filter_congr
  intro c _
  cases c.2 <;> rfl
theorem plain_nd {cols : List Col} (h : (cols.map (·.1)).Nodup) : (plainN cols).Nodup := (List.filter_sublist.map _).nodup h
theorem ref_nd {cols : List Col} (h : (cols.map (·.1)).Nodup) : (refN cols).Nodup := (List.filter_sublist.map _).nodup h
def fineT (T : List Tab) : Prop := ∀ t ∈ T, fineB t.1 = true ∧ ∀ c ∈ t.2, fineB c.1 = true
theorem cols_at {T : List Tab} {V : WV} {node : Nat} : colsW T V node = [] ∨ ∃ n, (n, colsW T V node) ∈ T := by
  unfold colsW
  cases e : T.lookup ((V.nodes.getD node (none, Str.empty)).2) with
  | none => exact .inl rfl
  | some cs => exact .inr ⟨(V.nodes.getD node (none, Str.empty)).2, by
      have := List.lookup_eq_some_iff.mp e
      obtain ⟨l1, l2, h, _⟩ := this
      rw [h]; simp⟩
theorem cw_nd {T : List Tab} {V : WV} {node : Nat} (h : colsNd T) : ((colsW T V node).map (·.1)).Nodup := by
  rcases cols_at (T := T) (V := V) (node := node) with e | ⟨n, e⟩
  · rw [e]; exact List.nodup_nil
  · exact (h _ e).1
theorem cw_fine {T : List Tab} {V : WV} {node : Nat} (h : fineT T) : ∀ c ∈ colsW T V node, fineB c.1 = true := by
  rcases cols_at (T := T) (V := V) (node := node) with e | ⟨n, e⟩
  · rw [e]; intro c hc; cases hc
  · exact (h _ e).2
theorem plain_fine {cols : List Col} (h : ∀ c ∈ cols, fineB c.1 = true) : ∀ x ∈ plainN cols, fineB x = true := fun x hx => by
  obtain ⟨c, hc, rfl⟩ := List.mem_map.mp hx
  exact h c (List.mem_filter.mp hc).1
section
variable {T : List Tab} {V : WV} {W : List (Nat × Nat × Nat)} {level node : Nat} {last : Nat × Nat} {cols : List Col}
theorem step_sh {pre suf : List Str} {x : Str} (h : PIv T V W level node last) (hc : colsW T V node = cols) (hn : plainN cols = pre ++ x :: suf) (nd : (plainN cols).Nodup) (hx : fineB x = true) (hl : okLast 0 pre.length last) : PIv T (shF (level + 1) node V x) W level node (0, 1 + pre.length) :=
  (h.row (V' := shF (level + 1) node V x) (ws := ["shown", x]) (w0 := "shown") (w1 := x) (rest := []) (rank := (0, 1 + pre.length)) (c := 115) (t := [104, 111, 119, 110]) rfl
    (fun w hw => by
      rcases List.mem_cons.mp hw with rfl | hw
      · exact (by decide +kernel : free 32 "shown")
      · rw [List.mem_singleton.mp hw]; exact fine_free hx (by decide)) (by decide +kernel) (by decide)
    (fun M hM => by
      unfold rankF
      dsimp only
      rw [show kindOf "shown" = some (0, 2) by decide +kernel]
      dsimp only
      rw [if_pos (show ([] : List Str).length + 2 = 2 from rfl), colsOf_W hM, hc, names_plain (by decide +kernel), hn, firstAt_nd (by rw [← hn]; exact nd)]
      rfl) hl.lt (by show V.rows ++ [_] = _; rw [row_sh])
    (fun M h1 h2 h3 => by
      refine ⟨{ M with shown := M.shown ++ [(node, x)] }, ?_, h1, by show M.shown ++ _ = V.shown ++ _; rw [h2], h3, ?_⟩
      · unfold wordsF
        dsimp only
        rw [if_pos rfl]
      · rw [if_neg (by decide +kernel), List.append_nil])).1
theorem step_rg {pre suf : List Str} {x : Str} {lo hi : Option Int} (h : PIv T V W level node last) (hc : colsW T V node = cols) (hn : plainN cols = pre ++ x :: suf) (nd : (plainN cols).Nodup) (hx : fineB x = true) (hl : okLast 1 pre.length last) (h4 : V.ranges.length < 4) (hlo : lo ∈ ENDSW) (hhi : hi ∈ ENDSW) :
    PIv T { V with ranges := V.ranges ++ [(node, x, lo, hi)], rows := V.rows ++ [ahead (level + 1) ++ "range " ++ x ++ " " ++ Txt.join " " [endW lo, endW hi]] } W level node (1, 1 + pre.length) := by
  obtain ⟨a1, a2, a3, a4, a5⟩ := endW_ok lo hlo
  obtain ⟨b1, b2, b3, b4, b5⟩ := endW_ok hi hhi
  refine (h.row (V' := { V with ranges := V.ranges ++ [(node, x, lo, hi)], rows := V.rows ++ [ahead (level + 1) ++ "range " ++ x ++ " " ++ Txt.join " " [endW lo, endW hi]] }) (ws := ["range", x, endW lo, endW hi]) (w0 := "range") (w1 := x) (rest := [endW lo, endW hi]) (rank := (1, 1 + pre.length)) (c := 114) (t := [97, 110, 103, 101]) rfl
    (fun w hw => ?_) (by decide +kernel) (by decide)
    (fun M hM => ?_) hl.lt (by show V.rows ++ [_] = _; rw [row_rg])
    (fun M h1 h2 h3 => ?_)).1
  · rcases List.mem_cons.mp hw with rfl | hw
    · exact (by decide +kernel : free 32 "range")
    · rcases List.mem_cons.mp hw with rfl | hw
      · exact fine_free hx (by decide)
      · rcases List.mem_cons.mp hw with rfl | hw
        · exact a3
        · rw [List.mem_singleton.mp hw]; exact b3
  · unfold rankF
    dsimp only
    rw [show kindOf "range" = some (1, 4) by decide +kernel]
    dsimp only
    rw [if_pos (show ([endW lo, endW hi] : List Str).length + 2 = 4 from rfl), colsOf_W hM, hc, names_plain (by decide +kernel), hn, firstAt_nd (by rw [← hn]; exact nd)]
    rfl
  · refine ⟨{ M with ranges := M.ranges ++ [(node, x, readEndF (endW lo), readEndF (endW hi))] }, ?_, h1, h2, by show M.ranges ++ _ = V.ranges ++ _; rw [h3, a2, b2], ?_⟩
    · unfold wordsF
      dsimp only
      rw [if_neg (by decide +kernel), if_pos rfl, if_pos ⟨by rw [h3]; exact h4, a1, b1⟩]
    · rw [if_neg (by decide +kernel), List.append_nil]
theorem step_fo {pre suf : List Str} {x t : Str} (h : PIv T V W level node last) (hc : colsW T V node = cols) (hn : refN cols = pre ++ x :: suf) (nd : (refN cols).Nodup) (hx : fineB x = true) (hl : okLast 2 pre.length last) (h4 : V.nodes.length < 4) (hk : cols.lookup x = some (some t)) :
    PIv T { V with nodes := V.nodes ++ [(some (node, x), t)], rows := V.rows ++ [ahead (level + 1) ++ "follow " ++ x] } (W ++ [(node, 2, 1 + pre.length)]) (level + 1) V.nodes.length (0, 0) := by
  refine (h.row (V' := { V with nodes := V.nodes ++ [(some (node, x), t)], rows := V.rows ++ [ahead (level + 1) ++ "follow " ++ x] }) (ws := ["follow", x]) (w0 := "follow") (w1 := x) (rest := []) (rank := (2, 1 + pre.length)) (c := 102) (t := [111, 108, 108, 111, 119]) rfl
    (fun w hw => ?_) (by decide +kernel) (by decide)
    (fun M hM => ?_) hl.lt (by show V.rows ++ [_] = _; rw [row_fo])
    (fun M h1 h2 h3 => ?_)).2 rfl
  · rcases List.mem_cons.mp hw with rfl | hw
    · exact (by decide +kernel : free 32 "follow")
    · rw [List.mem_singleton.mp hw]; exact fine_free hx (by decide)
  · unfold rankF
    dsimp only
    rw [show kindOf "follow" = some (2, 2) by decide +kernel]
    dsimp only
    rw [if_pos (show ([] : List Str).length + 2 = 2 from rfl), colsOf_W hM, hc, names_ref, hn, firstAt_nd (by rw [← hn]; exact nd)]
    rfl
  · refine ⟨addF (some (node, x)) t M, ?_, by show M.nodes ++ _ = V.nodes ++ _; rw [h1], h2, h3, ?_⟩
    · unfold wordsF
      dsimp only
      rw [if_neg (by decide +kernel), if_neg (by decide +kernel), if_pos (by rw [h1]; exact h4), colsOf_W h1, hc, hk]
    · rw [if_pos rfl]
      show M.way ++ [(M.nodes.length, 0, 0)] = _
      rw [h1]
end
end SP
/-! W5: a drawn view is read to its parts. -/
namespace SP
open PySem L2 PM
def rowGood (r : Str) : Prop := r.length ≤ 200 ∧ free 10 r ∧ ∀ w ∈ Txt.split r " ", okInt w
theorem ok_empty : okInt "" := okInt_bad (by decide +kernel) (by decide +kernel)
theorem good_row {d : Nat} {w : Str} {r : List Str} (hd : d ≤ 5) (h32 : ∀ x ∈ w :: r, free 32 x) (h10 : ∀ x ∈ w :: r, free 10 x) (hi : ∀ x ∈ w :: r, okInt x) (hl : (rowOf (w :: r)).length ≤ 100) : rowGood (rowOf (indW d (w :: r))) := by
  refine ⟨?_, free_row (ind_free h10), fun x hx => ?_⟩
  · rw [ind_row, len_app, ahead_len]; omega
  · rw [ind_split h32] at hx
    rcases List.mem_append.mp hx with h | h
    · rw [List.eq_of_mem_replicate h]; exact ok_empty
    · exact hi x h
theorem good_sh {d : Nat} {x : Str} (hd : d ≤ 5) (hx : fineB x = true) : rowGood (rowOf (indW d ["shown", x])) := by
  have e : ∀ (P : Str → Prop), P "shown" → P x → ∀ w ∈ (["shown", x] : List Str), P w := fun P a b w hw => by
    rcases List.mem_cons.mp hw with rfl | hw
    · exact a
    · rw [List.mem_singleton.mp hw]; exact b
  refine good_row hd (e _ (by decide +kernel) (fine_free hx (by decide))) (e _ (by decide +kernel) (fine_free hx (by decide))) (e _ (okInt_bad (by decide +kernel) (by decide +kernel)) (okInt_fine hx)) ?_
  show (Txt.join sp ["shown", x]).length ≤ _
  rw [join_cons, join_one, len_app, len_app, show ("shown" : Str).length = 5 by decide +kernel, show sp.length = 1 by decide +kernel]
  have := fine_len hx; omega
theorem good_fo {d : Nat} {x : Str} (hd : d ≤ 5) (hx : fineB x = true) : rowGood (rowOf (indW d ["follow", x])) := by
  have e : ∀ (P : Str → Prop), P "follow" → P x → ∀ w ∈ (["follow", x] : List Str), P w := fun P a b w hw => by
    rcases List.mem_cons.mp hw with rfl | hw
    · exact a
    · rw [List.mem_singleton.mp hw]; exact b
  refine good_row hd (e _ (by decide +kernel) (fine_free hx (by decide))) (e _ (by decide +kernel) (fine_free hx (by decide))) (e _ (okInt_bad (by decide +kernel) (by decide +kernel)) (okInt_fine hx)) ?_
  show (Txt.join sp ["follow", x]).length ≤ _
  rw [join_cons, join_one, len_app, len_app, show ("follow" : Str).length = 6 by decide +kernel, show sp.length = 1 by decide +kernel]
  have := fine_len hx; omega
theorem good_vw {x : Str} (hx : fineB x = true) : rowGood (rowOf ["view", x]) := by
  have e : ∀ (P : Str → Prop), P "view" → P x → ∀ w ∈ (["view", x] : List Str), P w := fun P a b w hw => by
    rcases List.mem_cons.mp hw with rfl | hw
    · exact a
    · rw [List.mem_singleton.mp hw]; exact b
  refine good_row (d := 0) (by omega) (e _ (by decide +kernel) (fine_free hx (by decide))) (e _ (by decide +kernel) (fine_free hx (by decide))) (e _ (okInt_bad (by decide +kernel) (by decide +kernel)) (okInt_fine hx)) ?_
  show (Txt.join sp ["view", x]).length ≤ _
  rw [join_cons, join_one, len_app, len_app, show ("view" : Str).length = 4 by decide +kernel, show sp.length = 1 by decide +kernel]
  have := fine_len hx; omega
theorem good_rg {d : Nat} {x : Str} {lo hi : Option Int} (hd : d ≤ 5) (hx : fineB x = true) (hlo : lo ∈ ENDSW) (hhi : hi ∈ ENDSW) : rowGood (rowOf (indW d ["range", x, endW lo, endW hi])) := by
  obtain ⟨_, _, a3, a4, a5⟩ := endW_ok lo hlo
  obtain ⟨_, _, b3, b4, b5⟩ := endW_ok hi hhi
  have e : ∀ (P : Str → Prop), P "range" → P x → P (endW lo) → P (endW hi) → ∀ w ∈ (["range", x, endW lo, endW hi] : List Str), P w := fun P a b c d w hw => by
    rcases List.mem_cons.mp hw with rfl | hw
    · exact a
    · rcases List.mem_cons.mp hw with rfl | hw
      · exact b
      · rcases List.mem_cons.mp hw with rfl | hw
        · exact c
        · rw [List.mem_singleton.mp hw]; exact d
  refine good_row hd (e _ (by decide +kernel) (fine_free hx (by decide)) a3 b3) (e _ (by decide +kernel) (fine_free hx (by decide)) a4 b4) (e _ (okInt_bad (by decide +kernel) (by decide +kernel)) (okInt_fine hx) (endW_int lo hlo) (endW_int hi hhi)) ?_
  show (Txt.join sp ["range", x, endW lo, endW hi]).length ≤ _
  rw [join_cons, join_cons, join_cons, join_one]
  simp only [len_app]
  rw [show ("range" : Str).length = 5 by decide +kernel, show sp.length = 1 by decide +kernel]
  have := fine_len hx; omega
/-- what holds of a view while it is drawn -/
structure PQ (T : List Tab) (V : WV) (W : List (Nat × Nat × Nat)) (level node : Nat) (last : Nat × Nat) : Prop where
  pi : PIv T V W level node last
  lv : level < V.nodes.length
  nd : node < V.nodes.length
  nl : V.nodes.length ≤ 4
  gd : ∀ r ∈ V.rows, rowGood r
  re : ∀ q ∈ V.ranges, q.2.2.1 ∈ ENDSW ∧ q.2.2.2 ∈ ENDSW
theorem endO_mem (s : Fd) : endO s ∈ ENDSW := end_mem (end_ok s)
/-- the columns are those of the other table, or a beginning of them -/
def SubC (cols cols' : List Col) : Prop := (∃ mp, plainN cols' = plainN cols ++ mp) ∧ (∃ mr, refN cols' = refN cols ++ mr) ∧ ∀ c ∈ cols, cols'.lookup c.1 = some c.2
section
variable {T' : List Tab} {W : List (Nat × Nat × Nat)} {level node : Nat} {cols' : List Col}
theorem sh_read (nd : (plainN cols').Nodup) (hx : ∀ x ∈ plainN cols', fineB x = true) {mp : List Str} : ∀ (suf l pre : List Str) (V : WV) (last : Nat × Nat), List.Sublist l suf → plainN cols' = pre ++ (suf ++ mp) → PQ T' V W level node last → colsW T' V node = cols' → okLast 0 pre.length last → ∃ last', PQ T' (l.foldl (shF (level + 1) node) V) W level node last' ∧ okLast 0 (plainN cols').length last'
  | [], l, pre, V, last, hs, hn, h, hc, hl => by
    rw [List.sublist_nil.mp hs]
    exact ⟨last, h, hl.mono (by rw [hn, List.length_append]; omega)⟩
  | a :: suf, l, pre, V, last, hs, hn, h, hc, hl => by
    have hn' : plainN cols' = (pre ++ [a]) ++ (suf ++ mp) := by rw [hn]; simp
    cases hs with
    | cons _ hs => exact sh_read nd hx suf l (pre ++ [a]) V last hs hn' h hc (hl.mono (by simp))
    | cons_cons _ hs =>
      rename_i l'
      rw [List.foldl_cons]
      have ha : fineB a = true := hx a (by rw [hn]; simp)
      have st := step_sh (level := level) h.pi hc (by rw [hn]; rfl) nd ha hl
      refine sh_read nd hx suf l' (pre ++ [a]) _ _ hs hn' ⟨st, h.lv, h.nd, h.nl, fun r hr => ?_, h.re⟩ hc (.inr ⟨rfl, by show 1 + pre.length ≤ _; simp; omega⟩)
      rcases List.mem_append.mp (show r ∈ V.rows ++ [_] from hr) with hr | hr
      · exact h.gd r hr
      · rw [List.mem_singleton.mp hr, row_sh]; exact good_sh (by have := h.lv; have := h.nl; omega) ha
theorem rg_read (nd : (plainN cols').Nodup) (hx : ∀ x ∈ plainN cols', fineB x = true) {mp : List Str} : ∀ (suf l pre : List Str) (z : Fd × WV) (last : Nat × Nat), List.Sublist l suf → plainN cols' = pre ++ (suf ++ mp) → PQ T' z.2 W level node last → colsW T' z.2 node = cols' → okLast 1 pre.length last → ∃ last', PQ T' (l.foldl (rgF (level + 1) node) z).2 W level node last' ∧ okLast 1 (plainN cols').length last'
  | [], l, pre, z, last, hs, hn, h, hc, hl => by
    rw [List.sublist_nil.mp hs]
    exact ⟨last, h, hl.mono (by rw [hn, List.length_append]; omega)⟩
  | a :: suf, l, pre, z, last, hs, hn, h, hc, hl => by
    have hn' : plainN cols' = (pre ++ [a]) ++ (suf ++ mp) := by rw [hn]; simp
    cases hs with
    | cons _ hs => exact rg_read nd hx suf l (pre ++ [a]) z last hs hn' h hc (hl.mono (by simp))
    | cons_cons _ hs =>
      rename_i l'
      rw [List.foldl_cons]
      have ha : fineB a = true := hx a (by rw [hn]; simp)
      by_cases h4 : z.2.ranges.length < 4
      · have e : rgF (level + 1) node z a = (fdT (fdT z.1 7) 7, { z.2 with ranges := z.2.ranges ++ [(node, a, endO z.1, endO (fdT z.1 7))], rows := z.2.rows ++ [ahead (level + 1) ++ "range " ++ a ++ " " ++ Txt.join " " [endW (endO z.1), endW (endO (fdT z.1 7))]] }) := by
          unfold rgF; rw [if_pos h4]
        have st := step_rg (level := level) h.pi hc (by rw [hn]; rfl) nd ha hl h4 (endO_mem z.1) (endO_mem (fdT z.1 7))
        rw [e]
        refine rg_read nd hx suf l' (pre ++ [a]) _ _ hs hn' ⟨st, h.lv, h.nd, h.nl, fun r hr => ?_, fun q hq => (List.mem_append.mp (show q ∈ z.2.ranges ++ [_] from hq)).elim (h.re q) fun hq => by rw [List.mem_singleton.mp hq]; exact ⟨endO_mem z.1, endO_mem (fdT z.1 7)⟩⟩ hc (.inr ⟨rfl, by show 1 + pre.length ≤ _; simp; omega⟩)
        rcases List.mem_append.mp (show r ∈ z.2.rows ++ [_] from hr) with hr | hr
        · exact h.gd r hr
        · rw [List.mem_singleton.mp hr, row_rg]; exact good_rg (by have := h.lv; have := h.nl; omega) ha (endO_mem z.1) (endO_mem (fdT z.1 7))
      · have e : rgF (level + 1) node z a = z := by unfold rgF; rw [if_neg h4]
        rw [e]
        exact rg_read nd hx suf l' (pre ++ [a]) z last hs hn' h hc (hl.mono (by simp))
theorem sh_nodes (d n : Nat) : ∀ (l : List Str) (V : WV), (l.foldl (shF d n) V).nodes = V.nodes
  | [], V => rfl
  | x :: l, V => by rw [List.foldl_cons, sh_nodes d n l]; rfl
theorem rg_nodes (d n : Nat) : ∀ (l : List Str) (z : Fd × WV), (l.foldl (rgF d n) z).2.nodes = z.2.nodes
  | [], z => rfl
  | x :: l, z => by
    rw [List.foldl_cons, rg_nodes d n l]
    unfold rgF
    split <;> rfl
theorem cw_same {V V' : WV} (h : V'.nodes = V.nodes) : colsW T' V' node = colsW T' V node := by unfold colsW; rw [h]
theorem cw_grow {V V' : WV} (h : Grow V V') (hn : node < V.nodes.length) : colsW T' V' node = colsW T' V node := by
  obtain ⟨x, hx⟩ := h
  unfold colsW
  rw [hx, List.getD_eq_getElem?_getD, List.getD_eq_getElem?_getD, List.getElem?_append_left hn]
theorem ref_cons (c : Col) (cols : List Col) : refN (c :: cols) = (if c.2.isSome = true then [c.1] else []) ++ refN cols := by
  unfold refN
  rw [List.filter_cons]
  split <;> rfl
theorem ref_some (n t : Str) (cols : List Col) : refN ((n, some t) :: cols) = n :: refN cols := by rw [ref_cons, if_pos (show ((n, some t) : Col).2.isSome = true from rfl)]; rfl
theorem ref_app (a b : List Col) : refN (a ++ b) = refN a ++ refN b := by unfold refN; rw [List.filter_append, List.map_append]
theorem fo_read {cols : List Col} {rec : Fd → WV → Nat → Nat → Fd × WV} (hrec : ∀ s V W' n', PQ T' V W' (level + 1) n' (0, 0) → (∃ last', PQ T' (rec s V n' (level + 1 + 1)).2 W' (level + 1) n' last') ∧ Grow V (rec s V n' (level + 1 + 1)).2) (nd : (refN cols').Nodup) (hx : ∀ c ∈ cols, fineB c.1 = true) (hlk : ∀ c ∈ cols, cols'.lookup c.1 = some c.2) {mr : List Str} (hmr : refN cols' = refN cols ++ mr) :
    ∀ (suf pre : List Col) (z : Fd × WV) (last : Nat × Nat), cols = pre ++ suf → PQ T' z.2 W level node last → colsW T' z.2 node = cols' → okLast 2 (refN pre).length last → (∃ last', PQ T' (suf.foldl (foF rec (level + 1) node) z).2 W level node last') ∧ Grow z.2 (suf.foldl (foF rec (level + 1) node) z).2
  | [], pre, z, last, hn, h, hc, hl => ⟨⟨last, h⟩, Grow.refl _⟩
  | c :: suf, pre, z, last, hn, h, hc, hl => by
    have hn' : cols = (pre ++ [c]) ++ suf := by rw [hn]; simp
    have hcm : c ∈ cols := by rw [hn]; simp
    rw [List.foldl_cons]
    have skip : ∀ z', z'.2 = z.2 → foF rec (level + 1) node z c = z' → (∃ last', PQ T' (suf.foldl (foF rec (level + 1) node) (foF rec (level + 1) node z c)).2 W level node last') ∧ Grow z.2 (suf.foldl (foF rec (level + 1) node) (foF rec (level + 1) node z c)).2 := fun z' e2 e => by
      rw [e, ← e2]
      exact fo_read hrec nd hx hlk hmr suf (pre ++ [c]) z' last hn' (by rw [e2]; exact h) (by rw [e2]; exact hc) (hl.mono (by rw [ref_app, List.length_append]; omega))
    obtain ⟨cn, ct⟩ := c
    cases ct with
    | none => exact skip z rfl rfl
    | some t =>
      by_cases h4 : z.2.nodes.length < 4
      · by_cases hb : 0 < fdI z.1 4
        · have e : foF rec (level + 1) node z (cn, some t) = rec (fdT z.1 4) { z.2 with nodes := z.2.nodes ++ [(some (node, cn), t)], rows := z.2.rows ++ [ahead (level + 1) ++ "follow " ++ cn] } z.2.nodes.length (level + 1 + 1) := by
            unfold foF
            dsimp only
            rw [if_pos h4, if_pos hb]
          have hrn : refN cols' = refN pre ++ cn :: (refN suf ++ mr) := by
            rw [hmr, hn, ref_app, ref_some]; simp
          have st := step_fo (level := level) h.pi hc hrn nd (hx _ hcm) hl h4 (hlk _ hcm)
          have hln : (z.2.nodes ++ [((some (node, cn), t) : NodeM)]).length = z.2.nodes.length + 1 := by rw [List.length_append, List.length_singleton]
          have pq : PQ T' { z.2 with nodes := z.2.nodes ++ [(some (node, cn), t)], rows := z.2.rows ++ [ahead (level + 1) ++ "follow " ++ cn] } (W ++ [(node, 2, 1 + (refN pre).length)]) (level + 1) z.2.nodes.length (0, 0) := by
            refine ⟨st, ?_, ?_, ?_, fun r hr => ?_, h.re⟩
            · show level + 1 < (z.2.nodes ++ [_]).length; rw [hln]; have := h.lv; omega
            · show z.2.nodes.length < (z.2.nodes ++ [_]).length; rw [hln]; omega
            · show (z.2.nodes ++ [_]).length ≤ 4; rw [hln]; omega
            · rcases List.mem_append.mp (show r ∈ z.2.rows ++ [_] from hr) with hr | hr
              · exact h.gd r hr
              · rw [List.mem_singleton.mp hr, row_fo]; exact good_fo (by have := h.lv; have := h.nl; omega) (hx _ hcm)
          obtain ⟨⟨l2, q2⟩, g2⟩ := hrec (fdT z.1 4) _ _ _ pq
          rw [← e] at q2 g2
          have g3 : Grow z.2 (foF rec (level + 1) node z (cn, some t)).2 := Grow.trans ⟨[(some (node, cn), t)], rfl⟩ g2
          have gl := g3.len
          have q3 : PQ T' (foF rec (level + 1) node z (cn, some t)).2 W level node (2, 1 + (refN pre).length) := ⟨q2.pi.back rfl h.pi.2.1, by have := h.lv; omega, by have := h.nd; omega, q2.nl, q2.gd, q2.re⟩
          obtain ⟨a, b⟩ := fo_read hrec nd hx hlk hmr suf (pre ++ [(cn, some t)]) _ _ hn' q3 (by rw [cw_grow g3 h.nd]; exact hc) (.inr ⟨rfl, by show 1 + (refN pre).length ≤ _; rw [ref_app, ref_some]; simp [refN]; omega⟩)
          exact ⟨a, g3.trans b⟩
        · exact skip (fdT z.1 4, z.2) rfl (by unfold foF; dsimp only; rw [if_pos h4, if_neg hb])
      · exact skip z rfl (by unfold foF; dsimp only; rw [if_neg h4])
end
/-- a schema that has at least these tables and columns -/
def ExtT (T T' : List Tab) : Prop := ∀ V node, SubC (colsW T V node) (colsW T' V node)
theorem node_read {T T' : List Tab} (hx : fineT T') (hcn : colsNd T') (hfT : fineT T) (he : ExtT T T') : ∀ (f : Nat) (s : Fd) (V : WV) (W : List (Nat × Nat × Nat)) (level node : Nat), PQ T' V W level node (0, 0) → (∃ last', PQ T' (nodeF T f s V node (level + 1)).2 W level node last') ∧ Grow V (nodeF T f s V node (level + 1)).2
  | 0, s, V, W, level, node, h => ⟨⟨_, h⟩, Grow.refl _⟩
  | f + 1, s, V, W, level, node, h => by
    obtain ⟨⟨mp, hmp⟩, ⟨mr, hmr⟩, hlk⟩ := he V node
    have nd := cw_nd (V := V) (node := node) hcn
    have fx := plain_fine (cw_fine (V := V) (node := node) hx)
    show (∃ last', PQ T' ((colsW T V node).foldl (foF (nodeF T f) (level + 1) node) (partsF s V (colsW T V node) node (level + 1))).2 W level node last') ∧ Grow V ((colsW T V node).foldl (foF (nodeF T f) (level + 1) node) (partsF s V (colsW T V node) node (level + 1))).2
    generalize hcols : colsW T V node = cols at hmp hmr hlk
    have hcf : ∀ c ∈ cols, fineB c.1 = true := by rw [← hcols]; exact cw_fine hfT
    obtain ⟨l1, p1, o1⟩ := sh_read (cols' := colsW T' V node) (plain_nd nd) fx (mp := mp) (plainN cols) (chooseF s (plainN cols)).2 [] V (0, 0) (choose_sub _ _) hmp h rfl (.inr ⟨rfl, Nat.zero_le _⟩)
    obtain ⟨l2, p2, o2⟩ := rg_read (cols' := colsW T' V node) (plain_nd nd) fx (mp := mp) (plainN cols) (chooseF (chooseF s (plainN cols)).1 (plainN cols)).2 [] ((chooseF (chooseF s (plainN cols)).1 (plainN cols)).1, (chooseF s (plainN cols)).2.foldl (shF (level + 1) node) V) l1 (choose_sub _ _) hmp p1 (cw_same (sh_nodes _ _ _ _)) (.inl (by
      rcases o1 with h | ⟨h, _⟩
      · omega
      · omega))
    have hz : (partsF s V cols node (level + 1)).2.nodes = V.nodes := by
      unfold partsF
      dsimp only
      rw [rg_nodes, sh_nodes]
    have p2 : PQ T' (partsF s V cols node (level + 1)).2 W level node l2 := p2
    obtain ⟨a, b⟩ := fo_read (cols' := colsW T' V node) (cols := cols) (rec := nodeF T f) (level := level) (node := node) (W := W) (fun s V W' n' h => node_read hx hcn hfT he f s V W' (level + 1) n' h) (ref_nd nd) hcf hlk hmr cols [] (partsF s V cols node (level + 1)) l2 rfl p2 (cw_same hz) (.inl (by
      rcases o2 with h | ⟨h, _⟩
      · omega
      · omega))
    exact ⟨a, Grow.trans ⟨[], by rw [hz, List.append_nil]⟩ b⟩
def V0 (t : Str) : WV := ⟨[(none, t)], [], [], ["view " ++ t]⟩
theorem root_read {T' : List Tab} {t : Str} (ht : t ∈ T'.map (·.1)) (hf : fineB t = true) : PQ T' (V0 t) [] 0 0 (0, 0) := by
  refine ⟨⟨by simp [V0], rfl, addF none t PtM0, ?_, rfl, rfl, rfl, rfl, rfl⟩, by show 0 < 1; omega, by show 0 < 1; omega, by show 1 ≤ 4; omega, fun r hr => ?_, fun q hq => by cases hq⟩
  · show (takesF T' 0 ("view " ++ t) PtM0).bind (readParts T' 1 []) = _
    have : takesF T' 0 ("view " ++ t) PtM0 = some (addF none t PtM0) := by
      unfold takesF
      rw [if_pos rfl, row_vw, show Txt.split (rowOf (["view", t] : List Str)) " " = (["view", t] : List Str) from split_row (by simp) (fun w hw => by
        rcases List.mem_cons.mp hw with rfl | hw
        · exact (by decide +kernel : free 32 "view")
        · rw [List.mem_singleton.mp hw]; exact fine_free hf (by decide))]
      dsimp only
      rw [if_pos ⟨rfl, ht⟩]
    rw [this]
    rfl
  · rw [List.mem_singleton.mp (show r ∈ ["view " ++ t] from hr), row_vw]
    exact good_vw hf
theorem view_read {T T' : List Tab} (hx : fineT T') (hcn : colsNd T') (hfT : fineT T) (he : ExtT T T') {t : Str} (ht : t ∈ T'.map (·.1)) (hf : fineB t = true) (f : Nat) (s : Fd) : ∃ M, readParts T' 0 (nodeF T f s (V0 t) 0 1).2.rows PtM0 = some M ∧ M.nodes = (nodeF T f s (V0 t) 0 1).2.nodes ∧ M.shown = (nodeF T f s (V0 t) 0 1).2.shown ∧ M.ranges = (nodeF T f s (V0 t) 0 1).2.ranges ∧ (nodeF T f s (V0 t) 0 1).2.rows ≠ [] ∧ (∀ r ∈ (nodeF T f s (V0 t) 0 1).2.rows, rowGood r) ∧ ∀ q ∈ (nodeF T f s (V0 t) 0 1).2.ranges, q.2.2.1 ∈ ENDSW ∧ q.2.2.2 ∈ ENDSW := by
  obtain ⟨⟨l, p⟩, _⟩ := node_read hx hcn hfT he f s (V0 t) [] 0 0 (root_read ht hf)
  obtain ⟨h0, _, M, h1, h2, h3, h4, _⟩ := p.pi
  exact ⟨M, h1, h2, h3, h4, h0, p.gd, p.re⟩
end SP
/-! W3: a view that is drawn, and its text. -/
namespace SP
open PySem L2 DV PM RG LK
variable {K : PySem.W.Frag}
theorem repA {B : Hp} {vs : List V} {ds : List D} (r : RpA K B vs ds) : ∀ n : Nat, RpA K B (List.replicate n vs).flatten (List.replicate n ds).flatten
  | 0 => .nil
  | n + 1 => by
    rw [List.replicate_succ, List.replicate_succ, List.flatten_cons, List.flatten_cons]
    exact r.append (repA r n)
theorem od_rep2 {ds : List D} (hz : ds.length ≤ 1000) : OpD K rRep (.dat (.lst ds)) (.dat (.int 2)) (.dat (.lst (ds ++ ds))) := fun B H x y e h1 h2 Q q => by
  have a' : Rp K B x (.lst ds) := h1
  have b' : Rp K B y (.int 2) := h2
  cases b'
  cases a' with
  | @lst l xs _ h5 r =>
  have hl := r.length
  refine ⟨l, 2, xs, rfl, rfl, e _ _ h5, by omega, by omega, by rw [hl]; exact le_line (by show ds.length * 2 ≤ _; omega), fun p hp => ?_⟩
  have s := stp_new (o := .lst (List.replicate 2 xs).flatten) e hp
  refine q _ _ _ s e.updB (Rp.lst upd_same ?_)
  have := (repA r 2).mono s.ex
  simpa using this
theorem ex_pub0 {B H : Hp} {a : Addr} {o : HO} (e : Ex B H) (h : H a = some o) : Ex (upd B a o) H := fun b u z => by
  by_cases y : b = a
  · subst y; rw [upd_same] at z; cases z; exact h
  · rw [upd_ne y] at z; exact e b u z
theorem okk_pub {P : List Addr} {ss : List Sl} {cs : List (List D)} {B H : Hp} {σ : L2.St} {a : Addr} {o : HO} (k : Okk K P ss cs B H σ) (hb : B a = none) (ha : H a = some o) (hP : a ∉ P) : Okk K P ss cs (upd B a o) H σ :=
  ⟨ex_pub0 k.ex ha, k.sl.mono (Ex.new hb), k.mu.keep (Ex.new hb) (fun _ _ => rfl) fun x hx => by rw [upd_ne (fun (z : x = a) => hP (z ▸ hx))]; exact (k.mu.mem hx).choose_spec.2⟩
theorem stp_newP {P0 P : List Addr} {B0 H0 B H B' H' : Hp} (s : Stp P0 B0 H0 B H) (t : Stp P B H B' H') (hP : ∀ q ∈ P, q ∈ P0 ∨ H0 q = none) : Stp P0 B0 H0 B' H' where
  ex := s.ex.trans t.ex
  fr := fun b o n h => t.fr b o (fun z => by
    rcases hP b z with w | w
    · exact n w
    · rw [w] at h; cases h) (s.fr b o n h)
  nb := fun b o h => by
    obtain ⟨o', h'⟩ := s.dm b o h
    rw [t.nb b o' h', s.nb b o h]
  dm := fun b o h => by
    obtain ⟨o', h'⟩ := s.dm b o h
    exact t.dm b o' h'
theorem stp_pubP {P : List Addr} {B0 H0 B H : Hp} {a : Addr} {o : HO} (s : Stp P B0 H0 B H) (hb : B a = none) (h0 : H0 a = none) : Stp P B0 H0 (upd B a o) H := ⟨s.ex.trans (Ex.new hb), s.fr, fun b u e => by rw [upd_ne (ne_of_none e h0)]; exact s.nb b u e, s.dm⟩
theorem pairs_lst0 {k : V} {rest : List (TE × TE)} {σ : L2.St} {H : Hp} {Q : List (V × V) → Hp → Prop} (h : ∀ a, H a = none → tPairs rest σ (upd H a (.lst [])) fun ps H2 => Q ((k, .ref a) :: ps) H2) : tPairs ((tC k, tLst tNil) :: rest) σ H Q := ⟨le_line (by simp), h⟩
theorem lst_one {te : TE} {σ : L2.St} {H : Hp} {Q : VK} (h : te σ H fun v H1 => [v].length ≤ sizeLine ∧ ∀ p, H1 p = none → Q (.ref p) (upd H1 p (.lst [v]))) : tLst (tCons te tNil) σ H Q := h
theorem cons_lst1 {te : TE} {σ : L2.St} {H : Hp} {R : List V → Hp → Prop} (h : te σ H fun v H1 => [v].length ≤ sizeLine ∧ ∀ p, H1 p = none → R [.ref p] (upd H1 p (.lst [v]))) : tCons (tLst (tCons te tNil)) tNil σ H R := h
theorem okk_upd {P : List Addr} {ss : List Sl} {cs : List (List D)} {B H : Hp} {σ : L2.St} {a : Addr} {o : HO} (k : Okk K P ss cs B H σ) (hb : B a = none) (hP : a ∉ P) : Okk K P ss cs B (upd H a o) σ :=
  ⟨ex_upd k.ex hb, k.sl, k.mu.keep (Ex.refl _) (fun x hx => upd_ne (fun (z : x = a) => hP (z ▸ hx))) fun x hx => (k.mu.mem hx).choose_spec.2⟩
theorem stp_updP {P : List Addr} {B0 H0 B H : Hp} {a : Addr} {o : HO} (s : Stp P B0 H0 B H) (h : H0 a = none) : Stp P B0 H0 B (upd H a o) where
  ex := s.ex
  fr := fun b u n e => by rw [upd_ne (ne_of_none e h)]; exact s.fr b u n e
  nb := s.nb
  dm := fun b u e => by rw [upd_ne (ne_of_none e h)]; exact s.dm b u e
theorem pairs_nil {σ : L2.St} {H : Hp} {Q : List (V × V) → Hp → Prop} (h : Q [] H) : tPairs [] σ H Q := h
def optsT (T : List Tab) : List Tab := T ++ (T.drop (T.length - 1) ++ T.drop (T.length - 1))
def pickT (T : List Tab) (s : Fd) : Tab := (optsT T).getD (fdI s (T.length + 2)) (Str.empty, [])
theorem opts_len {T : List Tab} (h : T ≠ []) : (optsT T).length = T.length + 2 := by
  have := List.length_pos_iff.mpr h
  unfold optsT
  rw [List.length_append, List.length_append, List.length_drop]; omega
theorem pick_mem {T : List Tab} (h : T ≠ []) (s : Fd) : pickT T s ∈ T := by
  have hi : fdI s (T.length + 2) < (optsT T).length := by rw [opts_len h]; exact fdI_lt (by omega)
  unfold pickT
  rw [List.getD_eq_getElem?_getD, List.getElem?_eq_getElem hi]
  have hm : (optsT T)[fdI s (T.length + 2)] ∈ optsT T := List.getElem_mem hi
  show (optsT T)[fdI s (T.length + 2)] ∈ T
  generalize (optsT T)[fdI s (T.length + 2)] = x at hm
  unfold optsT at hm
  rcases List.mem_append.mp hm with h | h
  · exact h
  · rcases List.mem_append.mp h with h | h <;> exact List.mem_of_mem_drop h
def viewF (T : List Tab) (s : Fd) : Fd × WV := nodeF T 4 (fdT s (T.length + 2)) (V0 (pickT T s).1) 0 1
def textV (V : WV) : Str := Txt.join "\n" V.rows
def wvD (V : WV) : D := .dic [(.inr "nodes", .lst (V.nodes.map nodeD)), (.inr "shown", .lst (V.shown.map shownD)), (.inr "ranges", .lst (V.ranges.map rangeMD)), (.inr "text", .str (textV V))]
theorem ext_refl {T : List Tab} (h : colsNd T) : ExtT T T := fun V node => ⟨⟨[], by simp⟩, ⟨[], by simp⟩, fun c hc => lookup_mem (cw_nd h) hc⟩
theorem sum_rows : ∀ {l : List Str}, (∀ r ∈ l, rowGood r) → (l.map (·.length)).sum ≤ l.length * 200
  | [], _ => by simp
  | a :: l, h => by
    have ih := sum_rows (l := l) fun r hr => h r (List.mem_cons_of_mem _ hr)
    have := (h a List.mem_cons_self).1
    rw [List.map_cons, List.sum_cons, List.length_cons]
    omega
theorem root_ok {T : List Tab} {t : Str} (ht : t ∈ T.map (·.1)) : NOk T (V0 t) ∧ NIn (V0 t) := ⟨⟨by show 1 ≤ 4; omega, by show 0 ≤ 4; omega, fun q hq => by rw [List.mem_singleton.mp (show q ∈ [((none : Option (Nat × Str)), t)] from hq)]; exact ht⟩, by show 0 + 4 ≤ 4 * 1; omega, by show 1 + 9 ≤ 10 * 1; omega⟩
structure VFacts (T : List Tab) (V : WV) : Prop where
  rl : V.rows.length ≤ 40
  nl : V.nodes.length ≤ 4
  sl : V.shown.length ≤ 16
  gl : V.ranges.length ≤ 4
  gd : ∀ r ∈ V.rows, rowGood r
  ne : V.rows ≠ []
  re : ∀ q ∈ V.ranges, q.2.2.1 ∈ ENDSW ∧ q.2.2.2 ∈ ENDSW
theorem view_facts {T : List Tab} (hT : schOk T) (hX : refsOk T) (hfT : fineT T) (hcn : colsNd T) (hne : T ≠ []) (s : Fd) : VFacts T (viewF T s).2 := by
  have hm := pick_mem hne s
  have ht : (pickT T s).1 ∈ T.map (·.1) := List.mem_map.mpr ⟨_, hm, rfl⟩
  obtain ⟨k0, i0⟩ := root_ok ht
  obtain ⟨a, b, _⟩ := node_ok hT hX 4 (fdT s (T.length + 2)) (V0 (pickT T s).1) 0 1 k0 i0 (by show 0 < 1; omega) (by show 5 ≤ 1 + 4; omega)
  obtain ⟨_, _, _, _, _, h6, h7, h8⟩ := view_read hfT hcn hfT (ext_refl hcn) ht (hfT _ hm).1 4 (fdT s (T.length + 2))
  have := a.nl
  exact ⟨by have := b.2; show (nodeF T 4 (fdT s (T.length + 2)) (V0 (pickT T s).1) 0 1).2.rows.length ≤ 40; omega, a.nl, by have := b.1; show (nodeF T 4 (fdT s (T.length + 2)) (V0 (pickT T s).1) 0 1).2.shown.length ≤ 16; omega, a.rl, h7, h6, h8⟩
def preLView : Pre := fun rs Pl cs r cs' => ∃ p s T, rs = [.val (.ref p), .dat (encTs T)] ∧ Pl = [p] ∧ cs = [fdD s] ∧ schOk T ∧ refsOk T ∧ fineT T ∧ colsNd T ∧ T ≠ [] ∧ r = .dat (wvD (viewF T s).2) ∧ cs' = [fdD (viewF T s).1]
end SP
namespace T3
open PySem L2 DV PM SP LK
abbrev s_l_view : Stmt := topS 43
abbrev N_l_view : List Str := ["feed", "tables", "table", "found", "rows"]
theorem sc_l_view : FnScope N_l_view ["feed", "tables"] (defScope s_l_view) := ⟨rfl, rfl, rfl, by decide +kernel, rfl, by decide +kernel, by decide +kernel⟩

section
variable {P : Program} {w : World} {K : PySem.W.Frag} {mg : Str → Option Value} {base : Heap}
theorem ok_lview {f fP fA : Addr} {fd fdP fdA : FuncData} (F : Fun K "_law_view" "_law_view" s_l_view f fd) (G_l_pick : Def P w K mg base 2 "_law_pick" fP fdP ["feed", "options"] (spM K prePick)) (G_l_add_node : Def P w K mg base 8 "_law_add_node" fA fdA ["feed", "tables", "view", "rows", "node", "depth"] (spAdd K 4)) :
    FnOk P w K mg base CX0 9 f fd ["feed", "tables"] (spM K preLView) := by
  refine ok_body F sc_l_view (fun rs Pl cs r cs' h => ?_) (fun X hX hr => ?_)
  · obtain ⟨p, s, T, rfl, _⟩ := h
    rfl
  obtain ⟨cdv, A, outer, s', H, E, rfl⟩ := hX
  have nd := sc_l_view.nd
  refine ⟨_, (pss_cons (ps_set (i := 2) nd rfl (.inl rfl) (pe_ix ix_seq (pe_def G_l_pick hr (by decide) (by rfl) (pa_cons (pv 0) (pa_cons (pe_op op_addA (pv 1) (pe_op op_rep (pe_slice sl_3 (pv 1) (po_some (pe_un un_neg pe_int)) po_none) pe_int)) pa_nil))) pe_int (fun _ _ => rfl)))
      (pss_cons (ps_par (i := 3) (j := 4) rfl nd rfl rfl (by decide) rfl rfl (pa_cons (pe_disp (pps_cons pe_str (pe_lst (pa_cons (pe_tup (pa_cons pe_non (pa_cons pe_non (pa_cons (pv 2) pa_nil)))) pa_nil)) (pps_cons pe_str (pe_lst pa_nil) (pps_cons pe_str (pe_lst pa_nil) pps_nil))) rfl rfl (by simp) (by decide)) (pa_cons (pe_lst (pa_cons (pe_op op_addA pe_str (pv 2)) pa_nil)) pa_nil)) (by rfl))
      (pss_cons (ps_expr (pe_def G_l_add_node hr (by decide) (by rfl) (pa_cons (pv 0) (pa_cons (pv 1) (pa_cons (pv 3) (pa_cons (pv 4) (pa_cons pe_int (pa_cons pe_int pa_nil))))))))
      (pss_cons (ps_dput (hu_of hr) (pv 3) pe_str (pe_join pe_str (pv 4)) rfl)
      (pss_one (ps_ret (pv 3))))))), ?_⟩
  intro rs Pl cs r cs' hp B0 H0 σ Dn st hP hd hn
  obtain ⟨p, s, T, rfl, rfl, rfl, hT, hX, hfT, hcn, hne, rfl, rfl⟩ := hp
  have hT3 := hT.1.1
  have st : Sta K [p] B0 H0 [.val (.ref p), .dat (encTs T), .any, .any, .any] [fdD s] σ H0 := st
  refine st_seq (st_asg (i := 2) (r := .dat (.str (pickT T s).1)) (cs1 := [fdD (fdT s (T.length + 2))]) st ?_ (fun σ1 H1 st1 => ?_))
  · refine ev_op (ev_call1 (j := 0) (cs1 := [fdD s]) (ds := fdD s) (ds' := fdD (fdT s (T.length + 2))) (ea_cons (r := .val (.ref p)) (ev_var (i := 0) rfl) (ea_cons (Ev.eq (ev_op (ev_var (i := 1) (r := .dat (encTs T)) rfl) (ev_op (ev_sl (ev_var (i := 1) (r := .dat (encTs T)) rfl) (eo_some ev_neg1) eo_none sd_L) ev_int (od_rep2 (by rw [cut_lastN, List.length_drop, List.length_map]; omega))) (od_addL (by rw [cut_lastN, List.length_append, List.length_drop, List.length_map]; omega))) (show _ = D.lst ((optsT T).map encT) by rw [cut_lastN, List.length_map]; unfold optsT; rw [List.map_append, List.map_append, List.map_drop])) ea_nil)) rfl rfl
      ⟨p, s, _, encT (pickT T s), rfl, rfl, rfl, by rw [List.length_map, opts_len hne]; omega, by rw [List.length_map, opts_len hne]; omega, by rw [List.length_map, opts_len hne]; exact pk_get (optsT T) encT (Str.empty, []) s (T.length + 2) (opts_len hne) (by omega), rfl, by rw [List.length_map, opts_len hne]⟩) ev_int (od_ixT (ds := [.str (pickT T s).1, .lst ((pickT T s).2.map encC)]) (atI_nat (j := 0) rfl))
  dsimp only []
  have st1 : Sta K [p] B0 H0 [.val (.ref p), .dat (encTs T), .dat (.str (pickT T s).1), .any, .any] [fdD (fdT s (T.length + 2))] σ1 H1 := st1
  obtain ⟨B1, s1, o1⟩ := st1
  refine st_seq ?_
  refine fun pd hpd => ?_
  have s2 : Stp [] B1 H1 B1 (upd H1 pd (.dK [])) := stp_upd (Stp.refl _ _ _) hpd
  have e2 := ex_upd o1.ex (o1.ex.free hpd) (o := .dK [])
  have o2 := o1.step0 s2 e2
  have c2 : upd H1 pd (.dK []) pd = some (.dK []) := upd_same
  generalize upd H1 pd (.dK []) = H2 at s2 e2 o2 c2 ⊢
  refine (ev_str : Ev K [p] _ [fdD (fdT s (T.length + 2))] _ _ _) B1 H2 σ1 o2 _ fun w1 B2 H3 s3 o3 r3 => ?_
  refine lst_one ?_
  refine (ev_tup (ds := [.non, .non, .str (pickT T s).1]) (ea_cons ev_non (ea_cons ev_non (ea_cons (ev_var (i := 2) rfl) ea_nil))) (by simp) : Ev K [p] _ [fdD (fdT s (T.length + 2))] _ _ _) B2 H3 σ1 o3 _ fun w2 B3 H4 s4 o4 r4 => ?_
  refine ⟨le_line (by simp), fun n hn4 => ?_⟩
  have z4 : Stp [p] B1 H1 B3 H4 := s2.ofNil.trans (s3.trans s4)
  have hn1 : H1 n = none := free0P z4 hn4
  have cpd4 : H4 pd = some (.dK []) := (s3.trans s4).fr _ _ (fun z => by
    rw [List.mem_singleton.mp z] at hpd
    obtain ⟨u, hu, _⟩ := o1.mu.mem (List.mem_singleton_self p)
    rw [hu] at hpd; cases hpd) c2
  have s5 : Stp [] B3 H4 B3 (upd H4 n (.lst [w2])) := stp_upd (Stp.refl _ _ _) hn4
  have e5 := ex_upd o4.ex (o4.ex.free hn4) (o := .lst [w2])
  have lc5 : LC K B3 (upd H4 n (.lst [w2])) n [nodeD (none, (pickT T s).1)] := ⟨[w2], upd_same, o4.ex.free hn4, .cons r4 .nil⟩
  have o5 := o4.step0 s5 e5
  have cpd5 := s5.fr _ _ (by simp) cpd4
  have z5 := z4.trans s5.ofNil
  generalize upd H4 n (.lst [w2]) = H5 at s5 e5 lc5 o5 cpd5 z5 ⊢
  refine pairs_lst0 fun sh hsh5 => ?_
  have hsh1 : H1 sh = none := free0P z5 hsh5
  have s6 : Stp [] B3 H5 B3 (upd H5 sh (.lst [])) := stp_upd (Stp.refl _ _ _) hsh5
  have e6 := ex_upd o5.ex (o5.ex.free hsh5) (o := .lst [])
  have lsh6 : LC K B3 (upd H5 sh (.lst [])) sh [] := ⟨[], upd_same, o5.ex.free hsh5, .nil⟩
  have nsh : n ≠ sh := fun z => by obtain ⟨_, h, _⟩ := lc5; rw [z, hsh5] at h; cases h
  have o6 := o5.step0 s6 e6
  have lc6 := lc5.step s6 (by simp)
  have cpd6 := s6.fr _ _ (by simp) cpd5
  have z6 := z5.trans s6.ofNil
  generalize upd H5 sh (.lst []) = H6 at s6 e6 lsh6 lc6 o6 cpd6 z6 ⊢
  refine pairs_lst0 fun rg hrg6 => ?_
  have hrg1 : H1 rg = none := free0P z6 hrg6
  have s7 : Stp [] B3 H6 B3 (upd H6 rg (.lst [])) := stp_upd (Stp.refl _ _ _) hrg6
  have e7 := ex_upd o6.ex (o6.ex.free hrg6) (o := .lst [])
  have lrg7 : LC K B3 (upd H6 rg (.lst [])) rg [] := ⟨[], upd_same, o6.ex.free hrg6, .nil⟩
  have nrg : n ≠ rg := fun z => by obtain ⟨_, h, _⟩ := lc6; rw [z, hrg6] at h; cases h
  have shrg : sh ≠ rg := fun z => by obtain ⟨_, h, _⟩ := lsh6; rw [z, hrg6] at h; cases h
  have o7 := o6.step0 s7 e7
  have lc7 := lc6.step s7 (by simp)
  have lsh7 := lsh6.step s7 (by simp)
  have cpd7 := s7.fr _ _ (by simp) cpd6
  have z7 := z6.trans s7.ofNil
  generalize upd H6 rg (.lst []) = H7 at s7 e7 lrg7 lc7 lsh7 o7 cpd7 z7 ⊢
  refine pairs_nil ?_
  refine ⟨cpd7, [(.inr "nodes", .ref n), (.inr "shown", .ref sh), (.inr "ranges", .ref rg)], ?_, by simp, ?_⟩
  · cases (show w1 = .str "nodes" from by cases r3; rfl)
    rfl
  rw [mergeK_new (by show ([(.inr "nodes"), (.inr "shown"), (.inr "ranges")] : List Key).Nodup; decide +kernel), List.nil_append]
  have pdn : pd ≠ n := fun z => by obtain ⟨_, h, _⟩ := lc7; rw [← z, cpd7] at h; cases h
  have pdsh : pd ≠ sh := fun z => by obtain ⟨_, h, _⟩ := lsh7; rw [← z, cpd7] at h; cases h
  have pdrg : pd ≠ rg := fun z => by obtain ⟨_, h, _⟩ := lrg7; rw [← z, cpd7] at h; cases h
  have bpd : B3 pd = none := by rw [(s3.trans s4).nb _ _ c2]; exact o1.ex.free hpd
  have hpp : p ≠ pd := fun z => by
    obtain ⟨u, hu, _⟩ := o1.mu.mem (List.mem_singleton_self p)
    rw [z, hpd] at hu; cases hu
  have o8 := okk_upd (a := pd) (o := .dK [((.inr "nodes" : Key), V.ref n), (.inr "shown", .ref sh), (.inr "ranges", .ref rg)]) o7 bpd (by simpa using Ne.symm hpp)
  have z8 := stp_updP (a := pd) (o := .dK [((.inr "nodes" : Key), V.ref n), (.inr "shown", .ref sh), (.inr "ranges", .ref rg)]) z7 hpd
  have c8 : upd H7 pd (.dK [((.inr "nodes" : Key), V.ref n), (.inr "shown", .ref sh), (.inr "ranges", .ref rg)]) pd = some (.dK [((.inr "nodes" : Key), V.ref n), (.inr "shown", .ref sh), (.inr "ranges", .ref rg)]) := upd_same
  have lc8 := lc7.oth (o := .dK [((.inr "nodes" : Key), V.ref n), (.inr "shown", .ref sh), (.inr "ranges", .ref rg)]) (Ne.symm pdn)
  have lsh8 := lsh7.oth (o := .dK [((.inr "nodes" : Key), V.ref n), (.inr "shown", .ref sh), (.inr "ranges", .ref rg)]) (Ne.symm pdsh)
  have lrg8 := lrg7.oth (o := .dK [((.inr "nodes" : Key), V.ref n), (.inr "shown", .ref sh), (.inr "ranges", .ref rg)]) (Ne.symm pdrg)
  generalize upd H7 pd (.dK [((.inr "nodes" : Key), V.ref n), (.inr "shown", .ref sh), (.inr "ranges", .ref rg)]) = H8 at o8 z8 c8 lc8 lsh8 lrg8 ⊢
  refine cons_lst1 ?_
  refine (ev_op ev_str (ev_var (i := 2) rfl) (od_addS (by have h1 := (fine_len (hfT _ (pick_mem hne s)).1).2; have : ("view " : Str).length = 5 := (by decide +kernel); omega)) : Ev K [p] _ [fdD (fdT s (T.length + 2))] _ (.dat (.str ("view " ++ (pickT T s).1))) _) B3 H8 σ1 o8 _ fun w9 B9 H9 s9 o9 r9 => ?_
  refine ⟨le_line (by simp), fun pr hpr9 => ?_⟩
  have z9 := z8.trans s9
  have hpr1 : H1 pr = none := free0P z9 hpr9
  have s10 : Stp [] B9 H9 B9 (upd H9 pr (.lst [w9])) := stp_upd (Stp.refl _ _ _) hpr9
  have o10 := o9.step0 s10 (ex_upd o9.ex (o9.ex.free hpr9))
  have s810 := s9.trans s10.ofNil
  have lpr10 : LC K B9 (upd H9 pr (.lst [w9])) pr [.str ("view " ++ (pickT T s).1)] := ⟨[w9], upd_same, o9.ex.free hpr9, .cons r9 .nil⟩
  have np : ∀ a, H1 a = none → a ∉ [p] := fun a ha z => by
    rw [List.mem_singleton.mp z] at ha
    obtain ⟨u, hu, _⟩ := o1.mu.mem (List.mem_singleton_self p)
    rw [hu] at ha; cases ha
  have lc10 := lc8.step s810 (np n hn1)
  have lsh10 := lsh8.step s810 (np sh hsh1)
  have lrg10 := lrg8.step s810 (np rg hrg1)
  have c10 := s810.fr _ _ (np pd hpd) c8
  have b10 : B9 pd = none := by rw [s9.nb _ _ c8]; exact bpd
  have z10 := z8.trans s810
  have ne9 : ∀ a u, H8 a = some u → a ≠ pr := fun a u h z => by
    obtain ⟨u', h'⟩ := s9.dm a u h
    rw [z, hpr9] at h'; cases h'
  have npr : n ≠ pr := by obtain ⟨_, h, _⟩ := lc8; exact ne9 _ _ h
  have shpr : sh ≠ pr := by obtain ⟨_, h, _⟩ := lsh8; exact ne9 _ _ h
  have rgpr : rg ≠ pr := by obtain ⟨_, h, _⟩ := lrg8; exact ne9 _ _ h
  generalize upd H9 pr (.lst [w9]) = H10 at s10 o10 s810 lpr10 lc10 lsh10 lrg10 c10 z10 ⊢
  have wo : WObj K B9 H10 pd n sh rg pr (V0 (pickT T s).1) := ⟨c10, b10, lc10, lsh10, lrg10, lpr10, nsh, nrg, npr, shrg, shpr, rgpr⟩
  refine ⟨.ref pd, .ref pr, rfl, ?_⟩
  dsimp only []
  have o11 : Okk K [p] [.val (.ref p), .dat (encTs T), .dat (.str (pickT T s).1), .val (.ref pd), .val (.ref pr)] [fdD (fdT s (T.length + 2))] B9 H10 ((σ1.set 3 (some (.ref pd))).set 4 (some (.ref pr))) := ⟨o10.ex, (o10.sl.set (i := 3) (v := .ref pd) (r := .val (.ref pd)) rfl).set (i := 4) (v := .ref pr) (r := .val (.ref pr)) rfl, o10.mu⟩
  generalize (σ1.set 3 (some (V.ref pd))).set 4 (some (V.ref pr)) = σ2 at o11
  refine st_seq ?_
  obtain ⟨u0, k0, e0⟩ := o11.sl.get 0 (.val (.ref p)) rfl (by intro z; cases z)
  cases (show u0 = .ref p from e0)
  obtain ⟨u1, k1, r1⟩ := o11.sl.get 1 (.dat (encTs T)) rfl (by intro z; cases z)
  have r1 : Rp K B9 u1 (encTs T) := r1
  obtain ⟨u3, k3, e3⟩ := o11.sl.get 3 (.val (.ref pd)) rfl (by intro z; cases z)
  cases (show u3 = .ref pd from e3)
  obtain ⟨u4, k4, e4⟩ := o11.sl.get 4 (.val (.ref pr)) rfl (by intro z; cases z)
  cases (show u4 = .ref pr from e4)
  have hm := pick_mem hne s
  obtain ⟨nk0, ni0⟩ := root_ok (T := T) (List.mem_map.mpr ⟨_, hm, rfl⟩)
  have vf := view_facts hT hX hfT hcn hne s
  refine ⟨.ref p, k0, u1, k1, .ref pd, k3, .ref pr, k4, ?_⟩
  refine ⟨B9, p, fdT s (T.length + 2), pd, n, sh, rg, pr, V0 (pickT T s).1, T, u1, 0, 1, rfl, o11.ex, o11.mu, r1, wo, ?_, hT, hX, nk0, ni0, by show 0 < 1; omega, by show 5 ≤ 1 + 4; omega, by omega, fun B12 H12 s12 e12 mu12 x12 => ?_⟩
  · simp only [List.mem_cons, List.not_mem_nil, or_false, not_or]
    exact ⟨hpp, fun z => np n hn1 (by simp [z]), fun z => np sh hsh1 (by simp [z]), fun z => np rg hrg1 (by simp [z]), fun z => np pr hpr1 (by simp [z])⟩
  have z12 : Stp [p] B1 H1 B12 H12 := stp_newP z10 s12 (fun q hq => by
    simp only [List.mem_cons, List.not_mem_nil, or_false] at hq
    rcases hq with rfl | rfl | rfl | rfl | rfl
    · exact .inl (by simp)
    · exact .inr hn1
    · exact .inr hsh1
    · exact .inr hrg1
    · exact .inr hpr1)
  have o12 : Okk K [p] [.val (.ref p), .dat (encTs T), .dat (.str (pickT T s).1), .val (.ref pd), .val (.ref pr)] [fdD (viewF T s).1] B12 H12 σ2 := ⟨e12, o11.sl.mono s12.ex, mu12⟩
  have x12 : WObj K B12 H12 pd n sh rg pr (viewF T s).2 := x12
  generalize hV : (viewF T s).2 = Vw at x12 vf
  dsimp only []
  -- the lists are told
  obtain ⟨vn, an, bn, rn⟩ := x12.nl
  obtain ⟨vs, as', bs, rsh⟩ := x12.sl
  obtain ⟨vr, ar, br, rr⟩ := x12.rl
  obtain ⟨vo, ao, bo, ro⟩ := x12.ro
  have o13 := okk_pub o12 bo ao (np pr hpr1)
  have z13 := stp_pubP z12 (a := pr) (o := .lst vo) bo hpr1
  have o14 := okk_pub o13 (a := n) (by rw [upd_ne npr]; exact bn) an (np n hn1)
  have z14 := stp_pubP z13 (a := n) (o := .lst vn) (by rw [upd_ne npr]; exact bn) hn1
  have o15 := okk_pub o14 (a := sh) (by rw [upd_ne (Ne.symm nsh), upd_ne shpr]; exact bs) as' (np sh hsh1)
  have z15 := stp_pubP z14 (a := sh) (o := .lst vs) (by rw [upd_ne (Ne.symm nsh), upd_ne shpr]; exact bs) hsh1
  have o16 := okk_pub o15 (a := rg) (by rw [upd_ne (Ne.symm shrg), upd_ne (Ne.symm nrg), upd_ne rgpr]; exact br) ar (np rg hrg1)
  have z16 := stp_pubP z15 (a := rg) (o := .lst vr) (by rw [upd_ne (Ne.symm shrg), upd_ne (Ne.symm nrg), upd_ne rgpr]; exact br) hrg1
  obtain ⟨np1, np2, np3, np4⟩ := x12.np
  have b16 : upd (upd (upd (upd B12 pr (.lst vo)) n (.lst vn)) sh (.lst vs)) rg (.lst vr) pd = none := by rw [upd_ne np3, upd_ne np2, upd_ne np1, upd_ne np4]; exact x12.nod
  have ex16 : Ex B12 (upd (upd (upd (upd B12 pr (.lst vo)) n (.lst vn)) sh (.lst vs)) rg (.lst vr)) := Ex.trans (Ex.new bo) (Ex.trans (Ex.new (by rw [upd_ne npr]; exact bn)) (Ex.trans (Ex.new (by rw [upd_ne (Ne.symm nsh), upd_ne shpr]; exact bs)) (Ex.new (by rw [upd_ne (Ne.symm shrg), upd_ne (Ne.symm nrg), upd_ne rgpr]; exact br))))
  have pn : Rp K (upd (upd (upd (upd B12 pr (.lst vo)) n (.lst vn)) sh (.lst vs)) rg (.lst vr)) (.ref n) (.lst (Vw.nodes.map nodeD)) := .lst (by rw [upd_ne nrg, upd_ne nsh, upd_same]) (rn.mono ex16)
  have psh : Rp K (upd (upd (upd (upd B12 pr (.lst vo)) n (.lst vn)) sh (.lst vs)) rg (.lst vr)) (.ref sh) (.lst (Vw.shown.map shownD)) := .lst (by rw [upd_ne shrg, upd_same]) (rsh.mono ex16)
  have prg : Rp K (upd (upd (upd (upd B12 pr (.lst vo)) n (.lst vn)) sh (.lst vs)) rg (.lst vr)) (.ref rg) (.lst (Vw.ranges.map rangeMD)) := .lst upd_same (rr.mono ex16)
  have ppr : Rp K (upd (upd (upd (upd B12 pr (.lst vo)) n (.lst vn)) sh (.lst vs)) rg (.lst vr)) (.ref pr) (.lst (Vw.rows.map D.str)) := .lst (by rw [upd_ne (Ne.symm rgpr), upd_ne (Ne.symm shpr), upd_ne (Ne.symm npr), upd_same]) (ro.mono ex16)
  have c12 := x12.dct
  generalize upd (upd (upd (upd B12 pr (.lst vo)) n (.lst vn)) sh (.lst vs)) rg (.lst vr) = B16 at o16 z16 b16 pn psh prg ppr
  have o16 : Okk K [p] [.val (.ref p), .dat (encTs T), .dat (.str (pickT T s).1), .val (.ref pd), .dat (.lst (Vw.rows.map D.str))] [fdD (viewF T s).1] B16 H12 σ2 := ⟨o16.ex, slots_dat o16.sl (i := 4) rfl ppr, o16.mu⟩
  refine st_seq ?_
  refine (ev_join (a := "\n") ev_str (ev_var (i := 4) rfl) (by have := sum_rows vf.gd; have := vf.rl; have : ("\n" : Str).length = 1 := (by decide +kernel); rw [this]; omega) : Ev K [p] _ [fdD (viewF T s).1] _ (.dat (.str (textV Vw))) _) B16 H12 σ2 o16 _ fun v17 B17 H17 s17 o17 r17 => ?_
  have c17 := s17.fr _ _ (np pd hpd) c12
  have b17 : B17 pd = none := by rw [s17.nb _ _ c12]; exact b16
  refine ⟨.ref pd, k3, ?_⟩
  refine ⟨pd, _, rfl, DPut.k (k := .inr "text") (v := v17) c17 (lt_line (by simp)), ?_⟩
  rw [putK_new v17 (by rfl)]
  have z17 := z16.trans s17
  have z18 := stp_pubP (a := pd) (o := .dK [((.inr "nodes" : Key), V.ref n), (.inr "shown", .ref sh), (.inr "ranges", .ref rg), (.inr "text", v17)]) (stp_updP (o := .dK [((.inr "nodes" : Key), V.ref n), (.inr "shown", .ref sh), (.inr "ranges", .ref rg), (.inr "text", v17)]) z17 hpd) b17 hpd
  have o18 := okk_pub (okk_upd (o := .dK [((.inr "nodes" : Key), V.ref n), (.inr "shown", .ref sh), (.inr "ranges", .ref rg), (.inr "text", v17)]) o17 b17 (np pd hpd)) (a := pd) b17 upd_same (np pd hpd)
  have ex18 : Ex B16 (upd B17 pd (.dK [((.inr "nodes" : Key), V.ref n), (.inr "shown", .ref sh), (.inr "ranges", .ref rg), (.inr "text", v17)])) := s17.ex.trans (Ex.new b17)
  have ppd : Rp K (upd B17 pd (.dK [((.inr "nodes" : Key), V.ref n), (.inr "shown", .ref sh), (.inr "ranges", .ref rg), (.inr "text", v17)])) (.ref pd) (wvD Vw) := .dic upd_same (.cons (pn.mono ex18) (.cons (psh.mono ex18) (.cons (prg.mono ex18) (.cons ((show Rp K B17 v17 (.str (textV Vw)) from r17).mono (Ex.new b17)) .nil))))
  have o19 : Okk K [p] [.val (.ref p), .dat (encTs T), .dat (.str (pickT T s).1), .dat (wvD Vw), .dat (.lst (Vw.rows.map D.str))] [fdD (viewF T s).1] _ _ σ2 := ⟨o18.ex, slots_dat o18.sl (i := 3) rfl ppd, o18.mu⟩
  rw [hV] at hd
  exact st_ret (⟨_, s1.trans z18, o19⟩ : Sta K [p] B0 H0 _ _ σ2 _) (ev_var (i := 3) rfl) hd
end
end T3
namespace SP
open PySem L2 DV PM LK RG
variable {K : PySem.W.Frag}
def iOr (a b : TI) : TI := fun σ H R => a σ H R ∨ b σ H R
theorem pi_or {X : Cx} {tg e : Expr} {a b : TI} (ha : PI X tg e a) (hb : PI X tg e b) : PI X tg e (iOr a b) := ⟨fun pins s σ H R I h => h.elim (ha.run pins s σ H R I) (hb.run pins s σ H R I)⟩
section
variable {P : List Addr} {ss : List Sl} {cs cs1 : List (List D)} {a b : TI} {ds : List D}
theorem wd_orL (h : WD K P ss cs a ds cs1) : WD K P ss cs (iOr a b) ds cs1 := fun B H σ o R q => .inl (h B H σ o R q)
theorem wd_orR (h : WD K P ss cs b ds cs1) : WD K P ss cs (iOr a b) ds cs1 := fun B H σ o R q => .inr (h B H σ o R q)
end
def encP (q : Str × Row) : D := .tup [.str q.1, rowD q.2]
def emptyF (T : List Tab) : Rs := T.map fun t => (t.1, [])
def fillF (T : List Tab) (pairs : List (Str × Row)) : Rs := pairs.foldl (fun R q => stepCh R (.ins q.1 q.2)) (emptyF T)
/-- the empty tuple of the program's text -/
def KTup0 (K : PySem.W.Frag) (v : V) : Prop := ∃ (a : Addr) (o : Obj) (n : Nat), v = .ref a ∧ K.lookup a = some o ∧ o.cls = .type "tuple" ∧ o.data = .seq #[] n
theorem wd_tup0 {K : PySem.W.Frag} {P : List Addr} {ss : List Sl} {cs : List (List D)} {te : TE} {v : V} (k : KTup0 K v) (h : Ev K P ss cs te (.val v) cs) : WD K P ss cs (iTup K te) [] cs := fun B H σ o R q =>
  h B H σ o _ fun v' B1 H1 s1 o1 v1 => by
    have e : v' = v := v1
    subst e
    obtain ⟨a, ob, n, rfl, h1, h2, h3⟩ := k
    have z : ∀ H, SqT K H a [] := fun H => .inr ⟨ob, #[], n, h1, h2, h3, Nat.zero_le _, .nil⟩
    refine ⟨_, rfl, ⟨[], z _⟩, q _ B1 H1 s1 o1 fun i B2 H2 e1 e2 => ⟨fun d hd => ?_, fun _ => ⟨[], z _, Nat.zero_le _⟩⟩⟩
    simp at hd
theorem _root_.L2.FunD.okN {P : Program} {w : World} {K : PySem.W.Frag} {mg : Str → Option Value} {base : Heap} {x qual : Str} {params : Arguments} {body : List Stmt} {scope : Scope} {dvs : List V} {kws : List (Str × V)} {f : Addr} {fd : FuncData} {N ps : List Str} {k : Nat} {sp : Sp} (F : FunD K x qual params body scope dvs kws f fd) (S : FnScope N ps scope) (len : ∀ vs H Q E, sp vs H Q E → vs.length = ps.length)
    (hbody : ∀ (cdv : Value) (A : Around) (outer : List Env) (s : Shared) (H : Hp) (vs : List V) (Q : VK) (E : XK), Room k (A.deeper (PyProof.Rows.envOfC qual scope s.heap.objs.size f cdv)) → sp vs H Q E →
      ∃ t, PSs (cxOf CX0 P w K mg base N qual scope f cdv A outer s H E).nox body t ∧ t { nx := fun _ H' => Q .non H', rt := Q } (start N vs) H) : FnOk P w K mg base CX0 (k + 1) f fd ps sp :=
  F.ok S len fun cdv A outer s H vs Q E hr hsp => by
    obtain ⟨t, h, q⟩ := hbody cdv A outer s H vs Q E hr hsp
    exact ⟨t, h.nox, q⟩
def spBInit (K : PySem.W.Frag) (CB C : Addr) : Sp := fun vs H Q _ => ∃ p dx T v0 vr pairs B0 H0, vs = [.ref p, v0, vr] ∧ H = upd (upd H0 dx (.own p)) p (.ins CB dx []) ∧ H0 p = none ∧ H0 dx = none ∧ dx ≠ p ∧ Ex B0 H0 ∧ Rp K B0 v0 (schD C T) ∧ (Rp K B0 vr (.lst (List.map encP pairs)) ∨ Rp K B0 vr (.tup (List.map encP pairs)) ∨ (pairs = [] ∧ KTup0 K vr)) ∧ schOk T ∧
  (∀ q ∈ pairs, chOk T (.ins q.1 q.2)) ∧ pairs.length ≤ 900 ∧ ∀ t as B' H', Stp [] B0 H0 B' H' → Ex B' H' → BaseAt K B' H' p dx t as CB C v0 T (fillF T pairs) → (∀ a ∈ t :: as, H0 a = none) → Q .non H'
theorem stp_fresh {PS : List Addr} {B0 H0 B H B' H' : Hp} (s0 : Stp [] B0 H0 B H) (s : Stp PS B H B' H') (f : ∀ a ∈ PS, H0 a = none) : Stp [] B0 H0 B' H' where
  ex := s0.ex.trans s.ex
  fr b o _ h := s.fr b o (fun z => by rw [f b z] at h; cases h) (s0.fr b o (by simp) h)
  nb b o h := by
    obtain ⟨o', h'⟩ := s0.dm b o h
    rw [s.nb b o' h', s0.nb b o h]
  dm b o h := let ⟨o', h'⟩ := s0.dm b o h; s.dm b o' h'
/-- {table: {} for table in names}: new dicts -/
theorem dc_new {ss : List Sl} {It : It} {B1 H1 : Hp} {σ : L2.St} {Q : VK} {T : List Tab} {vs : List Nat} {i3 : Nat} (o1 : Okk K [] ss [] B1 H1 σ) (wk : Walks K B1 It (T.map fun t => D.str t.1)) (nd : (T.map (·.1)).Nodup) (hz : T.length ≤ 1000) (h3 : i3 ∈ vs) (h3' : i3 < (wipeS ss vs).length)
    (q : ∀ t as B' H', Stp [] B1 H1 B' H' → Okk K [] ss [] B' H' σ → Tabs K B' H' t as (emptyF T) → (∀ a ∈ t :: as, H1 a = none) → Q (.ref t) H') :
    ∀ Dp, H1 Dp = none → ∃ W : Nat → Nat → Hp → Prop, (∃ m, W 0 m (upd H1 Dp (.dK []))) ∧ ∀ i m H, W i m H →
      (It.stop i H ∧ Q (.ref Dp) H) ∨ (It.go i H ∧ ∃ Nx : Hp → Prop, (∀ H', Nx H' → ∃ m', m' < m ∧ W (i + 1) m' H') ∧ ∀ x H', It.yld i H x H' → gName i3 x (wipe σ vs) H' fun σ2 H2 => wipe σ2 vs = wipe σ vs ∧ tYes σ2 H2 fun b H3 =>
        if b = true then tVar i3 σ2 H3 fun y H4 => tDNewK σ2 H4 fun z H5 => ∃ kvs k, y = kV k ∧ H5 Dp = some (.dK kvs) ∧ kvs.length < sizeLine ∧ Nx (upd H5 Dp (.dK (putK kvs k z))) else Nx H3) := by
  intro Dp hDp
  have hB1 : B1 Dp = none := o1.ex.free hDp
  let ent : List Addr → Nat → List (Key × V) := fun as i => List.zipWith (fun (t : Tab) a => ((Sum.inr t.1 : Key), V.ref a)) (T.take i) as
  let I : Nat → Hp → Prop := fun i H' => ∃ B' as, Stp [] B1 H1 B' H' ∧ Okk K [] ss [] B' H' σ ∧ as.length = i ∧ H' Dp = some (.dK (ent as i)) ∧ B' Dp = none ∧ (Dp :: as).Nodup ∧ ∀ a ∈ as, H' a = some (.dK []) ∧ B' a = none ∧ H1 a = none
  have i0 : I 0 (upd H1 Dp (.dK [])) :=
    ⟨B1, [], ⟨Ex.refl _, fun b u n e => Ex.new hDp b u e, fun _ _ _ => rfl, fun b u e => ⟨u, Ex.new hDp b u e⟩⟩, ⟨fun b u e => Ex.new hDp b u (o1.ex b u e), o1.sl, True.intro⟩, rfl, upd_same, hB1, by simp, fun a h => by cases h⟩
  refine ⟨fun i m H' => m = T.length - i ∧ i ≤ T.length ∧ I i H', ⟨T.length, by simp, Nat.zero_le _, i0⟩, ?_⟩
  rintro i m H' ⟨rfl, hi, B2, as, s2, o2, hla, hd2, hb2, hnd, has⟩
  obtain ⟨w1, w2⟩ := wk i B2 H' s2.ex o2.ex
  by_cases hlt : i < T.length
  · have hx : T[i]? = some T[i] := List.getElem?_eq_getElem hlt
    generalize T[i] = x at hx
    obtain ⟨go, yl⟩ := w1 (.str x.1) (by rw [List.getElem?_map, hx]; rfl)
    refine .inr ⟨go, I (i + 1), fun H3 q => ⟨T.length - (i + 1), by omega, rfl, hlt, q⟩, fun y H3 hy => ?_⟩
    obtain ⟨B3, s3, e3, x3⟩ := yl y H3 hy
    cases (show Rp K B3 y (.str x.1) from x3)
    have o3 := o2.step0 s3 e3
    refine ⟨(Only.set (wipe σ vs) i3 _).wipe (fun k hk => by rw [List.mem_singleton.mp hk]; exact h3), ?_⟩
    unfold tYes
    dsimp only []
    rw [if_pos rfl]
    have hlen : i3 < (wipe σ vs).length := by rw [(o3.sl.wipe vs).len]; exact h3'
    refine ⟨.str x.1, by rw [List.getElem?_set, if_pos rfl, if_pos hlen], fun a0 ha0 => ?_⟩
    have hd3 : H3 Dp = some (.dK (ent as i)) := s3.fr _ _ (by simp) hd2
    have ne0 : Dp ≠ a0 := fun z => by rw [← z, hd3] at ha0; cases ha0
    have h10 : H1 a0 = none := by
      cases e : H1 a0 with
      | none => rfl
      | some u =>
        obtain ⟨u', h'⟩ := (s2.trans s3).dm a0 u e
        rw [ha0] at h'; cases h'
    have hb30 : B3 a0 = none := e3.free ha0
    have hb3D : B3 Dp = none := by rw [s3.nb _ _ hd2]; exact hb2
    have n0 : a0 ∉ as := fun z => by
      have := s3.fr _ _ (by simp) (has a0 z).1
      rw [ha0] at this; cases this
    have hel : (ent as i).length = i := by
      show (List.zipWith _ (T.take i) as).length = i
      rw [List.length_zipWith, List.length_take, hla]; omega
    have hnew : valV (ent as i) (Sum.inr x.1 : Key) = none := by
      cases hv : valV (ent as i) (Sum.inr x.1 : Key) with
      | none => rfl
      | some w =>
        exfalso
        unfold valV at hv
        cases hf : (ent as i).find? (fun kv => decide (kv.1 = (Sum.inr x.1 : Key))) with
        | none => rw [hf] at hv; cases hv
        | some p =>
          have hp := List.mem_of_find?_eq_some hf
          have he := List.find?_some hf
          obtain ⟨j, hj, ej⟩ := List.getElem_of_mem hp
          have hj' : j < i := by rw [hel] at hj; exact hj
          have hjT : j < T.length := by omega
          have e1 : p.1 = (Sum.inr (T[j]).1 : Key) := by
            rw [← ej]
            simp [ent]
          rw [e1] at he
          have e2 : (T[j]).1 = x.1 := Sum.inr.inj (of_decide_eq_true he)
          obtain ⟨hiT, ex⟩ := List.getElem?_eq_some_iff.mp hx
          have := nodup_at nd (i := j) (j := i) (by rw [List.length_map]; exact hjT) (by rw [List.length_map]; exact hiT) (by rw [List.getElem_map, List.getElem_map, e2, ex])
          omega
    refine ⟨ent as i, .inr x.1, rfl, by rw [upd_ne ne0]; exact hd3, lt_line (by omega), ?_⟩
    rw [L2.putK_new _ hnew]
    have s3' : Stp [] B1 H1 B3 (upd (upd H3 a0 (.dK [])) Dp (.dK (ent as i ++ [(Sum.inr x.1, .ref a0)]))) := by
      have s := s2.trans s3
      refine ⟨s.ex, fun b u n e => ?_, s.nb, fun b u e => ?_⟩
      · rw [upd_ne (fun z => by rw [z, hDp] at e; cases e), upd_ne (fun z => by rw [z, h10] at e; cases e)]
        exact s.fr b u n e
      · rw [upd_ne (fun z => by rw [z, hDp] at e; cases e), upd_ne (fun z => by rw [z, h10] at e; cases e)]
        exact s.dm b u e
    refine ⟨B3, as ++ [a0], s3', ⟨fun b u e => ?_, o3.sl, True.intro⟩, by rw [List.length_append, hla]; rfl, ?_, hb3D, ?_, fun a ha => ?_⟩
    · rw [upd_ne (fun z => by rw [z, hb3D] at e; cases e), upd_ne (fun z => by rw [z, hb30] at e; cases e)]
      exact e3 b u e
    · rw [upd_same]
      congr 2
      show ent as i ++ _ = List.zipWith _ (T.take (i + 1)) (as ++ [a0])
      rw [List.take_add_one, hx, List.zipWith_append (by rw [List.length_take, hla]; omega)]
      rfl
    · have h1 := List.nodup_cons.mp hnd
      rw [List.nodup_cons]
      refine ⟨fun h => ?_, ?_⟩
      · rcases List.mem_append.mp h with h | h
        · exact h1.1 h
        · exact ne0 (List.mem_singleton.mp h)
      · rw [List.nodup_append]
        exact ⟨h1.2, by simp, fun a ha b hb => by rw [List.mem_singleton.mp hb]; exact fun z => n0 (z ▸ ha)⟩
    · rcases List.mem_append.mp ha with ha | ha
      · obtain ⟨c1, c2, c3⟩ := has a ha
        have na : a ≠ a0 := fun z => n0 (z ▸ ha)
        have nD : a ≠ Dp := fun z => (List.nodup_cons.mp hnd).1 (z ▸ ha)
        exact ⟨by rw [upd_ne nD, upd_ne na]; exact s3.fr _ _ (by simp) c1, by rw [s3.nb _ _ c1]; exact c2, c3⟩
      · rw [List.mem_singleton.mp ha]
        exact ⟨by rw [upd_ne (Ne.symm ne0)]; exact upd_same, hb30, h10⟩
  · have e : i = T.length := by omega
    subst e
    refine .inl ⟨w2 (by rw [List.length_map]; exact Nat.le_refl _), q Dp as B2 H' s2 o2 ⟨by rw [hla]; simp [emptyF], ?_, fun j a r ha hr => ?_, hnd, fun a ha => ?_⟩ (fun a ha => ?_)⟩
    · rw [hd2]
      show some (HO.dK (List.zipWith _ (T.take T.length) as)) = _
      rw [List.take_length]
      unfold emptyF
      rw [List.zipWith_map_left]
    · refine ⟨[], (has a (List.mem_of_getElem? ha)).1, ?_⟩
      unfold emptyF at hr
      rw [List.getElem?_map] at hr
      cases hj : T[j]? with
      | none => rw [hj] at hr; cases hr
      | some t =>
        rw [hj] at hr
        have e : (t.1, ([] : List (Int × Row))) = r := Option.some.inj hr
        subst e
        exact .nil
    · rcases List.mem_cons.mp ha with rfl | ha
      · exact hb2
      · exact (has a ha).2.1
    · rcases List.mem_cons.mp ha with rfl | ha
      · exact hDp
      · exact (has a ha).2.2
theorem ed_new {ss : List Sl} {wi : TI} {B H : Hp} {σ : L2.St} {Q : VK} {T : List Tab} {vs : List Nat} {i3 : Nat} (o : Okk K [] ss [] B H σ) (hw : WD K [] ss [] wi (T.map fun t => D.str t.1) []) (nd : (T.map (·.1)).Nodup) (hz : T.length ≤ 1000) (h3 : i3 ∈ vs) (h3' : i3 < (wipeS ss vs).length)
    (q : ∀ t as B' H', Stp [] B H B' H' → Okk K [] ss [] B' H' σ → Tabs K B' H' t as (emptyF T) → (∀ a ∈ t :: as, H a = none) → Q (.ref t) H') : tDc wi (gName i3) tYes (tVar i3) tDNewK vs σ H Q :=
  hw B H σ o _ fun It B1 H1 s1 o1 wk => dc_new o1 wk nd hz h3 h3' fun t as B2 H2 s2 o2 tb fr => q t as B2 H2 (s1.trans s2) o2 tb fun a ha => by
    cases e : H a with
    | none => rfl
    | some u =>
      obtain ⟨u', h'⟩ := s1.dm a u e
      rw [fr a ha] at h'; cases h'
end SP
namespace T3
open PySem L2 DV PM SP LK
section
variable {P : Program} {w : World} {K : PySem.W.Frag} {mg : Str → Option Value} {base : Heap} {C CB : Addr}
end
end T3
namespace SP
open PySem L2 DV PM LK RG
variable {K : PySem.W.Frag}
theorem room2 {n : Nat} {A : Around} (h : Room (n + 2) A) : A.in1.in1.units + 64 < cLine := (h.in1.in1).units
/-- an instance of the class Base, for isinstance *-/
structure BaseIs (K : PySem.W.Frag) (C : Addr) : Prop where
  cl : Cls K C
  ha : PySem.W.findIn K (.ref C) "__class__" = some (some (.builtin "object.__class__"))
  hn : PySem.W.specialIn K (.builtin "object.__class__") "__get__" = some (some (.builtin "getset_descriptor.__get__"))
  htk : PySem.W.takesIn K (.builtin "object.__class__") = some true
  hm : PySem.W.mroIn K C (.type "object") = some true
  hk : PySem.W.kitOne K (.ref C) (.ref C) = some true
theorem cb_isB {C : Addr} {fs : List (Str × D)} (c : BaseIs K C) : CbD K (rIsi K) [.dat (.obj C fs), .val (.ref C)] (.dat (.bl true)) := fun B H vs e h Q q => by
  obtain ⟨v, v', rfl, h1, h2⟩ := rs2 h
  have a' : Rp K B v (.obj C fs) := h1
  cases a' with
  | @obj a _ dx fvs _ h5 rf => exact ⟨_, v', .ref C, .ref C, true, rfl, by rw [show v' = V.ref C from h2]; exact .own _, .base (.ins (e _ _ h5) c.cl c.ha c.hn c.htk c.hm), c.hk, q _ B H (Stp.refl _ _ _) e (.bl _)⟩
def preBEq (CB C : Addr) : Pre := fun rs Pl cs r cs' => ∃ T R U R', rs = [.dat (baseD CB C T R), .dat (baseD CB C U R')] ∧ tabsOk T ∧ tabsOk U ∧ (R.map (·.1)).Nodup ∧ (∀ t ∈ R, (t.2.map (·.1)).Nodup) ∧ Pl = [] ∧ cs = [] ∧ r = .dat (.bl (true && (decide (rowsOf T = rowsOf U) && eqTab R R'))) ∧ cs' = []
end SP
namespace T3
open PySem L2 DV PM SP LK
section
variable {P : Program} {w : World} {K : PySem.W.Frag} {mg : Str → Option Value} {base : Heap} {C CB : Addr}
end
end T3
/-! V9: contents of a view. -/
namespace SP
open PySem L2 DV PM RG
variable {K : PySem.W.Frag}
def preVParse (CV C : Addr) : Pre := fun rs Pl cs r cs' => ∃ x T M, rs = [.val (.ref CV), .dat (schD C T), .dat (.str x)] ∧ TOk T ∧ VText T x M ∧ Pl = [] ∧ cs = [] ∧ r = .dat (viewD CV C T M x) ∧ cs' = []
theorem ev_makeV {P : List Addr} {ss : List Sl} {cs cs1 : List (List D)} {ta : TA} {i : Nat} {CV C : Addr} {T : List Tab} {x : Str} {M : PtM} (hi : ss[i]? = some (.val (.ref CV))) (ha : EvA K P ss cs ta [.dat (schD C T), .dat (.str x)] cs1) (hT : TOk T) (hv : VText T x M) : Ev K P ss cs (tMakeL i CV (spVInit K CV C) ta) (.dat (viewD CV C T M x)) cs1 := fun B H σ o Q q => by
  obtain ⟨w, hw, ew⟩ := o.sl.get i _ hi (by intro z; cases z)
  cases (show w = V.ref CV from ew)
  refine ⟨hw, ha B H σ o _ fun vs B1 H1 s1 o1 r1 => ?_⟩
  obtain ⟨v, v', rfl, h1, h2⟩ := rs2 r1
  cases (show Rp K B1 v' (.str x) from h2)
  intro p dx hx hdx hne
  exact ⟨p, dx, T, v, x, M, B1, H1, rfl, rfl, hx, hdx, hne, o1.ex, h1, hT, hv, fun B' H' s' e' r' => ⟨rfl, q (.ref p) B' H' (s1.trans s'.ofNil) (o1.step0 s' e') r'⟩⟩
/-! what contents are -/
def inEnds (v : Int) (lo hi : Option Int) : Bool := ((optI lo).isN || (match lo with | none => true | some l => decide (l ≤ v))) && ((optI hi).isN || (match hi with | none => true | some h => decide (v ≤ h)))
def preIn : Pre := fun rs Pl cs r cs' => ∃ v lo hi, rs = [.dat (.int v), .dat (optI lo), .dat (optI hi)] ∧ Pl = [] ∧ cs = [] ∧ r = .dat (.bl (inEnds v lo hi)) ∧ cs' = []
def valAt (rows : List Row) (n p : Nat) : Int := (rows.getD n []).getD p 0
def toldF (T : List Tab) (M : PtM) (rows : List Row) : Option (List Int × List Int) := if (M.ranges.all fun q => inEnds (valAt rows q.1 (placeF T M q.1 q.2.1)) q.2.2.1 q.2.2.2) = true then some (rows.map (·.headD 0), M.shown.map fun q => valAt rows q.1 (placeF T M q.1 q.2)) else none
def toldD : Option (List Int × List Int) → D
  | none => .non
  | some q => .tup [.tup (q.1.map D.int), .tup (q.2.map D.int)]
/-- the rows have what the view reads -/
structure RowsIn (T : List Tab) (M : PtM) (rows : List Row) : Prop where
  rg : ∀ q ∈ M.ranges, ∃ row, rows[q.1]? = some row ∧ placeF T M q.1 q.2.1 < row.length
  sh : ∀ q ∈ M.shown, ∃ row, rows[q.1]? = some row ∧ placeF T M q.1 q.2 < row.length
  hd : ∀ row ∈ rows, row ≠ []
  sz : rows.length ≤ 1000
def preTold (CV C : Addr) : Pre := fun rs Pl cs r cs' => ∃ T M x rows, rs = [.dat (viewD CV C T M x), .dat (.tup (rows.map rowD))] ∧ RowsIn T M rows ∧ M.shown.length ≤ 1000 ∧ Pl = [] ∧ cs = [] ∧ r = .dat (toldD (toldF T M rows)) ∧ cs' = []
def rowAtF (R : Rs) (t : Str) (k : Int) : Option Row := ((R.lookup t).getD []).lookup k
def stepF (T : List Tab) (M : PtM) (R : Rs) (q : NodeM) (rs : List Row) : Option (List Row) := match q with
  | (none, _) => none
  | (some (p, r), t) => match rs[p]? with
    | none => none
    | some row => match row[placeF T M p r]? with
      | none => none
      | some v => (rowAtF R t v).map fun r' => rs ++ [r']
def stepsF (T : List Tab) (M : PtM) (R : Rs) : List NodeM → List Row → Option (List Row)
  | [], rs => some rs
  | q :: ns, rs => (stepF T M R q rs).bind (stepsF T M R ns)
def preChain (CV CB C : Addr) : Pre := fun rs Pl cs r cs' => ∃ T M x R k, rs = [.dat (viewD CV C T M x), .dat (baseD CB C T R), .dat (.int k)] ∧ 0 < M.nodes.length ∧ M.nodes.length ≤ 4 ∧ (∀ q ∈ M.nodes, q.2 ∈ R.map (·.1)) ∧ Pl = [] ∧ cs = [] ∧ cs' = [] ∧ ((rowAtF R (tabAt M 0) k = none ∧ r = .dat .non) ∨ ∃ r0 rows, rowAtF R (tabAt M 0) k = some r0 ∧ stepsF T M R (M.nodes.drop 1) [r0] = some rows ∧ r = .dat (.tup (rows.map rowD)))
theorem stepsF_snoc {T : List Tab} {M : PtM} {R : Rs} {q : NodeM} : ∀ {ns : List NodeM} {rs : List Row}, stepsF T M R (ns ++ [q]) rs = (stepsF T M R ns rs).bind (stepF T M R q)
  | [], rs => by
    show (stepF T M R q rs).bind (stepsF T M R []) = stepF T M R q rs
    cases stepF T M R q rs <;> rfl
  | a :: ns, rs => by
    show (stepF T M R a rs).bind (stepsF T M R (ns ++ [q])) = ((stepF T M R a rs).bind (stepsF T M R ns)).bind _
    cases e : stepF T M R a rs with
    | none => rfl
    | some M1 => exact stepsF_snoc
theorem stepsF_pre {T : List Tab} {M : PtM} {R : Rs} {ns : List NodeM} {r0 rows : List Row} (h : stepsF T M R ns r0 = some rows) {i : Nat} (hi : i < ns.length) : ∃ M1 M2, stepsF T M R (ns.take i) r0 = some M1 ∧ stepF T M R ns[i] M1 = some M2 ∧ stepsF T M R (ns.take (i + 1)) r0 = some M2 := by
  have key : ∀ n, n ≤ ns.length → (stepsF T M R (ns.take n) r0).isSome = true := by
    intro n hn
    induction hk : ns.length - n generalizing n with
    | zero => rw [List.take_of_length_le (by omega), h]; rfl
    | succ k ih =>
      have h1 := ih (n + 1) (by omega) (by omega)
      rw [List.take_add_one, List.getElem?_eq_getElem (by omega), show (some ns[n]).toList = [ns[n]] from rfl, stepsF_snoc] at h1
      cases e : stepsF T M R (ns.take n) r0 with
      | none => rw [e] at h1; cases h1
      | some _ => rfl
  obtain ⟨M1, h1⟩ := Option.isSome_iff_exists.mp (key i (by omega))
  obtain ⟨M2, h2⟩ := Option.isSome_iff_exists.mp (key (i + 1) hi)
  refine ⟨M1, M2, h1, ?_, h2⟩
  have h3 := h2
  rw [List.take_add_one, List.getElem?_eq_getElem hi, show (some ns[i]).toList = [ns[i]] from rfl, stepsF_snoc, h1] at h3
  exact h3
theorem look_noneB {α : Type} {a b : α} : List.lookup ("row_at" : Str) [(("schema" : Str), a), ("_tables", b)] = none := by
  simp only [List.lookup, show (("row_at" : Str) == "schema") = false by decide +kernel, show (("row_at" : Str) == "_tables") = false by decide +kernel]
theorem look_noneR {α : Type} {a b : α} : List.lookup ("rows" : Str) [(("schema" : Str), a), ("_tables", b)] = none := by
  simp only [List.lookup, show (("rows" : Str) == "schema") = false by decide +kernel, show (("rows" : Str) == "_tables") = false by decide +kernel]
/-! a view's fields -/
section
variable {P : List Addr} {ss : List Sl} {cs cs1 : List (List D)} {te : TE} {CV C : Addr} {T : List Tab} {M : PtM} {x : Str}
theorem lkv {α : Type} {m : Str} {v : α} : ∀ {l : List (Str × α)} {n : Nat}, l[n]? = some (m, v) → (∀ j, j < n → ∀ p, l[j]? = some p → (m == p.1) = false) → l.lookup m = some v
  | [], n, h, _ => by simp at h
  | (k, y) :: r, 0, h, _ => by
    cases h
    simp [List.lookup]
  | (k, y) :: r, n + 1, h, hn => by
    have h0 := hn 0 (by omega) (k, y) rfl
    simp only [List.lookup, h0]
    exact lkv (n := n) (by simpa using h) fun j hj p hp => hn (j + 1) (by omega) p (by simpa using hp)
theorem ev_vnodes (c : ViewCls K CV) (h : Ev K P ss cs te (.dat (viewD CV C T M x)) cs1) : Ev K P ss cs (tFld K te "nodes") (.dat (.tup (M.nodes.map nodeD))) cs1 := ev_fld h c.cl c.n2 (by simp only [List.lookup, show (("nodes" : Str) == "schema") = false by decide +kernel, show (("nodes" : Str) == "nodes") = true by decide +kernel])
theorem ev_vsteps (c : ViewCls K CV) (h : Ev K P ss cs te (.dat (viewD CV C T M x)) cs1) : Ev K P ss cs (tFld K te "steps") (.dat (.tup ((M.nodes.drop 1).map (stepD T M)))) cs1 := ev_fld h c.cl c.n6 (by simp only [List.lookup, show (("steps" : Str) == "schema") = false by decide +kernel, show (("steps" : Str) == "nodes") = false by decide +kernel, show (("steps" : Str) == "shown") = false by decide +kernel, show (("steps" : Str) == "ranges") = false by decide +kernel, show (("steps" : Str) == "_text") = false by decide +kernel, show (("steps" : Str) == "steps") = true by decide +kernel])
theorem ev_vlooks (c : ViewCls K CV) (h : Ev K P ss cs te (.dat (viewD CV C T M x)) cs1) : Ev K P ss cs (tFld K te "looks") (.dat (.tup (M.shown.map (lookDV T M)))) cs1 := ev_fld h c.cl c.n7 (by simp only [List.lookup, show (("looks" : Str) == "schema") = false by decide +kernel, show (("looks" : Str) == "nodes") = false by decide +kernel, show (("looks" : Str) == "shown") = false by decide +kernel, show (("looks" : Str) == "ranges") = false by decide +kernel, show (("looks" : Str) == "_text") = false by decide +kernel, show (("looks" : Str) == "steps") = false by decide +kernel, show (("looks" : Str) == "looks") = true by decide +kernel])
theorem ev_vtests (c : ViewCls K CV) (h : Ev K P ss cs te (.dat (viewD CV C T M x)) cs1) : Ev K P ss cs (tFld K te "tests") (.dat (.tup (M.ranges.map (testD T M)))) cs1 := ev_fld h c.cl c.n8 (by simp only [List.lookup, show (("tests" : Str) == "schema") = false by decide +kernel, show (("tests" : Str) == "nodes") = false by decide +kernel, show (("tests" : Str) == "shown") = false by decide +kernel, show (("tests" : Str) == "ranges") = false by decide +kernel, show (("tests" : Str) == "_text") = false by decide +kernel, show (("tests" : Str) == "steps") = false by decide +kernel, show (("tests" : Str) == "looks") = false by decide +kernel, show (("tests" : Str) == "tests") = true by decide +kernel])
/-- view.nodes[0][2] -/
theorem ev_vroot (c : ViewCls K CV) (h : Ev K P ss cs te (.dat (viewD CV C T M x)) cs1) (hn : 0 < M.nodes.length) : Ev K P ss cs (tOp (rIx K) (tOp (rIx K) (tFld K te "nodes") (tC (.int 0))) (tC (.int 2))) (.dat (.str (tabAt M 0))) cs1 := by
  obtain ⟨a, b, e⟩ := node_third M.nodes[0]
  refine ev_op (ev_op (ev_vnodes c h) (ev_int (i := 0)) (od_ixT (d := nodeD M.nodes[0]) (atI_nat (j := 0) (by rw [List.getElem?_map, List.getElem?_eq_getElem hn]; rfl)))) (ev_int (i := 2)) ?_
  rw [e]
  refine od_ixT ?_
  have : tabAt M 0 = M.nodes[0].2 := by unfold tabAt; rw [List.getD_eq_getElem?_getD, List.getElem?_eq_getElem hn]; rfl
  rw [this]
  exact atI_nat (j := 2) rfl
/-- rows[n][p] -/
theorem ev_val2 {te1 te2 : TE} {rows : List Row} {n p : Nat} {row : Row} (h : Ev K P ss cs te (.dat (.tup (rows.map rowD))) cs) (h1 : Ev K P ss cs te1 (.dat (.int (n : Nat))) cs) (h2 : Ev K P ss cs te2 (.dat (.int (p : Nat))) cs) (hn : rows[n]? = some row) (hp : p < row.length) : Ev K P ss cs (tOp (rIx K) (tOp (rIx K) te te1) te2) (.dat (.int (valAt rows n p))) cs := by
  refine ev_op (ev_op h h1 (od_ixT (d := rowD row) (atI_nat (by rw [List.getElem?_map, hn]; rfl)))) h2 ?_
  refine od_ixT (ds := row.map D.int) (atI_nat ?_)
  unfold valAt
  rw [List.getElem?_map, List.getD_eq_getElem?_getD, List.getD_eq_getElem?_getD, hn, Option.getD_some, List.getElem?_eq_getElem hp]
  rfl
end
end SP
namespace T3
open PySem L2 DV PM SP
abbrev s_View_parse : Stmt := inClass (topS 14) 1
abbrev N_View_parse : List Str := ["cls", "schema", "text"]
theorem sc_View_parse : FnScope N_View_parse ["cls", "schema", "text"] (defScope s_View_parse) := ⟨rfl, rfl, rfl, by decide +kernel, rfl, by decide +kernel, by decide +kernel⟩

section
variable {P : Program} {w : World} {K : PySem.W.Frag} {mg : Str → Option Value} {base : Heap} {C CB CV : Addr}
theorem ok_vparse {f fI : Addr} {fd fdI : FuncData} (F : Fun K "parse" "View.parse" s_View_parse f fd) (M_made : Mk K CV fI) (G_init : FnOk P w K mg base CX0 8 fI fdI ["self", "schema", "text"] (spVInit K CV C)) (B_init : Binds K fdI ["self", "schema", "text"] []) :
    FnOk P w K mg base CX0 10 f fd ["cls", "schema", "text"] (spM K (preVParse CV C)) := by
  refine ok_body F sc_View_parse (fun rs Pl cs r cs' h => ?_) (fun X hX hr => ?_)
  · obtain ⟨x, T, M, rfl, _⟩ := h
    rfl
  obtain ⟨cdv, A, outer, s, H, E, rfl⟩ := hX
  have nd := sc_View_parse.nd
  refine ⟨_, (pss_one (ps_ret (pe_makeL (i := 0) M_made G_init B_init hr (by rfl) (.inl rfl) (pa_cons (pv 1) (pa_cons (pv 2) pa_nil))))), ?_⟩
  intro rs Pl cs r cs' hp B0 H0 σ Dn st hP hd hn
  obtain ⟨x, T, M, rfl, hT, hv, rfl, rfl, rfl, rfl⟩ := hp
  exact st_ret st (ev_makeV (i := 0) rfl (ea_cons (ev_var (i := 1) rfl) (ea_cons (ev_var (i := 2) rfl) ea_nil)) hT hv) hd
end
end T3
/-! XT: InvalidText(row), made, raised, read (from the guide's skeleton of an own error). -/
namespace PySem
namespace BadX
open PySem.W PySem.Calls PyProof.Rows PySem.HandSPX
/-! ### the text of __init__ -/
def iA (p1 p2 : Pos) : Arguments := { posonlyargs := [], args := [{ arg := "self", annotation := none, pos := p1 }, { arg := "row", annotation := none, pos := p2 }], vararg := none, kwonlyargs := [], kw_defaults := [], kwarg := none, defaults := [] }
def iB (q1 q2 q3 q4 : Pos) : List Stmt := [.Assign [.Attribute (.Name "self" q1) "row" q2] (.Name "row" q3) q4]
def iS : Scope := { kind := .function, names := [(PySem.Str.ofString "self", .local), (PySem.Str.ofString "row", .local)], isGenerator := false, isCoroutine := false, more := [] }
/-- what the written part says of Low, at C, and of its __init__, at fI -/
structure BadTxt (K : Frag) (mg : Str → Option Value) (C fI : Addr) : Prop where
  gC : mg "InvalidText" = some (.ref C)
  cls : ∃ nm q N bs bm sn sub ab col dd k0 k1 k2 k3 k5, K.lookup C = some (excClassObj nm q C N bs bm true sn sub ab col dd k0 k1 k2 k3 k5 "ValueError.__new__") ∧ refsVE bm = true
  sa : findIn K (.ref C) "__setattr__" = some (some (.builtin "object.__setattr__"))
  ga : findIn K (.ref C) "__getattribute__" = some (some (.builtin "BaseException.__getattribute__"))
  gg : findIn K (.ref C) "__getattr__" = some none
  noN : findIn K (.ref C) "row" = some none
  iC : findIn K (.ref C) "__init__" = some (some (.ref fI))
  tC : typeIn K (.ref fI) = some (.type "function")
  kC : keepIn K (.ref C) = true
  exC : subIn K (.ref C) (.type "BaseException") = some true
  tyC : typeIn K (.ref C) = some (.type "type")
  hdC : hasDictIn K C = true
  te : exmOne K (.ref C) (.ref C) = some true
  fn : ∃ (oc : Value) (od : Option Addr) (doc pm : Value) (an : Option Addr) (cdv ct : Value) (osl : Array (Option Value)) (p1 p2 q1 q2 q3 q4 : Pos),
    K.lookup fI = some ⟨oc, od, .func (fnOf "__init__" "InvalidText.__init__" (iA p1 p2) (iB q1 q2 q3 q4) iS .none .none doc pm an cdv ct), osl⟩ ∧ codeIn K cdv "InvalidText.__init__" = true
theorem one_size (v : Value) : [v].length ≤ sizeLine := by
  rw [sizeLine_eq]
  exact (by decide : 1 ≤ 16777216)
theorem kept_but {K : Frag} {h h' : Heap} {x : Addr} (X : K.In h) (hx : K.lookup x = none) (k : ∀ b o, b ≠ x → h.get? b = some o → h'.get? b = some o) : K.In h' := fun a o e =>
  k a o (fun z => by rw [z, hx] at e; cases e) (X a o e)
theorem ldC {M : Model} {s : Shared} {name : Str} {scope : Scope} {L a : Addr} {cd : Value} {m : Str → Option Value} {x : Str} {pos : Pos} {v : Value} {Q : Value → Shared → Prop} {A : Around} {E : Value → Shared → Prop} (hn : s.heap.Ns L m) (hv : m x = some v) (h : Q v s)
    (hk : scope.kind = .function := by rfl) (hl : (envOfC name scope L a cd).kindOf x = some .local := by rfl) (hd : (x == ("__debug__" : Str)) = false := by decide) :
    wpAny M A (eval (.Name x pos) (envOfC name scope L a cd)) Q E s := wpAny_Name (wpAny_loadName_local hk hl hn hv h) hd
/-- what __init__ leaves of a fresh exception at x -/
structure InitEnd (h h' : Heap) (x C dx t1 : Addr) (v : Value) : Prop where
  keep : ∀ b o, b ≠ x → h.get? b = some o → h'.get? b = some o
  obj : h'.get? x = some { cls := .ref C, dict := some dx, data := .fields #[.ref t1, .none, .none, .none, .bool false, .none] }
  dbig : h.objs.size ≤ dx
  dne : dx ≠ x
  ns : h'.Ns1 dx (fun y => if y = "row" then some v else none)
/-- a made Low -/
structure OwnMade (h h' : Heap) (e C d : Addr) (v : Value) : Prop where
  keep : ∀ b o, h.get? b = some o → h'.get? b = some o
  new : h.objs.size ≤ e
  obj : ∃ oe vs, h'.get? e = some oe ∧ oe.cls = .ref C ∧ oe.dict = some d ∧ oe.data = .fields vs ∧ vs[1]? = some .none
  dbig : h.objs.size ≤ d
  dne : d ≠ e
  ns : h'.Ns1 d (fun y => if y = "row" then some v else none)
section
variable {prog : Program} {w : World} {A : Around} {E : Value → Shared → Prop} {R : Result → Shared → Prop} {s : Shared} {K : Frag} {mg : Str → Option Value} {C fI : Addr}
theorem bad_init (T : BadTxt K mg C fI) {x t0 : Addr} {v : Value} (X : K.In s.heap) (hlim : s.heap.NoLimit) (hx : s.heap.get? x = some (excO C t0)) (hnx : K.lookup x = none) (hroom : A.depth < recursionLimit)
    (hq : ∀ h' tk dx, InitEnd s.heap h' x C dx t0 v → R (.ok (.ret .none)) { s with heap := h', toks := tk }) :
    codeAny (model prog w) A (.call (.ref fI) ⟨[.ref x, v], []⟩) R s := by
  obtain ⟨oc, od, doc, pm, an, cdv, ct, osl, p1, p2, q1, q2, q3, q4, ho, hcd⟩ := T.fn
  obtain ⟨nm, q, N, bs, bm, sn, sub, ab, col, dd, k0, k1, k2, k3, k5, hC, hbm⟩ := T.cls
  have hcl : clsIn K C = some { name := nm, bases := bs, mro := .ref C :: bm, ns := N, qualname := q, hasDict := true, slotNames := sn, subclasses := sub, abstract := ab, collection := col, hasDel := false } := by unfold clsIn; rw [hC] <;> rfl
  refine Att.call_fn (binds := [("self", .ref x), ("row", v)]) X hlim ho hcd hroom (BindsTo.of_eq (by first | rfl | with_unfolding_all rfl)) (by first | rfl | decide | with_unfolding_all rfl) (fun s₁ IC => ?_) rfl rfl rfl
  obtain ⟨h₁, tk₁, rfl⟩ := IC.toInCall.same
  have k : ∀ b o, s.heap.get? b = some o → h₁.get? b = some o := IC.toInCall.keep
  have hn := IC.toInCall.ns
  have hxL : s.heap.objs.size ≠ x := Nat.ne_of_gt (Heap.lt_size hx)
  have X₁ : K.In h₁ := X.keeps k
  have hx₁ := k _ _ hx
  -- self.by = by
  show wpAny _ _ (execs _ _) _ _ _
  refine wpAny_execs_cons (plainObj_wpAny_Assign_Attribute ?_)
  refine ldC (v := v) hn (by first | rfl | with_unfolding_all rfl | kernel_rfl) (ldC (v := .ref x) hn (by first | rfl | with_unfolding_all rfl | kernel_rfl) ?_)
  refine set_plain X₁ (ox := excO C t0) (od := none) ⟨hx₁, rfl, rfl, trivial⟩ T.sa ?_
  refine exc_osa X₁ hx₁ hcl (show refsVE (.ref C :: bm) = true from hbm) rfl T.noN (fun h₃ tk₃ dx k₃ dn dne hx₃ hn₃ => ?_)
  show wpAny _ _ (execs _ _) _ _ _
  have z : s.heap.objs.size < h₁.objs.size := hn.lt
  exact wpAny_execs_nil (hq h₃ tk₃ dx ⟨fun b o hb e => k₃ b o hb (k b o e), hx₃, Nat.le_of_lt (Nat.lt_of_lt_of_le z dn), dne, hn₃⟩)
theorem bad_made (T : BadTxt K mg C fI) {v : Value} (X : K.In s.heap) (hlim : s.heap.NoLimit) (hroom : A.depth + 1 < recursionLimit)
    (hq : ∀ h' tk e d, OwnMade s.heap h' e C d v → R (.ok (.ret (.ref e))) { s with heap := h', toks := tk }) :
    codeAny (model prog w) A (.call (.ref C) ⟨[v], []⟩) R s := by
  obtain ⟨nm, q, N, bs, bm, sn, sub, ab, col, dd, k0, k1, k2, k3, k5, hC, hbm⟩ := T.cls
  obtain ⟨hp, g, dr, tk, os⟩ := s
  have k : ∀ b o, hp.get? b = some o → ((hp.push (kdv_tup [v])).push (excO C hp.objs.size)).get? b = some o := fun b o e => Heap.get?_push_of_some _ (Heap.get?_push_of_some _ e)
  have hget : ((hp.push (kdv_tup [v])).push (excO C hp.objs.size)).get? (hp.objs.size + 1) = some (excO C hp.objs.size) := by heap_get
  have hnx : K.lookup (hp.objs.size + 1) = none := by
    cases e : K.lookup (hp.objs.size + 1) with
    | none => rfl
    | some o =>
      have z : hp.get? (hp.objs.size + 1) = some o := X _ _ e
      exact absurd (Nat.lt_of_succ_lt (Heap.lt_size z)) (Nat.lt_irrefl _)
  refine call_own F.excBase_ValueError (fun X => refsVE_contains X bm hbm) (X _ _ hC) (looks_findIn X T.iC) (fun self => bind_fn X self T.tC) (one_size v) ?_
  refine bad_init (s := ⟨(hp.push (kdv_tup [v])).push (excO C hp.objs.size), g, dr, tk, os⟩) T (X.keeps k) (hlim.keeps k) hget hnx ?_ fun h' tk' dx ⟨k', hx, dn, dne, hns⟩ => ?_
  · show A.depth + 1 < recursionLimit
    exact hroom
  · have old : ∀ b o, hp.get? b = some o → h'.get? b = some o := fun b o e => k' b o (Nat.ne_of_lt (Nat.lt_succ_of_lt (Heap.lt_size e))) (k b o e)
    have z : hp.objs.size + 1 + 1 ≤ dx := by
      first
        | (simpa only [Heap.size_push] using dn)
        | exact dn
        | (have q := dn; rw [Heap.size_push, Heap.size_push] at q; exact q)
    exact ⟨rfl, hq h' tk' (hp.objs.size + 1) dx ⟨old, Nat.le_succ _, ⟨_, _, hx, rfl, rfl, rfl, rfl⟩, Nat.le_trans (Nat.le_trans (Nat.le_succ _) (Nat.le_succ _)) z, dne, hns⟩⟩
end
end BadX
end PySem
namespace L2
open PySem PySem.Spec PyProof.Rows
theorem relO_bad {v : V} {v' : Value} (r : RelV v v') (f : Str) : RelO (List.lookup f [(("row" : Str), v)]) (if f = "row" then some v' else none) := by
  by_cases hw : f = "row"
  · subst hw
    rw [if_pos rfl]
    have q : List.lookup ("row" : Str) [(("row" : Str), v)] = some v := by simp [List.lookup]
    rw [q]
    exact r
  · rw [if_neg hw]
    have qw : (f == ("row" : Str)) = false := by simpa using hw
    have q2 : List.lookup f [(("row" : Str), v)] = none := by simp [List.lookup, qw]
    rw [q2]
    trivial
section
variable {X : Cx} {C fI : Addr}
/-- Low(e) -/
def tMkBad (C : Addr) (ta : TA) : St → Hp → XK → Prop := fun σ H Q => ta σ H fun vs H1 => ∃ v, vs = [v] ∧ ∀ d, H1 d = none → Q (.ref C) (some d) (upd H1 d (.xd [(("row" : Str), v)]))
theorem pmk_bad {a : Expr} {ta : TA} {p pos : Pos} {k : Nat} (T : PySem.BadX.BadTxt X.K X.mg C fI) (hr : Room k X.A) (ha : PA X [a] ta) (hg : Gl X "InvalidText" := by rfl)
    (he : starEach (a :: []) X.env = (false, eval a X.env) :: starEach [] X.env := by rfl) (hpl : (backTo pos (starEach [] X.env)).any (·.1) = false := by rfl) :
    PMk X (.Call (.Name "InvalidText" p) [a] [] pos) (tMkBad C ta) := by
  intro pins s σ H Q I h
  refine wpAny_Call_Name_kw (ld_glob I hg T.gC ?_)
  refine PySem.W.callWith_K (h₀ := X.base) I.ok.mod.kin T.kC (thn (ha.run pos pins s σ H _ I h) fun us s1 hh => ?_) he hpl
  obtain ⟨vs, H1, I1, r1, v, ev, q1⟩ := hh
  subst ev
  refine ⟨I1.kIn, ?_⟩
  cases r1 with
  | cons rv rn =>
    rename_i v' us'
    cases rn
    show wpAny _ _ (call (.ref C) [v']) _ _ _
    have hlim := I1.nolimit
    obtain ⟨hp, g, dr, tk, os⟩ := s1
    refine wpAny_call (PySem.BadX.bad_made T I1.kIn hlim (by have := hr.dp; omega) fun h' tk' e d M => ?_)
    show MkP X pins σ Q (.ref e) ⟨h', g, dr, tk', os⟩
    obtain ⟨oe, fv, hoe, hc, hd, hdat, h1⟩ := M.obj
    have hns := M.ns
    obtain ⟨G', g1, g2⟩ := restrict h' fun b => decide (b ≠ e)
    have gk : ∀ b, b ≠ e → G'.get? b = h'.get? b := fun b hb => g1 b (decide_eq_true hb)
    have ge : G'.get? e = none := g2 e (by simp)
    have old : ∀ b o, hp.get? b = some o → G'.get? b = some o := fun b o q => (gk b (Nat.ne_of_lt (Nat.lt_of_lt_of_le (Heap.lt_size q) M.new))).trans (M.keep b o q)
    have ob : ObjOk X.prog X.w (upd H1 d (.xd [(("row" : Str), v)])) G' d (.xd [(("row" : Str), v)]) :=
      ⟨_, hns.at (fun o q => (gk d M.dne).trans q), fun f => relO_bad rv f⟩
    have J : Inv X pins σ (upd H1 d (.xd [(("row" : Str), v)])) ⟨G', g, dr, tk', os⟩ := I1.laid (t' := tk') old M.dbig ob
    refine ⟨e, oe, fv, ⟨G', g, dr, tk', os⟩, _, .ref C, some d, rfl, J, fun b o q => ?_, ge, hoe, ⟨hc, hd⟩, hdat, h1, ?_, rfl, I1.bare, raises_own T.exC T.tyC, q1 d (I1.hok.fresh M.dbig)⟩
    · by_cases hb : b = e
      · have q' : G'.get? b = some o := q
        rw [hb, ge] at q'; cases q'
      · exact (gk b hb).symm.trans q
    · rw [upd_ne (Ne.symm M.dne)]
      exact I1.hok.fresh M.new
/-- raise Low(e) -/
def tRaiseBad (C : Addr) (W : WX) (ta : TA) : TS := fun _ σ H => tMkBad C ta σ H fun cls d H' => W cls d σ H'
theorem ps_raiseBad {a : Expr} {ta : TA} {W : WX} {p pos pos2 : Pos} {k : Nat} (hc : X.calm = true) (T : PySem.BadX.BadTxt X.K X.mg C fI) (hr : Room k X.A) (tk : Takes X W) (ha : PA X [a] ta) (hg : Gl X "InvalidText" := by rfl)
    (he : starEach (a :: []) X.env = (false, eval a X.env) :: starEach [] X.env := by rfl) (hpl : (backTo pos (starEach [] X.env)).any (·.1) = false := by rfl) :
    PS X (.Raise (some (.Call (.Name "InvalidText" p) [a] [] pos)) none pos2) (tRaiseBad C W ta) := ps_raise hc tk (pmk_bad T hr ha hg he hpl)
/-- low.by, low the exception that the suite holds (at a; its class cls, its dict d) -/
def tRowBad (C : Addr) (a : Addr) (cls : Value) (d : Option Addr) (te : TE) : TE := fun σ H Q => te σ H fun x H1 => x = .ref a ∧ cls = .ref C ∧ ∃ (dd : Addr) (v : V), d = some dd ∧ H1 dd = some (.xd [(("row" : Str), v)]) ∧ Q v H1
theorem pe_rowBad {a : Addr} {oe : Obj} {cls : Value} {d : Option Addr} {pn : List (Addr × Obj)} {e : Expr} {te : TE} {pos : Pos} (T : PySem.BadX.BadTxt X.K X.mg C fI) (hz : Zc cls d oe) (hf : ∃ vs, oe.data = .fields vs) (he : PE (X.suite a ((a, oe) :: pn)) e te)
    (hb : attributeBase e "row" X.env (eval e X.env) = eval e X.env := by rfl) :
    PE (X.suite a ((a, oe) :: pn)) (.Attribute e "row" pos) (tRowBad C a cls d te) := by
  refine ⟨fun pins s σ H Q I h => ?_⟩
  refine attr_of hb (thn (he.run pins s σ H _ I h) fun u s1 hh => ?_)
  obtain ⟨x, H1, I1, rx, ex, ec, dd, v, ed, ea, q⟩ := hh
  subst ex
  obtain rfl : u = Value.ref a := rx
  subst ec
  subst ed
  obtain ⟨ha, _⟩ := I1.pin (a, oe) (List.mem_append_left _ List.mem_cons_self)
  obtain ⟨vs, hd⟩ := hf
  have hx : ObjOk X.prog X.w H1 s1.heap dd (.xd [(("row" : Str), v)]) := I1.hok dd _ ea
  obtain ⟨mA, hns, hr⟩ := hx
  obtain ⟨od, ho, hl⟩ := lookIn_ns hns
  have l : List.lookup ("row" : Str) [(("row" : Str), v)] = some v := by simp [List.lookup]
  obtain ⟨u, hu, ru⟩ := RelO.some_of (v := v) (o := mA "row") (by rw [← l]; exact hr "row")
  have J : PySem.W.InstAt s1.heap a oe C (some od) := ⟨ha, hz.1, by unfold PySem.W.notCls; rw [hd] <;> rfl, by rw [hz.2]; exact ho⟩
  exact HandSPX.exc_get I1.kIn J T.ga T.gg T.exC (PySem.W.findObj_own T.hdC T.noN rfl (by rw [hl, hu])) (handed_of ru) ⟨v, H1, I1.tok _, ru, q⟩
end
end L2
/-! K2: repr of plain data. -/
namespace SP
open PySem L2 DV PM IX
def keyPy : Key → PyData
  | .inl i => .int i
  | .inr x => .str x
mutual
def D.pyR : D → PyData
  | .non => .none
  | .bl b => .bool b
  | .int i => .int i
  | .str x => .str x
  | .lst ds => .list (D.pyRA ds)
  | .tup ds => .tuple (D.pyRA ds)
  | .nt ds => .tuple (D.pyRA ds)
  | .dic ks => .dict (D.pyRK ks)
  | .fro _ => .none
  | .obj _ _ => .none
def D.pyRA : List D → List PyData
  | [] => []
  | d :: ds => D.pyR d :: D.pyRA ds
def D.pyRK : List (Key × D) → List (PyData × PyData)
  | [] => []
  | (k, d) :: ds => (keyPy k, D.pyR d) :: D.pyRK ds
end
mutual
/-- no instance, no script -/
def D.okR : D → Bool
  | .lst ds => D.okRA ds
  | .tup ds => D.okRA ds
  | .nt ds => D.okRA ds
  | .dic ks => D.okRK ks
  | .fro _ => false
  | .obj _ _ => false
  | _ => true
def D.okRA : List D → Bool
  | [] => true
  | d :: ds => D.okR d && D.okRA ds
def D.okRK : List (Key × D) → Bool
  | [] => true
  | (_, d) :: ds => D.okR d && D.okRK ds
end
mutual
/-- no list -/
def D.noL : D → Bool
  | .lst _ => false
  | .tup ds => D.noLA ds
  | .nt ds => D.noLA ds
  | .dic ks => D.noLK ks
  | _ => true
def D.noLA : List D → Bool
  | [] => true
  | d :: ds => D.noL d && D.noLA ds
def D.noLK : List (Key × D) → Bool
  | [] => true
  | (_, d) :: ds => D.noL d && D.noLK ds
end
section
variable {X : Cx} {pins : List (Addr × Obj)} {σ : L2.St} {B H : Hp} {s : Shared}
theorem keys_read {h : Heap} {P : Program} {w : World} : ∀ {es : List DictEntry} {vs : List (Key × Value)} {kvs : List (Key × V)} {ks : List (Key × D)}, PySem.Pairs (mixKind P w) es vs → KV kvs vs → kvs.map (·.1) = ks.map (·.1) → ReadsAll h (es.map (·.key)) ((D.pyRK ks).map (·.1)) []
  | [], _, _, [], .nil, .nil, _ => ReadsAll.nil
  | [], _, _, _ :: _, .nil, .nil, h => by cases h
  | _ :: _, _, _, [], .cons _ _ _, .cons _ _, h => by cases h
  | e :: es, _, _, (k, d) :: ks, .cons h1 h2 h3, .cons q1 q2, hk => by
    rename_i kv' kvs' kv vs'
    have e1 : kv.1 = k := by
      have := (List.cons.inj hk).1
      simpa using this
    have e2 : kv.1 = kv'.1 := q1.1
    have ih := keys_read (h := h) h3 q2 (List.cons.inj hk).2
    rcases keyIs_shape (k := kv'.1) (v := e.key) h1 with ⟨i, t, a, b⟩ | ⟨x, t, a, b⟩
    · have ek : k = Sum.inl i := by rw [← e1, e2]; exact a
      subst ek
      show ReadsAll h (e.key :: es.map (·.key)) (PyData.int i :: _) []
      rw [b]
      exact ReadsAll.cons (Reads.int i t) ih
    · have ek : k = Sum.inr x := by rw [← e1, e2]; exact a
      subst ek
      show ReadsAll h (e.key :: es.map (·.key)) (PyData.str x :: _) []
      rw [b]
      exact ReadsAll.cons (Reads.str x t) ih
theorem RpK.keys {K : PySem.W.Frag} : ∀ {kvs : List (Key × V)} {ks : List (Key × D)}, RpK K B kvs ks → kvs.map (·.1) = ks.map (·.1)
  | _, _, .nil => rfl
  | _, _, .cons _ r => by rw [List.map_cons, List.map_cons, RpK.keys r]
mutual
theorem Rp.reads (I : Inv X pins σ H s) (e : Ex B H) : ∀ {v : V} {d : D} {u : Value}, Rp X.K B v d → D.okR d = true → RelV v u → ∃ as, Reads s.heap u (D.pyR d) as ∧ (D.noL d = true → sysModules ∉ as)
  | _, _, _, .non, _, r => by cases r; exact ⟨_, Reads.none, fun _ => by simp⟩
  | _, _, _, .bl b, _, r => by cases r; exact ⟨_, Reads.bool b, fun _ => by simp⟩
  | _, _, _, .int i, _, r => by obtain ⟨t, rfl⟩ := r; exact ⟨_, Reads.int i t, fun _ => by simp⟩
  | _, _, _, .str x, _, r => by obtain ⟨t, rfl⟩ := r; exact ⟨_, Reads.str x t, fun _ => by simp⟩
  | _, _, _, .lst h ra, ok, r => by
    cases r
    obtain ⟨its, rv, ⟨o, n, ho, hc, _, hd⟩, _⟩ := I.list (.inl (.inl (e _ _ h)))
    obtain ⟨as, hr, _⟩ := RpA.reads I e ra ok rv
    exact ⟨_, Reads.list ho hc hd hr, fun z => by cases z⟩
  | _, _, _, .tup h ra, ok, r => by
    cases r
    obtain ⟨its, rv, ⟨o, ho, hc, n, hd⟩, _⟩ := I.tuple (.inl (RdEx e h))
    obtain ⟨as, hr, hs⟩ := RpA.reads I e ra ok rv
    exact ⟨_, Reads.tuple ho hc hd hr, hs⟩
  | _, _, _, .nt h _ ra, ok, r => by
    cases r
    obtain ⟨its, rv, ⟨o, ho, hc, n, hd⟩, _⟩ := I.tuple (.inl (.inr ⟨_, e _ _ h⟩))
    obtain ⟨as, hr, hs⟩ := RpA.reads I e ra ok rv
    exact ⟨_, Reads.tuple ho hc hd hr, hs⟩
  | _, _, _, .dic (a := a) h rk, ok, r => by
    cases r
    obtain ⟨_, hsm, vs, hkv, o, es, ep, ho, hx, hd, _, hp, _⟩ := I.hok _ _ (e _ _ h)
    obtain ⟨as, hr, hs⟩ := RpK.reads I e rk ok hkv hp
    refine ⟨_, Reads.dict ho hx.1 hd (keys_read hp hkv (RpK.keys rk)) hr, fun z => ?_⟩
    intro m
    rcases List.mem_append.mp m with m | m
    · rcases List.mem_cons.mp m with q | q
      · rw [← q] at hsm
        simp at hsm
      · cases q
    · exact hs z m
  | _, _, _, .fro _ _, ok, _ => by cases ok
  | _, _, _, .obj _ _, ok, _ => by cases ok
theorem RpA.reads (I : Inv X pins σ H s) (e : Ex B H) : ∀ {vs : List V} {ds : List D} {us : List Value}, RpA X.K B vs ds → D.okRA ds = true → Vals vs us → ∃ as, ReadsAll s.heap us (D.pyRA ds) as ∧ (D.noLA ds = true → sysModules ∉ as)
  | _, _, _, .nil, _, r => by cases r; exact ⟨_, ReadsAll.nil, fun _ => by simp⟩
  | _, _, _, .cons h ra, ok, r => by
    have ok' := ok
    simp only [D.okRA, Bool.and_eq_true] at ok'
    cases r with
    | cons r1 r2 =>
      obtain ⟨as, q1, s1⟩ := Rp.reads I e h ok'.1 r1
      obtain ⟨bs, q2, s2⟩ := RpA.reads I e ra ok'.2 r2
      refine ⟨_, ReadsAll.cons q1 q2, fun z => ?_⟩
      simp only [D.noLA, Bool.and_eq_true] at z
      exact fun m => (List.mem_append.mp m).elim (s1 z.1) (s2 z.2)
theorem RpK.reads (I : Inv X pins σ H s) (e : Ex B H) : ∀ {vs : List (Key × V)} {ds : List (Key × D)} {us : List (Key × Value)} {es : List DictEntry}, RpK X.K B vs ds → D.okRK ds = true → KV vs us → PySem.Pairs (mixKind X.prog X.w) es us → ∃ as, ReadsAll s.heap (es.map (·.val)) ((D.pyRK ds).map (·.2)) as ∧ (D.noLK ds = true → sysModules ∉ as)
  | _, _, _, _, .nil, _, r, p => by cases r; cases p; exact ⟨_, ReadsAll.nil, fun _ => by simp⟩
  | _, _, _, _, .cons h ra, ok, r, p => by
    have ok' := ok
    simp only [D.okRK, Bool.and_eq_true] at ok'
    cases r with
    | cons r1 r2 =>
      cases p with
      | cons p1 p2 p3 =>
        obtain ⟨as, q1, s1⟩ := Rp.reads I e h ok'.1 r1.2
        obtain ⟨bs, q2, s2⟩ := RpK.reads I e ra ok'.2 r2 p3
        refine ⟨as ++ bs, ?_, fun z => ?_⟩
        · rw [List.map_cons, p2]
          exact ReadsAll.cons q1 q2
        · simp only [D.noLK, Bool.and_eq_true] at z
          exact fun m => (List.mem_append.mp m).elim (s1 z.1) (s2 z.2)
end
end
/-- what may be shown -/
structure Sho (d : D) : Prop where
  ok : D.okR d = true
  sh : (D.pyR d).showable = true
  dp : (D.pyR d).depth ≤ 60
  dc : (D.pyR d).hasDict = true → D.noL d = true
  ln : (D.pyR d).shown.length ≤ 1000000
def rReprD (K : PySem.W.Frag) : List V → Hp → VK → Prop := fun xs H Q => ∃ x d B, xs = [x] ∧ Ex B H ∧ Rp K B x d ∧ Sho d ∧ Q (.str (D.pyR d).shown) H
open PySem.Spec PyProof.Rows in
theorem call_reprD {X : Cx} {k : Nat} (hr : Room k X.A) (hg : X.A.guards = some []) : CallR X (.builtin "repr") (rReprD X.K) := by
  intro pins s σ H xs us Q I r h
  obtain ⟨x, d, B, rfl, e, hx, hs, q⟩ := h
  obtain ⟨u, rfl, rx⟩ := vals1 r
  have hu := hr.units
  have hln := le_line hs.ln
  have key : ∀ {a : Addr}, u = .ref a → wpAny (model X.prog X.w) X.A (call (.builtin "repr") [u]) (EP X pins σ Q) X.xe s := fun {a} ea => by
    obtain ⟨as, rd, hsm⟩ := Rp.reads I e hx hs.ok rx
    subst ea
    have hdp := hs.dp
    exact repr_of_reads' rd hs.sh (fun z => hsm (hs.dc z)) hg (by omega) (fun _ _ q => q) (fun h' u tk kp => ⟨.str _, H, I.kept (t' := tk) kp, ⟨u, rfl⟩, q⟩) hln
  cases hx with
  | non => cases rx; exact PySem.P.repr_of_none ⟨.str _, H, I.tok _, ⟨_, rfl⟩, q⟩
  | bl b => cases rx; exact PySem.P.repr_of_bool ⟨.str _, H, I.tok _, ⟨_, rfl⟩, q⟩
  | int i => obtain ⟨t, rfl⟩ := rx; exact PySem.P.repr_of_int (of_decide_eq_true hs.sh) ⟨.str _, H, I.tok _, ⟨_, rfl⟩, q⟩
  | str y => obtain ⟨t, rfl⟩ := rx; exact PySem.P.repr_of_str ⟨.str _, H, I.tok _, ⟨_, rfl⟩, q⟩ hln
  | lst _ _ => exact key rx
  | tup _ _ => exact key rx
  | nt _ _ _ => exact key rx
  | dic _ _ => exact key rx
  | obj _ _ => exact key rx
  | fro _ _ => exact key rx
theorem cb_reprD {K : PySem.W.Frag} {d : D} (h : Sho d) : CbD K (rReprD K) [.dat d] (.dat (.str (D.pyR d).shown)) := fun B H vs e hv Q q => by
  obtain ⟨v, rfl, h1⟩ := rs1 hv
  exact ⟨v, d, B, rfl, e, h1, h, q _ B H (Stp.refl _ _ _) e (.str _)⟩
end SP
/-! CG: is_within and is_row for values of any kind. -/
namespace SP
open PySem L2 DV PM
/-- the name of the built-in type -/
def tyN : D → Option String
  | .non => some "NoneType"
  | .bl _ => some "bool"
  | .int _ => some "int"
  | .str _ => some "str"
  | .lst _ => some "list"
  | .tup _ => some "tuple"
  | .nt _ => some "tuple"
  | .dic _ => some "dict"
  | .obj _ _ => none
  | .fro _ => none
def withD (d : D) (lo hi : Int) : Bool := match d with
  | .int v => decide (lo ≤ v) && decide (v ≤ hi)
  | _ => false
def rowG (cols : List Col) (d : D) : Bool := match d with
  | .tup ds => decide (ds.length = 1 + cols.length) && ((List.zip ds (lowsOf cols)).all fun p => withD p.1 p.2 1000000)
  | _ => false
def preWithinG : Pre := fun rs Pl cs r cs' => ∃ d t, ∃ lo hi : Int, rs = [.dat d, .dat (.int lo), .dat (.int hi)] ∧ tyN d = some t ∧ Pl = [] ∧ cs = [] ∧ r = .dat (.bl (withD d lo hi)) ∧ cs' = []
def notNt : D → Bool
  | .nt _ => false
  | _ => true
def preIsRowG (C : Addr) : Pre := fun rs Pl cs r cs' => ∃ T n cols d t, rs = [.dat (schD C T), .dat (.str n), .dat d] ∧ T.lookup n = some cols ∧ cols.length ≤ 1000 ∧ tyN d = some t ∧ notNt d = true ∧
  (∀ ds, d = .tup ds → ds.length ≤ 1000 ∧ ∀ e ∈ ds, ∃ u, tyN e = some u) ∧ Pl = [] ∧ cs = [] ∧ r = .dat (.bl (rowG cols d)) ∧ cs' = []
section
variable {K : PySem.W.Frag}
theorem tyX_of {B H : Hp} {v : V} {d : D} {t : String} (e : Ex B H) (h : Rp K B v d) (ht : tyN d = some t) : TyX K H v (.type t) := by
  cases h with
  | non => cases ht; exact .base .non
  | bl b => cases ht; exact .base (.bl b)
  | int i => cases ht; exact .base (.int i)
  | str x => cases ht; exact .base (.str x)
  | lst h _ => cases ht; exact .base (.lst (e _ _ h))
  | tup h _ =>
    cases ht
    rcases RdEx e h with h | ⟨o, h⟩
    · exact .base (.tup h)
    · exact .fTuple h
  | nt h _ _ => cases ht; exact .fTuple (e _ _ h)
  | dic h _ => cases ht; exact .base (.dK (e _ _ h))
  | obj _ _ => cases ht
  | fro _ _ => cases ht
theorem cb_isG {d : D} {t n : String} {b : Bool} (ht : tyN d = some t) (hk : kitB t n = some b) : CbD K (rIsi K) [.dat d, .val (.ty n)] (.dat (.bl b)) := fun B H vs e h Q q => by
  obtain ⟨v, v', rfl, h1, h2⟩ := rs2 h
  exact ⟨v, v', .type t, .type n, b, rfl, by rw [show v' = V.ty n from h2]; exact .ty _, tyX_of e h1 ht, kit_ty hk, q _ B H (Stp.refl _ _ _) e (.bl _)⟩
def isTy (d : D) (n : String) : Bool := match d, n with
  | .tup _, "tuple" => true
  | .nt _, "tuple" => true
  | .int _, "int" => true
  | .bl _, "int" => true
  | .bl _, "bool" => true
  | _, _ => false
theorem kit_all : ∀ t ∈ ["NoneType", "bool", "int", "str", "list", "tuple", "dict"], kitB t "tuple" = some (t == "tuple") ∧ kitB t "int" = some (t == "int" || t == "bool") ∧ kitB t "bool" = some (t == "bool") := by decide +kernel
theorem tyN_mem {d : D} {t : String} (h : tyN d = some t) : t ∈ ["NoneType", "bool", "int", "str", "list", "tuple", "dict"] := by
  cases d <;> cases h <;> decide
end
end SP
namespace T3
open PySem L2 DV PM SP
section
variable {P : Program} {w : World} {K : PySem.W.Frag} {mg : Str → Option Value} {base : Heap} {C : Addr}
end
end T3
/-! ZN: zip of a list and a tuple, by the library's zip over two iterators of any kind. -/
namespace ZN
open PySem PySem.Spec PyProof.Rows L2 RZ
/-- what a turn of zip(list, tuple) gives -/
def ItzN (K : PySem.W.Frag) (a b : Addr) (n m : Nat) : It where
  go i H := ∃ xs ys x y, SqL K H a xs ∧ SqT K H b ys ∧ xs[i]? = some x ∧ ys[i]? = some y ∧ xs.length = n ∧ ys.length = m
  yld i H v H' := ∃ T x y, v = .ref T ∧ H T = none ∧ H' = upd H T (.tup [x, y]) ∧ (∀ xs, SqL K H a xs → xs[i]? = some x) ∧ ∀ ys, SqT K H b ys → ys[i]? = some y
  stop i H := ∃ xs ys, SqL K H a xs ∧ SqT K H b ys ∧ xs.length = n ∧ ys.length = m ∧ min n m ≤ i
/-- the five cells of it between two turns -/
def Cells (z TI TO i1 i2 a b : Addr) (N i : Nat) (h : Heap) : Prop := i ≤ N ∧ IsZip h z TI TO .none ∧ IsPair h TI (.ref i1) (.ref i2) ∧ (∃ x y, IsPair h TO x y) ∧ h.IsListIter i1 a i ∧ h.IsTupleIter i2 b i
theorem sepOf {z TI TO i1 i2 a b : Addr} (D : ZipApart z TI TO i1 i2 a b) : ZipSep2 z TI TO i1 i2 [i1, a] [i2, b] where
  TIz := D.TIz
  TOz := D.TOz
  TITO := D.TITO
  TIi1 := D.TIi1
  mem1 := by simp
  zf1 := by simp [Ne.symm D.i1z, Ne.symm D.l1z]
  Tf1 := by simp [D.TOi1, Ne.symm D.l1TO]
  TIi2 := D.TIi2
  mem2 := by simp
  zf2 := by simp [Ne.symm D.i2z, Ne.symm D.l2z]
  Tf2 := by simp [D.TOi2, Ne.symm D.l2TO]
  sep1_2 := by simp [D.i12, Ne.symm D.l2i1]
  sep2_1 := by simp [Ne.symm D.i12, Ne.symm D.l1i2]
theorem cases5 {c z TI TO i1 i2 : Addr} (h : c ∈ [z, TI, TO, i1, i2]) : c = z ∨ c = TI ∨ c = TO ∨ c = i1 ∨ c = i2 := by simpa using h
theorem cell_obj {z TI TO i1 i2 a b c : Addr} {N i : Nat} {h : Heap} (st : Cells z TI TO i1 i2 a b N i h) (hc : c ∈ [z, TI, TO, i1, i2]) : ∃ o, h.get? c = some o ∧ ∀ v, o.data ≠ .cell v := by
  obtain ⟨_, p1, p2, ⟨_, _, p3⟩, ⟨o4, p4, _, d4⟩, ⟨o5, p5, _, d5⟩⟩ := st
  rcases cases5 hc with rfl | rfl | rfl | rfl | rfl
  · exact ⟨_, p1, nofun⟩
  · exact ⟨_, p2, nofun⟩
  · exact ⟨_, p3, nofun⟩
  · exact ⟨o4, p4, fun v e => by rw [d4] at e; cases e⟩
  · exact ⟨o5, p5, fun v e => by rw [d5] at e; cases e⟩
theorem turnN {P : Program} {w : World} {K : PySem.W.Frag} {elts : List Expr} {kk : Nat} {tpos : Pos} {a b z TI TO i1 i2 : Addr} {n m : Nat} (D : ZipApart z TI TO i1 i2 a b) : Turn P w K (.Tuple elts kk tpos) (ItzN K a b n m) [z, TI, TO, i1, i2] z (Cells z TI TO i1 i2 a b (min n m)) where
  mem := List.mem_cons_self
  obj i h st c hc := cell_obj st hc
  keep i h h' st k := by
    obtain ⟨p0, p1, p2, ⟨x, y, p3⟩, p4, p5⟩ := st
    refine ⟨p0, k _ ?_ _ p1, k _ ?_ _ p2, ⟨x, y, k _ ?_ _ p3⟩, p4.at (k _ ?_), p5.at (k _ ?_)⟩ <;> simp
  item := by
    intro X hP hw hK hc i pins s σ H E I free st go
    subst hP hw hK
    have st0 := st
    obtain ⟨p0, p1, p2, ⟨u0, v0, p3⟩, p4, p5⟩ := st
    obtain ⟨xs, ys, x, y, qa, qb, ex, ey, hn, hm⟩ := go
    have i1n := (List.getElem?_eq_some_iff.mp ex).1
    have i2m := (List.getElem?_eq_some_iff.mp ey).1
    obtain ⟨ua, ra, la0, _⟩ := I.list qa
    obtain ⟨ub, rb, tb, _⟩ := I.tuple qb
    obtain ⟨u, eu, ru⟩ := ra.get ex
    obtain ⟨v, ev, rv⟩ := rb.get ey
    have none1 : X.A.in1.handled = none := I.ok.hd hc
    refine wpAny_pyNext_zipD2_item (sepOf D) (Draws.list none1 i1 a D.l1i1 ua.toArray) (Draws.tuple none1 i2 b D.l2i2 ub.toArray) p1 p2 p3 ⟨p4, la0.isList⟩ ⟨p5, tb⟩
      (by simpa using (List.getElem?_eq_some_iff.mp eu).1) (by simpa using (List.getElem?_eq_some_iff.mp ev).1) fun v1 v2 h1 tk e1 e2 n1 n3 n4 n5 nT nS old => ?_
    have w1 : v1 = u := by simpa [eu] using e1.symm
    have w2 : v2 = v := by simpa [ev] using e2.symm
    subst w1 w2
    have lt : ∀ c ∈ [z, TI, TO, i1, i2], c < s.heap.objs.size := fun c h => (cell_obj st0 h).elim fun o q => Heap.lt_size q.1
    refine ⟨_, rfl, wpAny_letOwnedTupleGo_zip (s := { s with heap := h1, toks := tk }) n1 fun h2 m1 same => ?_⟩
    have at2 : ∀ c o, c ≠ z → h1.get? c = some o → h2.get? c = some o := fun c o n q => (same.2 c n).trans q
    have old2 : ∀ c o, c ∉ [z, TI, TO, i1, i2] → s.heap.get? c = some o → h2.get? c = some o := fun c o n q => by
      simp only [List.mem_cons, List.not_mem_nil, or_false, not_or] at n
      exact at2 c o n.1 (old c o n.1 n.2.2.1 n.2.2.2.1 n.2.2.2.2 q)
    have newT : h2.get? s.heap.objs.size = some { cls := .type "tuple", data := .seq #[v1, v2] } := at2 _ _ (Nat.ne_of_gt (lt z (by simp))) nT
    have I1 : Inv X pins σ (upd H s.heap.objs.size (.tup [x, y])) { s with heap := h2, toks := tk } :=
      I.turnedNew (t' := tk) (ch := [z, TI, TO, i1, i2]) old2 free (Nat.le_refl _) ⟨by show 2 ≤ sizeLine; decide, [v1, v2], .cons ru (.cons rv .nil), _, newT, rfl, _, rfl⟩
    refine ⟨.ref _, _, I1, rfl, ⟨_, x, y, rfl, I.hok.fresh (Nat.le_refl _), rfl, fun l q => I.list_inj q qa ▸ ex, fun l q => I.tuple_inj q qb ▸ ey⟩, ⟨by omega, m1, at2 _ _ D.TIz (old _ _ D.TIz D.TITO D.TIi1 D.TIi2 p2), ⟨v1, v2, at2 _ _ D.TOz n3⟩, n4.1.at fun o q => at2 _ o D.i1z q, n5.1.at fun o q => at2 _ o D.i2z q⟩, fun c h => ?_⟩
    rw [upd_ne (Nat.ne_of_lt (lt c h))]
    exact (free c h).1
  done := by
    intro X hP hw hK hc i pins s σ H E I free st fin
    subst hP hw hK
    obtain ⟨p0, p1, p2, ⟨u0, v0, p3⟩, p4, p5⟩ := st
    obtain ⟨xs, ys, qa, qb, hn, hm, he⟩ := fin
    obtain ⟨ua, ra, la0, _⟩ := I.list qa
    obtain ⟨ub, rb, tb, _⟩ := I.tuple qb
    have la := ra.length
    have lb' := rb.length
    have none1 : X.A.in1.handled = none := I.ok.hd hc
    refine wpAny_pyNext_zipD2_end (i := i) (sepOf D) (Draws.list none1 i1 a D.l1i1 ua.toArray) (Draws.tuple none1 i2 b D.l2i2 ub.toArray) p1 p2 p3 ⟨p4, la0.isList⟩ ⟨p5, tb⟩
      (by rw [List.size_toArray]; omega) (by rw [List.size_toArray]; omega) (by rw [List.size_toArray, List.size_toArray]; omega) fun h1 tk old => ⟨rfl, I.turnedL (t' := tk) (ch := [z, TI, TO, i1, i2]) (fun c o n q => ?_) free⟩
    simp only [List.mem_cons, List.not_mem_nil, or_false, not_or] at n
    exact old c o n.1 n.2.2.1 n.2.2.2.1 n.2.2.2.2 q
  self A i s Q E st h := wpAny_pyIter_zip st.2.1 h
/-- zip(l, t) -/
def iZipN (K : PySem.W.Frag) (ta : TA) : TI := fun σ H R => ta σ H fun vs H1 => ∃ a b xs ys, vs = [.ref a, .ref b] ∧ SqL K H1 a xs ∧ SqT K H1 b ys ∧ R (ItzN K a b xs.length ys.length) H1
theorem pi_zipN {X : Cx} {e1 e2 : Expr} {ta : TA} {np cp tp : Pos} {elts : List Expr} {n : Nat} (hg : Gl X "zip") (hm : X.mg "zip" = none) (ha : PA X [e1, e2] ta)
    (h1 : starEach [e1, e2] X.env = (false, eval e1 X.env) :: starEach [e2] X.env := by rfl) (h2 : (backTo cp (starEach [e2] X.env)).any (·.1) = false := by rfl) : PI X (.Tuple elts n tp) (.Call (.Name "zip" np) [e1, e2] [] cp) (iZipN X.K ta) where
  run pins s σ H R I h := by
    refine Call_ (ld_blt I hg hm PyProof.Rows.boot_zip (PyProof.Rows.callWith_type1 (thn (ha.run cp pins s σ H _ I h) fun us t ⟨vs, G, I1, rv, a, b, xs, ys, ev, qa, qb, q⟩ => ?_) h1 h2))
    subst ev
    obtain ⟨u1, u2, rfl, r1, r2⟩ := vals2 rv
    cases r1
    cases r2
    obtain ⟨ua, ra, la0, _⟩ := I1.list qa
    obtain ⟨ub, rb, tb, _⟩ := I1.tuple qb
    have at' := tb
    obtain ⟨ob, gb, _⟩ := at'
    have far : ∀ k, FpOk X pins G (t.heap.objs.size + k) := fun k => I1.fpOk (Nat.le_add_right _ _) (I1.hok.fresh (Nat.le_add_right _ _))
    refine zip_begins2 (begins_list a ua.toArray) (begins_tuple b ub.toArray) la0.isList tb fun h' z0 z2 z3 c1 c2 _ old => wpAny_pyIter_zip z0 ⟨_, _, _, _, G, rfl, I1.kept (t' := t.toks) old, turnN (PySem.W.ktu_apart t.heap.objs.size a b la0.lt (Heap.lt_size gb)), ⟨Nat.zero_le _, z0, z2, ⟨_, _, z3⟩, ⟨_, c1, rfl, rfl⟩, ⟨_, c2, rfl, rfl⟩⟩, fun c hc => ?_, q⟩
    rcases cases5 hc with rfl | rfl | rfl | rfl | rfl
    · exact far 4
    · exact far 2
    · exact far 3
    · exact far 0
    · exact far 1
end ZN
/-! K3: dict(..) of pairs, {}, xs[::-1], == and != of an instance with a value of another kind, zip of a list and a tuple. -/
namespace SP
open PySem PySem.Spec PyProof.Rows L2
section
variable {X : Cx} {n : Nat} {C f : Addr} {fd : FuncData} {ps : List Str} {sp : Sp}
/-- x == y, x an instance of the class at C with an own __eq__, y of a built-in type -/
def rEqOth (K : PySem.W.Frag) (C : Addr) (sp : Sp) (neg : Bool) : R2 := fun x y H Q => ∃ a dx fs t, x = .ref a ∧ H a = some (.ins C dx fs) ∧ TyX K H y t ∧ PySem.W.notFirst K C t = true ∧ sp [x, y] H (fun z H' => ∃ k, z = .bl k ∧ Q (.bl (if neg then !k else k)) H') E0
theorem op_eqOth (F : FnOk X.prog X.w X.K X.mg X.base CX0 n f fd ps sp) (hb : Binds X.K fd ps []) (hs : PySem.W.findIn X.K (.ref C) "__eq__" = some (some (.ref f))) (hf : PySem.W.isFn X.K (.ref f) = true) (hr : Room n X.A) : OpR X (compareOp .Eq) (rEqOth X.K C sp false) := by
  intro pins s σ H x y v u Q I rx ry hq
  obtain ⟨a, dx, fs, t, rfl, ha, ty, hn, h⟩ := hq
  cases rx
  obtain ⟨mA, J, _⟩ := ins_get I.hok ha
  obtain ⟨od, J, _⟩ := J.look
  obtain ⟨P, Z, p, hx⟩ := kit_of I ry ty
  obtain ⟨m, hF⟩ := I.fr
  show wpAny (model X.prog X.w) X.A (richCompare .Eq (.ref a) u) (EP X pins σ Q) X.xe s
  refine PySem.W.cmp_K (op := .Eq) (tb := t) hr.units0 hF I.ok.mod.kin J (Z.ty _ _ I.kIn p) hn hs hf (wpAny_mono (OWN.run_at ⟨hr, rfl⟩ F hb I (.cons rfl (.cons ry .nil) : Vals [V.ref a, y] [Value.ref a, u]) h) (fun v s' z => ?_) fun _ _ e => e)
  obtain ⟨z, H', I', rz, ⟨k, rfl, q⟩⟩ := z
  cases rz
  exact ⟨.bl k, H', I', rfl, q⟩
theorem op_neOth (F : FnOk X.prog X.w X.K X.mg X.base CX0 n f fd ps sp) (hb : Binds X.K fd ps []) (hs : PySem.W.findIn X.K (.ref C) "__eq__" = some (some (.ref f))) (hf : PySem.W.isFn X.K (.ref f) = true) (hne : PySem.W.findIn X.K (.ref C) "__ne__" = some (some (.builtin "object.__ne__"))) (hm : PySem.W.mroIn X.K C (.type "object") = some true)
    (hr : Room (n + 1) X.A) : OpR X (compareOp .NotEq) (rEqOth X.K C sp true) := by
  intro pins s σ H x y v u Q I rx ry hq
  obtain ⟨a, dx, fs, t, rfl, ha, ty, hn, h⟩ := hq
  cases rx
  obtain ⟨mA, J, _⟩ := ins_get I.hok ha
  obtain ⟨od, J, _⟩ := J.look
  obtain ⟨P, Z, p, hx⟩ := kit_of I ry ty
  have sb : Sub X n X.A.in1 := Sub.in1 ⟨hr, rfl⟩
  have hu : X.A.units + 1 < cLine := sb.room.units0
  show wpAny (model X.prog X.w) X.A (richCompare .NotEq (.ref a) u) (EP X pins σ Q) X.xe s
  refine OWN.ne_K (tb := t) hu I.kIn J (Z.ty _ _ I.kIn p) hn hm hne hs hf (wpAny_mono (OWN.run_at sb F hb I (.cons rfl (.cons ry .nil) : Vals [V.ref a, y] [Value.ref a, u]) h) (fun v s' z => ?_) fun _ _ e => e)
  obtain ⟨z, H', I', rz, ⟨k, rfl, q⟩⟩ := z
  cases rz
  exact ⟨k, rfl, .bl (!k), H', I', rfl, q⟩
end
end SP
namespace SP
open PySem L2 DV PM IX
variable {K : PySem.W.Frag}
section
variable {P : List Addr} {ss : List Sl} {cs cs1 : List (List D)} {te : TE}
theorem ev_dnew : Ev K P ss cs tDNewK (.dat (.dic [])) cs := fun B H σ o Q q => fun p hp => by
  have s2 := stp_new (o := .dK []) o.ex hp
  exact q _ _ _ s2.ofNil (o.step0 s2 o.ex.updB) (Rp.dic upd_same .nil)
theorem ev_rev {ds : List D} (h : Ev K P ss cs te (.dat (.lst ds)) cs1) : Ev K P ss cs (tRevL K te) (.dat (.lst ds.reverse)) cs1 := fun B H σ o Q q =>
  h B H σ o _ fun v B1 H1 s1 o1 v1 => by
    have a' : Rp K B1 v (.lst ds) := v1
    cases a' with
    | @lst a xs _ h5 r =>
      refine ⟨a, xs, rfl, .inl (.inl (o1.ex _ _ h5)), fun p hp => ?_⟩
      have s2 := stp_new (o := .lst xs.reverse) o1.ex hp
      have rv : ∀ {vs : List V} {ds : List D}, RpA K B1 vs ds → RpA K B1 vs.reverse ds.reverse := by
        intro vs ds r
        induction vs generalizing ds with
        | nil => cases r; exact .nil
        | cons v vs ih =>
          cases r with
          | cons h r =>
            rw [List.reverse_cons, List.reverse_cons]
            exact (ih r).append (.cons h .nil)
      exact q _ _ _ (s1.trans s2.ofNil) (o1.step0 s2 o1.ex.updB) (Rp.lst upd_same ((rv r).mono s2.ex))
end
/-! dict(..) of pairs with ints -/
def rDictP (K : PySem.W.Frag) : List V → Hp → VK → Prop := fun xs H Q => ∃ (a : Addr) (ps : List Addr) (kvs : List (Key × V)), xs = [.ref a] ∧ SqL K H a (ps.map V.ref) ∧ Paired (fun p kv => SqT K H p [kV kv.1, kv.2]) ps kvs ∧ ∀ p, H p = none → Q (.ref p) (upd H p (.dK (mergeK [] kvs)))
theorem call_dictP1 {X : Cx} (hc : X.calm = true) : CallR X (.type "dict") (rDictP X.K) := call_dictP hc
theorem merge_nodup : ∀ {more kvs : List (Key × V)}, ((kvs ++ more).map (·.1)).Nodup → mergeK kvs more = kvs ++ more
  | [], kvs, _ => by simp [mergeK]
  | p :: r, kvs, h => by
    have hn : valV kvs p.1 = none := by
      unfold valV
      rw [Option.map_eq_none_iff, List.find?_eq_none]
      intro q hq
      rw [List.map_append] at h
      have := (List.nodup_append.mp h).2.2 q.1 (List.mem_map.mpr ⟨q, hq, rfl⟩) p.1 (by simp)
      simpa using this
    show mergeK (putK kvs p.1 p.2) r = _
    rw [putK_new _ hn, merge_nodup (by rw [List.append_assoc]; exact h), List.append_assoc]
    rfl
theorem cb_dictI {l : List (Int × D)} (nd : (l.map (·.1)).Nodup) : CbD K (rDictP K) [.dat (.lst (l.map fun p => D.tup [.int p.1, p.2]))] (.dat (.dic (l.map fun p => ((Sum.inl p.1 : Key), p.2)))) := fun B H vs e hv Q q => by
  obtain ⟨v, rfl, h1⟩ := rs1 hv
  have a' : Rp K B v (.lst (l.map fun p => D.tup [.int p.1, p.2])) := h1
  cases a' with
  | @lst a xs _ h5 r =>
    have gen : ∀ {xs : List V} {l : List (Int × D)}, RpA K B xs (l.map fun p => D.tup [.int p.1, p.2]) → ∃ (ps : List Addr) (kvs : List (Key × V)), xs = ps.map V.ref ∧ Paired (fun p kv => SqT K H p [kV kv.1, kv.2]) ps kvs ∧ RpK K B kvs (l.map fun p => ((Sum.inl p.1 : Key), p.2)) ∧ kvs.map (·.1) = l.map fun p => (Sum.inl p.1 : Key) := by
      intro xs l
      induction l generalizing xs with
      | nil => intro r; cases r; exact ⟨[], [], rfl, .nil, .nil, rfl⟩
      | cons p l ih =>
        intro r
        cases r with
        | cons h r =>
          obtain ⟨ps, kvs, e1, e2, e3, e4⟩ := ih r
          cases h with
          | @tup t ys _ ht hy =>
            cases hy with
            | cons hk hy =>
              cases hk
              cases hy with
              | cons hd hy =>
                cases hy
                exact ⟨t :: ps, ((Sum.inl p.1 : Key), _) :: kvs, by rw [e1]; rfl, .cons (.inl (RdEx e ht)) e2, .cons hd e3, by rw [List.map_cons, e4]; rfl⟩
    obtain ⟨ps, kvs, rfl, e2, e3, e4⟩ := gen r
    have hm : mergeK [] kvs = kvs := by
      have := merge_nodup (kvs := []) (more := kvs) (by
        rw [List.nil_append, e4]
        have e5 : (l.map fun p => (Sum.inl p.1 : Key)) = (l.map (·.1)).map Sum.inl := by rw [List.map_map]; rfl
        rw [e5]
        exact List.pairwise_map.mpr (nd.imp fun h z => h (Sum.inl.inj z)))
      simpa using this
    refine ⟨a, ps, kvs, rfl, .inl (.inl (e _ _ h5)), e2, fun p hp => ?_⟩
    rw [hm]
    have s := stp_new (o := .dK kvs) e hp
    exact q _ _ _ s e.updB (Rp.dic upd_same (e3.mono s.ex))
/-! zip of a list and a tuple -/
theorem wd_zipN {P : List Addr} {ss : List Sl} {cs cs1 : List (List D)} {ta : TA} {ds es : List D} (h : EvA K P ss cs ta [.dat (.lst ds), .dat (.tup es)] cs1) : WD K P ss cs (ZN.iZipN K ta) (zipD ds es) cs1 := fun B H σ o R q =>
  h B H σ o _ fun vs B1 H1 s1 o1 r1 => by
    obtain ⟨v, v', rfl, h1, h2⟩ := rs2 r1
    have a' : Rp K B1 v (.lst ds) := h1
    have b' : Rp K B1 v' (.tup es) := h2
    cases a' with
    | @lst a xs _ h5 r => cases b' with
      | @tup b ys _ h6 r' =>
        refine ⟨_, _, xs, ys, rfl, .inl (.inl (o1.ex _ _ h5)), .inl (RdEx o1.ex h6), q _ B1 H1 s1 o1 fun i B2 H2 e1 e2 => ?_⟩
        have z : SqL K H2 a xs := .inl (.inl (e2 _ _ (e1 _ _ h5)))
        have z' : SqT K H2 b ys := .inl (RdEx e2 (RdEx e1 h6))
        refine ⟨fun d hd => ?_, fun hl => ⟨xs, ys, z, z', rfl, rfl, ?_⟩⟩
        · obtain ⟨e, e', he, he', rfl⟩ := zipD_get hd
          obtain ⟨v, h1, h2⟩ := r.get he
          obtain ⟨v', h1', h2'⟩ := r'.get he'
          refine ⟨⟨xs, ys, v, v', z, z', h1, h1', rfl, rfl⟩, fun x H' y => ?_⟩
          obtain ⟨T, x', y', rfl, hT, rfl, f, f'⟩ := y
          have q1 := f xs z
          have q2 := f' ys z'
          rw [h1] at q1; rw [h1'] at q2
          cases q1; cases q2
          have s := stp_new (o := .tup [v, v']) e2 hT
          exact ⟨_, s, e2.updB, .tup (.inl upd_same) (.cons (h2.mono (e1.trans s.ex)) (.cons (h2'.mono (e1.trans s.ex)) .nil))⟩
        · rw [r.length, r'.length]
          have e := hl
          unfold zipD at e
          rw [List.length_zipWith] at e
          exact e
end SP
/-! K4: how long a shown value is; rows and values near them. -/
namespace SP
open PySem L2 DV PM IX
theorem slen (a b : Str) : (a ++ b).length = a.length + b.length := Str.length_append a b
theorem textFrom_le : ∀ (ts : List Str) (k : Nat) (acc : Str), (textFrom k acc ts).length ≤ acc.length + piled ts
  | [], k, acc => Nat.le_add_right _ _
  | t :: ts, k, acc => by
    have ih := textFrom_le ts (k + 1) (acc ++ (if k > 0 then ", " else "" : String) ++ t)
    have e : (((if k > 0 then ", " else "" : String) : Str)).length ≤ 2 := by split <;> decide
    rw [slen, slen] at ih
    show (textFrom (k + 1) _ ts).length ≤ _
    rw [piled_cons]
    omega
theorem listText_le (ts : List Str) : (listText ts).length ≤ piled ts + 2 := by
  unfold listText
  have h := textFrom_le ts 0 "["
  have e1 : (("[" : String) : Str).length = 1 := rfl
  have e2 : (("]" : String) : Str).length = 1 := rfl
  rw [slen]
  omega
theorem join_le2 (ts : List Str) : (Str.join ", " ts).length ≤ piled ts := by
  cases ts with
  | nil => exact Nat.le_refl 0
  | cons t ts => have := join_length_add (t :: ts) (by simp); omega
theorem tupleText_le (ts : List Str) : (tupleText ts).length ≤ piled ts + 3 := by
  unfold tupleText
  have h := join_le2 ts
  have e1 : (("(" : String) : Str).length = 1 := rfl
  have e2 : (((if ts.length == 1 then ",)" else ")" : String) : Str)).length ≤ 2 := by split <;> decide
  rw [slen, slen]
  omega
theorem dictText_le (ts : List Str) : (dictText ts).length ≤ piled ts + 2 := by
  unfold dictText
  have h := join_le2 ts
  have e1 : (("{" : String) : Str).length = 1 := rfl
  have e2 : (("}" : String) : Str).length = 1 := rfl
  rw [slen, slen]
  omega
theorem piled_le {ts : List Str} {n : Nat} (h : ∀ t ∈ ts, t.length ≤ n) : piled ts ≤ (n + 2) * ts.length := by
  induction ts with
  | nil => exact Nat.zero_le _
  | cons t ts ih =>
    rw [piled_cons, List.length_cons, Nat.mul_add]
    have := h t (by simp)
    have := ih fun u hu => h u (List.mem_cons_of_mem _ hu)
    omega
/-- small: shown in n signs, k deep -/
structure Sm (n k : Nat) (d : D) : Prop where
  ok : D.okR d = true
  sh : (D.pyR d).showable = true
  dp : (D.pyR d).depth ≤ k
  ln : (D.pyR d).shown.length ≤ n
theorem Sm.le {n n' k k' : Nat} {d : D} (h : Sm n k d) (a : n ≤ n') (b : k ≤ k') : Sm n' k' d := ⟨h.ok, h.sh, Nat.le_trans h.dp b, Nat.le_trans h.ln a⟩
theorem Sm.sho {n k : Nat} {d : D} (h : Sm n k d) (hn : n ≤ 1000000) (hk : k ≤ 60) (hd : (D.pyR d).hasDict = true → D.noL d = true) : Sho d := ⟨h.ok, h.sh, Nat.le_trans h.dp hk, hd, Nat.le_trans h.ln hn⟩
theorem sm_non : Sm 40 0 .non := ⟨rfl, rfl, Nat.le_refl _, by decide +kernel⟩
theorem sm_bl (b : Bool) : Sm 40 0 (.bl b) := ⟨rfl, rfl, Nat.le_refl _, by cases b <;> decide +kernel⟩
theorem sm_int {i : Int} (h : i.natAbs ≤ 10 ^ 30) : Sm 40 0 (.int i) := by
  have h2 : i.natAbs.log2 < 1920 := by
    by_cases hz : i.natAbs = 0
    · rw [hz]; decide
    · refine (Nat.log2_lt hz).mpr ?_
      have : (10 : Nat) ^ 30 < 2 ^ 1920 := by decide
      omega
  refine ⟨rfl, decide_eq_true h2, Nat.le_refl _, ?_⟩
  show ((toString i : String) : Str).length ≤ 40
  have hp : (10 : Nat) ^ 30 < 10 ^ 31 := by decide
  have hp' : (10 : Int) ^ 31 = ((10 ^ 31 : Nat) : Int) := by norm_cast
  by_cases hn : i < 0
  · rw [PyProof.Rows.len_text_neg hn]
    have := PyProof.Rows.toString_length_le (v := 0 - i) (k := 31) (by omega) (by decide) (by rw [hp']; omega)
    omega
  · have := PyProof.Rows.toString_length_le (v := i) (k := 31) (by omega) (by decide) (by rw [hp']; omega)
    omega
theorem sm_all : ∀ {ds : List D} {n k : Nat}, (∀ d ∈ ds, Sm n k d) → D.okRA ds = true ∧ PyData.showableAll (D.pyRA ds) = true ∧ PyData.depthAll (D.pyRA ds) ≤ k ∧ (∀ t ∈ PyData.shownAll (D.pyRA ds), t.length ≤ n) ∧ (PyData.shownAll (D.pyRA ds)).length = ds.length
  | [], _, _, _ => ⟨rfl, rfl, Nat.zero_le _, (fun _ h => by cases h), rfl⟩
  | d :: ds, n, k, h => by
    have h1 := h d (by simp)
    obtain ⟨a, b, c, e, f⟩ := sm_all (ds := ds) fun x hx => h x (List.mem_cons_of_mem _ hx)
    refine ⟨?_, ?_, ?_, ?_, ?_⟩
    · show (D.okR d && D.okRA ds) = true
      rw [h1.ok, a]; rfl
    · show ((D.pyR d).showable && PyData.showableAll (D.pyRA ds)) = true
      rw [h1.sh, b]; rfl
    · show max ((D.pyR d).depth) (PyData.depthAll (D.pyRA ds)) ≤ k
      exact Nat.max_le.mpr ⟨h1.dp, c⟩
    · intro t ht
      rcases List.mem_cons.mp ht with z | z
      · rw [z]; exact h1.ln
      · exact e t z
    · show (PyData.shownAll (D.pyRA ds)).length + 1 = ds.length + 1
      rw [f]
theorem sm_tup {ds : List D} {n k m : Nat} (h : ∀ d ∈ ds, Sm n k d) (hm : ds.length ≤ m) : Sm ((n + 2) * m + 3) (k + 1) (.tup ds) := by
  obtain ⟨a, b, c, e, f⟩ := sm_all h
  refine ⟨a, b, Nat.succ_le_succ c, ?_⟩
  show (tupleText (PyData.shownAll (D.pyRA ds))).length ≤ _
  have h1 := tupleText_le (PyData.shownAll (D.pyRA ds))
  have h2 := piled_le e
  rw [f] at h2
  have h3 : (n + 2) * ds.length ≤ (n + 2) * m := Nat.mul_le_mul_left _ hm
  omega
theorem sm_nt {ds : List D} {n k m : Nat} (h : ∀ d ∈ ds, Sm n k d) (hm : ds.length ≤ m) : Sm ((n + 2) * m + 3) (k + 1) (.nt ds) := by
  obtain ⟨a, b, c, d⟩ := sm_tup h hm
  exact ⟨a, b, c, d⟩
theorem sm_lst {ds : List D} {n k m : Nat} (h : ∀ d ∈ ds, Sm n k d) (hm : ds.length ≤ m) : Sm ((n + 2) * m + 3) (k + 1) (.lst ds) := by
  obtain ⟨a, b, c, e, f⟩ := sm_all h
  refine ⟨a, b, Nat.succ_le_succ c, ?_⟩
  show (listText (PyData.shownAll (D.pyRA ds))).length ≤ _
  have h1 := listText_le (PyData.shownAll (D.pyRA ds))
  have h2 := piled_le e
  rw [f] at h2
  have h3 : (n + 2) * ds.length ≤ (n + 2) * m := Nat.mul_le_mul_left _ hm
  omega
theorem sm_dic {ks : List (Key × D)} {m : Nat} (h : ∀ p ∈ ks, (∃ i : Int, p.1 = Sum.inl i ∧ i.natAbs ≤ 10 ^ 30) ∧ Sm 40 0 p.2) (hm : ks.length ≤ m) : Sm (84 * m + 3) 1 (.dic ks) := by
  have gen : ∀ {ks : List (Key × D)}, (∀ p ∈ ks, (∃ i : Int, p.1 = Sum.inl i ∧ i.natAbs ≤ 10 ^ 30) ∧ Sm 40 0 p.2) → D.okRK ks = true ∧ PyData.showableKv (D.pyRK ks) = true ∧ PyData.depthKv (D.pyRK ks) = 0 ∧ (∀ t ∈ PyData.shownKv (D.pyRK ks), t.length ≤ 82) ∧ (PyData.shownKv (D.pyRK ks)).length = ks.length := by
    intro ks
    induction ks with
    | nil => intro _; exact ⟨rfl, rfl, rfl, (fun _ h => by cases h), rfl⟩
    | cons p ks ih =>
      intro h
      obtain ⟨⟨i, hi, hb⟩, h2⟩ := h p (by simp)
      obtain ⟨a, b, c, e, f⟩ := ih fun x hx => h x (List.mem_cons_of_mem _ hx)
      obtain ⟨q, d⟩ := p
      have hi' : q = Sum.inl i := hi
      subst hi'
      have h1 := sm_int hb
      refine ⟨?_, ?_, ?_, ?_, ?_⟩
      · show (D.okR d && D.okRK ks) = true
        rw [h2.ok, a]; rfl
      · show ((PyData.int i).showable && (D.pyR d).showable && PyData.showableKv (D.pyRK ks)) = true
        rw [show (PyData.int i).showable = true from h1.sh, h2.sh, b]; rfl
      · show max (max (PyData.int i).depth (D.pyR d).depth) (PyData.depthKv (D.pyRK ks)) = 0
        have z1 : (PyData.int i).depth = 0 := rfl
        have z2 : (D.pyR d).depth = 0 := Nat.le_zero.mp h2.dp
        rw [z1, z2, c]; rfl
      · intro t ht
        rcases List.mem_cons.mp ht with z | z
        · rw [z, slen, slen]
          have e1 : (keyPy (Sum.inl i)).shown.length ≤ 40 := h1.ln
          have e2 : (D.pyR d).shown.length ≤ 40 := h2.ln
          have e3 : ((": " : String) : Str).length = 2 := rfl
          omega
        · exact e t z
      · show (PyData.shownKv (D.pyRK ks)).length + 1 = ks.length + 1
        rw [f]
  obtain ⟨a, b, c, e, f⟩ := gen h
  refine ⟨a, b, ?_, ?_⟩
  · show PyData.depthKv (D.pyRK ks) + 1 ≤ 1
    rw [c]; exact Nat.le_refl _
  · show (dictText (PyData.shownKv (D.pyRK ks))).length ≤ _
    have h1 := dictText_le (PyData.shownKv (D.pyRK ks))
    have h2 := piled_le e
    rw [f] at h2
    have h3 : 84 * ks.length ≤ 84 * m := Nat.mul_le_mul_left _ hm
    omega
theorem sm_str {x : Str} (hl : x.length ≤ 8) (ho : PyData.strOk x = true) : Sm 100 0 (.str x) := by
  refine ⟨rfl, rfl, Nat.le_refl _, ?_⟩
  have := StrLaws.reprText_len x fun c hc => by
    unfold PyData.strOk at ho
    rw [all_list, List.all_eq_true] at ho
    have := ho c hc
    simp at this
    have e : (16 : Nat) ^ 8 = 4294967296 := by decide
    omega
  show (reprText x).length ≤ 100
  omega
/-! ### no lists, no dicts -/
theorem hd_all : ∀ {ds : List D}, (∀ d ∈ ds, (D.pyR d).hasDict = false) → PyData.hasDictAll (D.pyRA ds) = false
  | [], _ => rfl
  | d :: ds, h => by
    show ((D.pyR d).hasDict || PyData.hasDictAll (D.pyRA ds)) = false
    rw [h d (by simp), hd_all fun x hx => h x (List.mem_cons_of_mem _ hx)]; rfl
theorem nl_all : ∀ {ds : List D}, (∀ d ∈ ds, D.noL d = true) → D.noLA ds = true
  | [], _ => rfl
  | d :: ds, h => by
    show (D.noL d && D.noLA ds) = true
    rw [h d (by simp), nl_all fun x hx => h x (List.mem_cons_of_mem _ hx)]; rfl
end SP
/-! GW: defs that are called where no repr is under way. -/
namespace GW
open PySem PySem.Spec PyProof.Rows L2
theorem guards_deeper (A : Around) (e : Env) (h : A.guards = some []) : (A.deeper e).guards = some [] := by
  obtain ⟨hd, d, fr, gs, u⟩ := A
  first
    | exact h
    | (simp [Around.deeper, pushGuards, Code.guards, Code.isGuard] at h ⊢; exact h)
structure FnG (P : Program) (w : World) (K : PySem.W.Frag) (mg : Str → Option Value) (base : Heap) (CX : CXT) (k : Nat) (f : Addr) (fd : FuncData) (ps : List Str) (sp : Sp) : Prop where
  len : ∀ vs H Q E, sp vs H Q E → vs.length = ps.length
  run : ∀ (A : Around) (outer : List Env) (s : Shared) (H : Hp) (args : Args) (us : List Value) (vs : List V) (Q : VK) (E : XK), Room k A → A.guards = some [] → Env0 P w K mg base A outer s H → BindsTo s fd args (ps.zip us) → Vals vs us → sp vs H Q E →
    codeAny (model P w) A (.call (.ref f) args) (CR CX outer P w H s Q E) s
theorem fn_of {CX : CXT} {P : Program} {w : World} {K : PySem.W.Frag} {mg : Str → Option Value} {base : Heap} {k : Nat} {f : Addr} {name qual : Str} {params : Arguments} {body : List Stmt} {scope : Scope} {dV kV doc pm cdv ct oc : Value} {an od : Option Addr}
    {osl : Array (Option Value)} {N ps : List Str} {sp : Sp} (lk : K.lookup f = some ⟨oc, od, .func (PySem.W.fnOf name qual params body scope dV kV doc pm an cdv ct), osl⟩) (hcd : PySem.W.codeIn K cdv qual = true) (S : FnScope N ps scope)
    (len : ∀ vs H Q E, sp vs H Q E → vs.length = ps.length)
    (hbody : ∀ (A : Around) (outer : List Env) (s : Shared) (H : Hp) (vs : List V) (Q : VK) (E : XK), Room k (A.deeper (envOfC qual scope s.heap.objs.size f cdv)) → (A.deeper (envOfC qual scope s.heap.objs.size f cdv)).guards = some [] → sp vs H Q E →
      ∃ t, PSs (cxOf CX P w K mg base N qual scope f cdv A outer s H E) body t ∧ t { nx := fun _ H' => Q .non H', rt := Q } (start N vs) H) :
    FnG P w K mg base CX (k + 1) f (PySem.W.fnOf name qual params body scope dV kV doc pm an cdv ct) ps sp := by
  refine ⟨len, fun A outer s H args us vs Q E hr hG e0 hb r hsp => ?_⟩
  have hl := len _ _ _ _ hsp
  have KX : K.In s.heap := e0.mod.kin.keeps fun b o e => (e0.bs b o e).1
  have lim : s.heap.NoLimit := e0.mod.nolimit.keeps fun b o e => (e0.bs b o e).1
  have hkind : ∀ y ∈ ps.zip us, scope.names.lookup y.1 = some .local ∨ (scope.names.lookup y.1 = some .cell ∧ ((cellsFrom (s.heap.objs.size + 1) scope.names []).lookup y.1).isSome = true) := fun ⟨n, v⟩ hy => by
    rcases S.par n (List.of_mem_zip hy).1 with q | q
    · exact .inl q
    · exact .inr ⟨q, PySem.W.cellsFrom_some _ _ _ (.inl q)⟩
  refine codeAny_call_function hr.depth (KX _ _ lk) rfl S.co S.gen rfl (PySem.W.codeRec_of KX hcd) (hb _ _ _ _ ?_)
  refine wpAny_newFunctionEnv_cells S.kind hkind fun env he s1 x => ?_
  subst he
  refine ⟨lim.keeps x.toInCall.keep, codeAny_func ?_⟩
  obtain ⟨t, ht, hq⟩ := hbody A outer s H vs Q E (hr.deeper _) (guards_deeper _ _ hG) hsp
  have I : Inv (cxOf CX P w K mg base N qual scope f cdv A outer s H E) [] (start N vs) H s1 := inv_start S hr.hd e0 hl r x
  refine wpAny_mono (ht.run [] s1 (start N vs) H _ I hq) (fun fl s' hs => ?_) fun e s' hs => hs
  have fin : ∀ {σ' : L2.St} {H' : Hp} {v : V} {u : Value}, Inv (cxOf CX P w K mg base N qual scope f cdv A outer s H E) [] σ' H' s' → RelV v u → Q v H' → CE outer P w H s Q u s' :=
    fun {σ' H' v u} J rv q => ⟨v, H', J.os, J.bare, J.base, J.hok, rv, q⟩
  cases fl with
  | ret u =>
    obtain ⟨v, σ', H', J, rv, q⟩ := hs
    exact fin J rv q
  | next =>
    obtain ⟨σ', H', J, q⟩ := hs
    exact fin (v := V.non) (u := Value.none) J rfl q
  | brk =>
    obtain ⟨_, _, _, q⟩ := hs
    exact False.elim q
  | cont =>
    obtain ⟨_, _, _, q⟩ := hs
    exact False.elim q
theorem ok {P : Program} {w : World} {K : PySem.W.Frag} {mg : Str → Option Value} {base : Heap} {x qual : Str} {st : Stmt} {f : Addr} {fd : FuncData} {N ps : List Str} {k : Nat} {sp : Sp} (F : Fun K x qual st f fd) (S : FnScope N ps (defScope st)) (len : ∀ vs H Q E, sp vs H Q E → vs.length = ps.length)
    (hbody : ∀ (cdv : Value) (A : Around) (outer : List Env) (s : Shared) (H : Hp) (vs : List V) (Q : VK) (E : XK), Room k (A.deeper (envOfC qual (defScope st) s.heap.objs.size f cdv)) → (A.deeper (envOfC qual (defScope st) s.heap.objs.size f cdv)).guards = some [] → sp vs H Q E →
      ∃ t, PSs (cxOf CX0 P w K mg base N qual (defScope st) f cdv A outer s H E).nox (defBody st) t ∧ t { nx := fun _ H' => Q .non H', rt := Q } (start N vs) H) : FnG P w K mg base CX0 (k + 1) f fd ps sp := by
  obtain ⟨oc, od, kV, doc, pm, an, cdv, ct, osl, rfl, lk, hcd⟩ := F.ex
  refine fn_of lk hcd S len fun A outer s H vs Q E hr hG hsp => ?_
  obtain ⟨t, h, q⟩ := hbody cdv A outer s H vs Q E hr hG hsp
  exact ⟨t, h.nox, q⟩
section
variable {X : Cx} {CX : CXT} {k : Nat} {f C : Addr} {fd : FuncData} {ps : List Str} {sp : Sp} {dvs : List V} {ds : List Value} {E : XK} {x m : Str} {p pos apos : Pos} {e o : Expr} {es : List Expr} {ta : TE} {t : TA}
theorem run_fn {pins : List (Addr × Obj)} {σ : L2.St} {H : Hp} {s : Shared} {Q : VK} {us : List Value} {vs : List V} (F : FnG X.prog X.w X.K X.mg X.base CX k f fd ps sp) (hr : Room k X.A) (hG : X.A.guards = some []) (hb : Binds X.K fd ps ds) (hd : Vals dvs ds) (hx : Passes CX X E)
    (I : Inv X pins σ H s) (r : Vals vs us) (h : sp (vs ++ dvs) H Q E) : wpAny (model X.prog X.w) X.A (call (.ref f) us) (EP X pins σ Q) X.xe s := by
  have r2 : Vals (vs ++ dvs) (us ++ ds) := r.append hd
  have hl : (us ++ ds).length = ps.length := by rw [← r2.length]; exact F.len _ _ _ _ h
  refine wpAny_call (codeAny_mono (F.run X.A X.stack s H ⟨us, []⟩ (us ++ ds) (vs ++ dvs) Q E hr hG I.env0 (hb s us I.kIn hl) r2 h) fun r s' hq => ?_)
  cases r with
  | error e => exact hx pins σ H s e s' I hq
  | ok fl =>
    cases fl with
    | ret u => exact I.after hq
    | next => exact False.elim hq
    | brk => exact False.elim hq
    | cont => exact False.elim hq
theorem pe_call (F : FnG X.prog X.w X.K X.mg X.base CX k f fd ps sp) (hr : Room k X.A) (hG : X.A.guards = some []) (hg : Gl X x) (hm : X.mg x = some (.ref f)) (hk : PySem.W.keepIn X.K (.ref f) = true) (hb : Binds X.K fd ps ds) (hd : Vals dvs ds) (hx : Passes CX X E)
    (ha : PA X (e :: es) t) (hdb : (x == ("__debug__" : Str)) = false := by decide) (he : starEach (e :: es) X.env = (false, eval e X.env) :: starEach es X.env := by rfl) (hpl : (backTo pos (starEach es X.env)).any (·.1) = false := by rfl) :
    PE X (.Call (.Name x p) (e :: es) [] pos) (tCall sp dvs E t) := by
  refine ⟨fun pins s σ H Q I h => ?_⟩
  refine wpAny_Call_Name_kw (ld_glob I hg hm ?_ hdb)
  refine PySem.W.callWith_K (h₀ := X.base) I.ok.mod.kin hk (thn (ha.run pos pins s σ H _ I h) fun us s1 ⟨vs, H1, I1, r, q⟩ => ⟨I1.kIn, ?_⟩) he hpl
  exact run_fn F hr hG hb hd hx I1 r q
end
structure DefG (P : Program) (w : World) (K : PySem.W.Frag) (mg : Str → Option Value) (base : Heap) (k : Nat) (x : Str) (f : Addr) (fd : FuncData) (ps : List Str) (sp : Sp) : Prop where
  ok : FnG P w K mg base CX0 k f fd ps sp
  g : mg x = some (.ref f)
  kp : PySem.W.keepIn K (.ref f) = true
  b : Binds K fd ps []
theorem FnG.mono {P : Program} {w : World} {K : PySem.W.Frag} {mg : Str → Option Value} {base : Heap} {CX : CXT} {j k : Nat} {f : Addr} {fd : FuncData} {ps : List Str} {sp : Sp} (F : FnG P w K mg base CX j f fd ps sp) (h : j ≤ k) : FnG P w K mg base CX k f fd ps sp := ⟨F.len, fun A outer s H args us vs Q E hr => F.run A outer s H args us vs Q E (hr.mono h)⟩
theorem pe_def {X : Cx} {k j : Nat} {x : Str} {f : Addr} {fd : FuncData} {ps : List Str} {sp : Sp} {p pos : Pos} {e : Expr} {es : List Expr} {t : TA} (d : DefG X.prog X.w X.K X.mg X.base k x f fd ps sp) (hr : Room j X.A) (hG : X.A.guards = some []) (hk : k ≤ j) (hg : Gl X x) (ha : PA X (e :: es) t)
    (hdb : (x == ("__debug__" : Str)) = false := by decide) (he : starEach (e :: es) X.env = (false, eval e X.env) :: starEach es X.env := by rfl) (hpl : (backTo pos (starEach es X.env)).any (·.1) = false := by rfl) :
    PE X (.Call (.Name x p) (e :: es) [] pos) (tCall sp [] E0 t) := pe_call d.ok (hr.mono hk) hG hg d.g d.kp d.b .nil pass0 ha hdb he hpl
end GW
/-! K1: the law's def, called by nobody: no repr is under way there. -/
namespace LG
open PySem PySem.Spec PyProof.Rows L2

/-- what the law's def promises, at the caller's place alone -/
def LawAt (P : Program) (w : World) (K : PySem.W.Frag) (mg : Str → Option Value) (base : Heap) (f : Addr) (fd : FuncData) (x : Str) (sp : Sp) : Prop :=
  ∀ (s : Shared) (H : Hp) (a : Addr) (Q : VK), Env0 P w K mg base callerA [] s H → BindsTo s fd ⟨[.ref a], []⟩ [(x, .ref a)] → sp [.ref a] H Q E0 →
    codeAny (model P w) callerA (.call (.ref f) ⟨[.ref a], []⟩) (CR CX0 [] P w H s Q E0) s

theorem LawAt.body {P : Program} {w : World} {K : PySem.W.Frag} {mg : Str → Option Value} {base : Heap} {k : Nat} {f : Addr} {x y qual : Str} {st : Stmt} {fd : FuncData} {N : List Str} {sp : Sp}
    (F : Fun K y qual st f fd) (S : FnScope N [x] (defScope st)) (room : Room (k + 1) callerA)
    (hb : ∀ (cdv : Value) (s : Shared) (H : Hp) (a : Addr) (Q : VK), Room k (callerA.deeper (envOfC qual (defScope st) s.heap.objs.size f cdv)) → (callerA.deeper (envOfC qual (defScope st) s.heap.objs.size f cdv)).guards = some [] → sp [.ref a] H Q E0 →
      ∃ t, PSs (cxOf CX0 P w K mg base N qual (defScope st) f cdv callerA [] s H E0).nox (defBody st) t ∧ t { nx := fun _ H' => Q .non H', rt := Q } (start N [.ref a]) H) :
    LawAt P w K mg base f fd x sp := by
  obtain ⟨oc, od, kV, doc, pm, an, cdv, ct, osl, rfl, lk, hcd⟩ := F.ex
  intro s H a Q env bind hsp
  have inK : K.In s.heap := env.mod.kin.keeps fun b o q => (env.bs b o q).1
  have one : ∀ z ∈ ([(x, Value.ref a)] : List (Str × Value)), (defScope st).names.lookup z.1 = some .local ∨ ((defScope st).names.lookup z.1 = some .cell ∧ ((cellsFrom (s.heap.objs.size + 1) (defScope st).names []).lookup z.1).isSome = true) := by
    intro z hz
    have e : z = (x, Value.ref a) := by simpa using hz
    rw [e]
    rcases S.par x (by simp) with q | q
    · exact Or.inl q
    · exact Or.inr ⟨q, PySem.W.cellsFrom_some _ _ _ (Or.inl q)⟩
  obtain ⟨t, good, reads⟩ := hb cdv s H a Q (room.deeper _) rfl hsp
  apply codeAny_call_function (Room.depth room) (inK _ _ lk) rfl S.co S.gen rfl (PySem.W.codeRec_of inK hcd)
  apply bind
  apply wpAny_newFunctionEnv_cells S.kind one
  intro env1 eenv s1 entered
  subst eenv
  refine ⟨(env.mod.nolimit.keeps fun b o q => (env.bs b o q).1).keeps entered.toInCall.keep, codeAny_func ?_⟩
  have inv := inv_start (CX := CX0) (N := N) (ps := [x]) (E := E0) (vs := [V.ref a]) (us := [Value.ref a]) S room.hd env rfl (.cons rfl .nil) entered
  have ran := (good.nox).run [] s1 (start N [.ref a]) H _ inv reads
  refine wpAny_mono ran ?_ ?_
  · intro flow s2 got
    match flow, got with
    | .ret u, ⟨v, _, H2, J, rel, q⟩ => exact ⟨v, H2, J.os, J.bare, J.base, J.hok, rel, q⟩
    | .next, ⟨_, H2, J, q⟩ => exact ⟨V.non, H2, J.os, J.bare, J.base, J.hok, rfl, q⟩
    | .brk, ⟨_, _, _, q⟩ => exact q.elim
    | .cont, ⟨_, _, _, q⟩ => exact q.elim
  · intro _ _ got
    exact got

/-- the script alone is known, as an object that stays -/
def scriptH (K : PySem.W.Frag) (a : Addr) (vs : List Value) (ns : List Int) : Hp := fun b =>
  if b = a ∧ (K.lookup a).isNone = true then some (.frz { cls := .type "list", data := .seq vs.toArray } (.lst (ns.map V.int))) else none
section
variable {K : PySem.W.Frag} {a b : Addr} {vs : List Value} {ns : List Int}
theorem scriptH_not (h : b ≠ a) : scriptH K a vs ns b = none := if_neg fun z => h z.1
theorem scriptH_is {u : HO} (h : scriptH K a vs ns b = some u) : b = a ∧ K.lookup a = none ∧ u = .frz { cls := .type "list", data := .seq vs.toArray } (.lst (ns.map V.int)) := by
  unfold scriptH at h
  split at h
  · rename_i c
    exact ⟨c.1, Option.isNone_iff_eq_none.mp c.2, (Option.some.inj h).symm⟩
  · cases h
theorem scriptH_only : Only (scriptH K a vs ns) := fun b => by
  cases e : scriptH K a vs ns b with
  | none => exact Or.inl rfl
  | some u => exact Or.inr ⟨_, _, congrArg some (scriptH_is e).2.2⟩
end

theorem top_runs {P : Program} {w : World} {K : PySem.W.Frag} {mg mb : Str → Option Value} {fa a : Addr} {fd : FuncData} {x : Str} {sp : Sp} {s : Shared} {vs : List Value} {ns : List Int}
    (inK : K.In s.heap) (glob : s.heap.Ns mainGlobals mg) (blt : s.heap.Ns builtinsNs mb) (boot : ∀ y : Str, y ≠ "__name__" → mb y = bootBuiltins y) (lim : s.heap.NoLimit) (gens : s.gens = #[])
    (script : s.heap.get? a = some { cls := .type "list", data := .seq vs.toArray }) (nums : IntsAre vs ns) (short : ns.length ≤ sizeLine)
    (law : ∀ base : Heap, K.In base → base.Ns mainGlobals mg → LawAt P w K mg base fa fd x sp) (bind : ∀ (s : Shared) (u : Value), BindsTo s fd ⟨[u], []⟩ [(x, u)])
    (asked : ∀ H : Hp, Only H → SqL K H a (ns.map V.int) → sp [.ref a] H (fun v _ => v = .bl true) E0) :
    codeAny (model P w) callerA (.call (.ref fa) ⟨[.ref a], []⟩) (fun r s' => r = .ok (.ret (.bool true)) ∧ OldK s.heap s'.heap ∧ s'.os = s.os ∧ AllBare s'.gens) s := by
  have rel := vals_ints nums
  have size := nums.length
  have notDict : ∀ {b : Addr} {o : Obj} {es : Array DictEntry} {ep : Nat}, s.heap.get? b = some o → o.data = .dict es ep → scriptH K a vs ns b = none := by
    intro b o es ep ho hd
    refine scriptH_not fun e => ?_
    subst e
    cases ho.symm.trans script
    cases (hd : Data.seq vs.toArray _ = Data.dict es ep)
  have stays : ∀ {b : Addr} {o : Obj}, s.heap.get? b = some o → scriptH K a vs ns b = none → (hidT s.heap (scriptH K a vs ns)).get? b = some o := fun p q => hidT_get p q
  have names : ∀ {b : Addr} {m : Str → Option Value}, s.heap.Ns b m → (hidT s.heap (scriptH K a vs ns)).Ns b m := by
    rintro b m ⟨o, es, ep, p, d, r⟩
    exact ⟨o, es, ep, stays p (notDict p d), d, r⟩
  have inBase : K.In (hidT s.heap (scriptH K a vs ns)) := by
    intro b o p
    refine stays (inK b o p) ?_
    cases e : scriptH K a vs ns b with
    | none => rfl
    | some u =>
      obtain ⟨e1, e2, _⟩ := scriptH_is e
      rw [e1, e2] at p
      cases p
  have known : SqL K (scriptH K a vs ns) a (ns.map V.int) := by
    cases own : K.lookup a with
    | none => exact Or.inl (Or.inr ⟨_, if_pos ⟨rfl, by rw [own]; rfl⟩⟩)
    | some o =>
      cases (inK a o own).symm.trans script
      exact Or.inr ⟨_, vs.toArray, _, own, rfl, rfl, rfl, by rw [List.size_toArray, size]; exact short, by simpa using rel⟩
  have held : HOk P w (scriptH K a vs ns) s.heap := by
    intro b u e
    obtain ⟨e1, _, e3⟩ := scriptH_is e
    subst e1
    subst e3
    exact ⟨script, by rw [List.length_map]; exact short, vs, _, rel, script⟩
  obtain ⟨mc, l1, l2⟩ := lim
  have env : Env0 P w K mg (hidT s.heap (scriptH K a vs ns)) callerA [] s (scriptH K a vs ns) :=
    { frames := rfl, mod := ⟨inBase, names glob, ⟨mb, names blt, boot⟩, ⟨mc, names l1, l2⟩⟩, bs := fun _ _ p => of_hidT p, bsz := Nat.le_of_eq (hidT_size _ _), funs := True.intro, frf := (fun b z => List.not_mem_nil (show b ∈ ([] : List Addr) from z) |>.elim), hok := held, bare := .of_eq gens }
  have run := law _ inBase (names glob) s (scriptH K a vs ns) a _ env (bind s (.ref a)) (asked _ scriptH_only known)
  refine codeAny_mono run fun r s2 got => ?_
  match r, got with
  | .error _, got => exact (got : False).elim
  | .ok .next, got => exact (got : False).elim
  | .ok .brk, got => exact (got : False).elim
  | .ok .cont, got => exact (got : False).elim
  | .ok (.ret u), ⟨v, H2, os, bare, un, ok2, same, truth⟩ =>
    cases (truth : v = .bl true)
    cases (same : u = Value.bool true)
    refine ⟨rfl, OldK.of_keep ?_, os, bare⟩
    intro b o p
    cases e : scriptH K a vs ns b with
    | none => exact un.keep b o p e (fun z => List.not_mem_nil (show b ∈ ([] : List Addr) from z) |>.elim) (List.not_mem_nil)
    | some v2 =>
      obtain ⟨_, _, e3⟩ := scriptH_is e
      subst e3
      have before := (held b _ e).1
      have after := (ok2 b _ (un.frzs b _ _ e)).1
      cases p.symm.trans before
      exact after

/-- the whole row, by the law's promise at the caller's place -/
theorem walkAt {l : PySem.W.OpenLaw} {n : Nat} {q : Program} {loose : List Str} {XP : (Str → Option Value) → Heap → Prop} {YP : World → Heap → Prop} {d : DefRec} {K : Params → PySem.W.Frag} {sp : PySem.W.Frag → Sp} {x : Str}
    (most : l.most = some n) (short : n ≤ sizeLine) (plain : d.params.defaults = [])
    (written : ∀ (w : World) (h : Heap), YP w h → (K w.params).In h)
    (law : ∀ (w : World) (mg : Str → Option Value) (fa : Addr) (h : Heap), (K w.params).In h → h.Ns mainGlobals mg → mg d.name = some (.ref fa) →
      ∃ fd : FuncData, (∀ (s : Shared) (u : Value), BindsTo s fd ⟨[u], []⟩ [(x, u)]) ∧ ∀ base : Heap, (K w.params).In base → base.Ns mainGlobals mg → LawAt l.prog w (K w.params) mg base fa fd x (sp (K w.params)))
    (asked : ∀ (K : PySem.W.Frag) (H : Hp) (a : Addr) (ns : List Int), ns.length ≤ n → Only H → SqL K H a (ns.map V.int) → sp K [.ref a] H (fun v _ => v = .bl true) E0) :
    PySem.W.WalkO q loose XP YP l.row.toRowW d [] (fun f vs => PySem.call f vs) := by
  apply Att.attach_call most plain
  intro w s₀ s₁ mg mb fa o pm cd doc a vs ns G Y _ _ _ hmg script nums len gens
  obtain ⟨fd, bind, prom⟩ := law w mg fa _ (written w _ Y) G.T.g hmg
  exact top_runs (written w _ Y) G.T.g G.T.b G.T.builtins G.T.nolimit gens script nums (Nat.le_trans len short) prom bind fun H => asked _ H a ns len
end LG
/-! W6: a view is written, compared, and looked at by the law. -/
namespace SP
open PySem L2 DV PM RG LK
variable {K : PySem.W.Frag}
def rStrS : List V → Hp → VK → Prop := fun xs H Q => ∃ a, xs = [.str a] ∧ Q (.str a) H
theorem call_strS1 {X : Cx} : CallR X (.type "str") rStrS := SkE.call_str_str
theorem cb_strS {a : Str} : CbD K rStrS [.dat (.str a)] (.dat (.str a)) := fun B H vs e h Q q => by
  obtain ⟨v, rfl, h1⟩ := rs1 h
  cases (show Rp K B v (.str a) from h1)
  exact ⟨a, rfl, q _ B H (Stp.refl _ _ _) e (.str _)⟩
/-- it is no view -/
def Oth (K : PySem.W.Frag) (CV : Addr) (d : D) : Prop := ∀ B H v, Ex B H → Rp K B v d → ∃ t, TyX K H v t ∧ PySem.W.kitOne K t (.ref CV) = some false ∧ PySem.W.notFirst K CV t = true
def Apart (K : PySem.W.Frag) (C : Addr) : Prop := ∀ t ∈ ["NoneType", "bool", "int", "str", "list", "tuple", "dict"], PySem.W.kitOne K (.type t) (.ref C) = some false ∧ PySem.W.notFirst K C (.type t) = true
theorem oth_ty {CV : Addr} (ap : Apart K CV) {d : D} {t : String} (ht : tyN d = some t) : Oth K CV d := fun B H v e h => ⟨.type t, tyX_of e h ht, (ap t (tyN_mem ht)).1, (ap t (tyN_mem ht)).2⟩
theorem oth_sch {CV C : Addr} (sc : SchCls K C) (apC : PySem.W.kitOne K (.ref C) (.ref CV) = some false) (nfC : PySem.W.notFirst K CV (.ref C) = true) {T : List Tab} : Oth K CV (schD C T) := fun B H v e h => by
  unfold schD at h
  cases h with
  | obj h5 _ => exact ⟨.ref C, .base (.ins (e _ _ h5) sc.cl sc.ha sc.hn sc.htk sc.hm), apC, nfC⟩
def preVStr (CV C : Addr) : Pre := fun rs Pl cs r cs' => ∃ T M x, rs = [.dat (viewD CV C T M x)] ∧ Pl = [] ∧ cs = [] ∧ r = .dat (.str x) ∧ cs' = []
def preVEq (CV C : Addr) : Pre := fun rs Pl cs r cs' => ∃ T M x U N y, rs = [.dat (viewD CV C T M x), .dat (viewD CV C U N y)] ∧ tabsOk T ∧ tabsOk U ∧ Pl = [] ∧ cs = [] ∧ r = .dat (.bl (true && (decide (rowsOf T = rowsOf U) && decide (x = y)))) ∧ cs' = []
def preVEqO (CV C : Addr) : Pre := fun rs Pl cs r cs' => ∃ T M x d, rs = [.dat (viewD CV C T M x), .dat d] ∧ Oth K CV d ∧ Pl = [] ∧ cs = [] ∧ r = .dat (.bl false) ∧ cs' = []
theorem cb_isOV {CV : Addr} {d : D} (o : Oth K CV d) : CbD K (rIsi K) [.dat d, .val (.ref CV)] (.dat (.bl false)) := fun B H vs e h Q q => by
  obtain ⟨v, v', rfl, h1, h2⟩ := rs2 h
  obtain ⟨t, a, b, _⟩ := o B H v e h1
  exact ⟨v, v', t, .ref CV, false, rfl, by rw [show v' = V.ref CV from h2]; exact .own _, a, b, q _ B H (Stp.refl _ _ _) e (.bl _)⟩
theorem ev_vtext {P : List Addr} {ss : List Sl} {cs cs1 : List (List D)} {te : TE} {CV C : Addr} {T : List Tab} {M : PtM} {x : Str} (c : ViewCls K CV) (h : Ev K P ss cs te (.dat (viewD CV C T M x)) cs1) : Ev K P ss cs (tFld K te "_text") (.dat (.str x)) cs1 := ev_fld h c.cl c.n5 (by simp only [List.lookup, show (("_text" : Str) == "schema") = false by decide +kernel, show (("_text" : Str) == "nodes") = false by decide +kernel, show (("_text" : Str) == "shown") = false by decide +kernel, show (("_text" : Str) == "ranges") = false by decide +kernel, show (("_text" : Str) == "_text") = true by decide +kernel])
theorem ev_vsch {P : List Addr} {ss : List Sl} {cs cs1 : List (List D)} {te : TE} {CV C : Addr} {T : List Tab} {M : PtM} {x : Str} (c : ViewCls K CV) (h : Ev K P ss cs te (.dat (viewD CV C T M x)) cs1) : Ev K P ss cs (tFld K te "schema") (.dat (schD C T)) cs1 := ev_fld h c.cl c.n1 (by simp only [List.lookup, show (("schema" : Str) == "schema") = true by decide +kernel])
theorem ev_vnodes' {P : List Addr} {ss : List Sl} {cs cs1 : List (List D)} {te : TE} {CV C : Addr} {T : List Tab} {M : PtM} {x : Str} (c : ViewCls K CV) (h : Ev K P ss cs te (.dat (viewD CV C T M x)) cs1) : Ev K P ss cs (tFld K te "nodes") (.dat (.tup (M.nodes.map nodeD))) cs1 := ev_fld h c.cl c.n2 (by simp only [List.lookup, show (("nodes" : Str) == "schema") = false by decide +kernel, show (("nodes" : Str) == "nodes") = true by decide +kernel])
theorem ev_vshown' {P : List Addr} {ss : List Sl} {cs cs1 : List (List D)} {te : TE} {CV C : Addr} {T : List Tab} {M : PtM} {x : Str} (c : ViewCls K CV) (h : Ev K P ss cs te (.dat (viewD CV C T M x)) cs1) : Ev K P ss cs (tFld K te "shown") (.dat (.tup (M.shown.map shownD))) cs1 := ev_fld h c.cl c.n3 (by simp only [List.lookup, show (("shown" : Str) == "schema") = false by decide +kernel, show (("shown" : Str) == "nodes") = false by decide +kernel, show (("shown" : Str) == "shown") = true by decide +kernel])
theorem ev_vranges' {P : List Addr} {ss : List Sl} {cs cs1 : List (List D)} {te : TE} {CV C : Addr} {T : List Tab} {M : PtM} {x : Str} (c : ViewCls K CV) (h : Ev K P ss cs te (.dat (viewD CV C T M x)) cs1) : Ev K P ss cs (tFld K te "ranges") (.dat (.tup (M.ranges.map rangeMD))) cs1 := ev_fld h c.cl c.n4 (by simp only [List.lookup, show (("ranges" : Str) == "schema") = false by decide +kernel, show (("ranges" : Str) == "nodes") = false by decide +kernel, show (("ranges" : Str) == "shown") = false by decide +kernel, show (("ranges" : Str) == "ranges") = true by decide +kernel])
theorem view_ins {CV C : Addr} {T : List Tab} {M : PtM} {x : Str} {B H : Hp} {v : V} (e : Ex B H) (h : Rp K B v (viewD CV C T M x)) : ∃ a dx fvs, v = .ref a ∧ H a = some (.ins CV dx fvs) := by
  unfold viewD at h
  cases h with
  | @obj a _ dx fvs _ h5 _ => exact ⟨a, dx, fvs, rfl, e _ _ h5⟩
theorem cb_strV {CV C : Addr} {T : List Tab} {M : PtM} {x : Str} : CbD K (OWN.rStrOwn CV (spM K (preVStr CV C))) [.dat (viewD CV C T M x)] (.dat (.str x)) := fun B H vs e h Q q => by
  obtain ⟨v, rfl, h1⟩ := rs1 h
  obtain ⟨a, dx, fvs, rfl, ha⟩ := view_ins e h1
  refine ⟨a, dx, fvs, rfl, ha, B, _, [], [], _, [], ⟨T, M, x, rfl, rfl, rfl, rfl, rfl⟩, e, ⟨h1, True.intro⟩, True.intro, fun z B2 H2 s2 e2 _ v2 => ?_⟩
  cases (show Rp K B2 z (.str x) from v2)
  exact ⟨x, rfl, q _ B2 H2 s2 e2 (.str _)⟩
theorem od_veq {CV C : Addr} {T U : List Tab} {M N : PtM} {x y : Str} {neg : Bool} (hT : tabsOk T) (hU : tabsOk U) : OpD K (OWN.rEqOwn K CV (spM K (preVEq CV C)) neg) (.dat (viewD CV C T M x)) (.dat (viewD CV C U N y)) (.dat (.bl (if neg then !(decide (rowsOf T = rowsOf U) && decide (x = y)) else (decide (rowsOf T = rowsOf U) && decide (x = y))))) := fun B H v w e h1 h2 Q q => by
  obtain ⟨a, dx, fvs, rfl, ha⟩ := view_ins e h1
  obtain ⟨b, dy, gvs, rfl, hb⟩ := view_ins e h2
  refine ⟨a, dx, fvs, rfl, ha, ⟨b, dy, gvs, rfl, hb⟩, B, _, [], [], _, [], ⟨T, M, x, U, N, y, rfl, hT, hU, rfl, rfl, rfl, rfl⟩, e, ⟨h1, h2, True.intro⟩, True.intro, fun z B2 H2 s2 e2 _ v2 => ?_⟩
  cases (show Rp K B2 z (.bl (true && (decide (rowsOf T = rowsOf U) && decide (x = y)))) from v2)
  exact ⟨_, rfl, q _ B2 H2 s2 e2 (by rw [Bool.true_and]; exact .bl _)⟩
theorem od_veqO {CV C : Addr} {T : List Tab} {M : PtM} {x : Str} {d : D} {neg : Bool} (o : Oth K CV d) : OpD K (rEqOth K CV (spM K (preVEqO (K := K) CV C)) neg) (.dat (viewD CV C T M x)) (.dat d) (.dat (.bl (if neg then !false else false))) := fun B H v w e h1 h2 Q q => by
  obtain ⟨a, dx, fvs, rfl, ha⟩ := view_ins e h1
  obtain ⟨t, ht, _, hn⟩ := o B H w e h2
  refine ⟨a, dx, fvs, t, rfl, ha, ht, hn, B, _, [], [], _, [], ⟨T, M, x, d, rfl, o, rfl, rfl, rfl, rfl⟩, e, ⟨h1, h2, True.intro⟩, True.intro, fun z B2 H2 s2 e2 _ v2 => ?_⟩
  cases (show Rp K B2 z (.bl false) from v2)
  exact ⟨false, rfl, q _ B2 H2 s2 e2 (.bl _)⟩
/-! what is shown of the parts -/
theorem col_word {T : List Tab} (hT : tabsOk T) {M : PtM} {k p : Nat} (hTn : (T.map (·.1)).Nodup) (m : MOk T M k) (hp : p < M.nodes.length) {r : Str} {o : Option Str} (h : (colsOf T M p).lookup r = some o) : wordOk r := by
  obtain ⟨cols, _, h2, h3⟩ := tab_look hTn m hp
  rw [h2] at h
  exact ((hT.2 _ h3).2.2 _ (mem_lookup h)).1
theorem tab_word {T : List Tab} (hT : tabsOk T) {t : Str} (h : t ∈ T.map (·.1)) : wordOk t := by
  obtain ⟨x, hx, rfl⟩ := List.mem_map.mp h
  exact (hT.2 _ hx).1
theorem sm_w {x : Str} (h : wordOk x) : Sm 100 0 (.str x) := sm_str h.2.2.1 h.2.2.2
theorem sm_n {i : Nat} (h : i ≤ 1000) : Sm 100 0 (.int (i : Nat)) := (sm_int (i := (i : Int)) (by omega)).le (by decide) (by decide)
theorem sm_o : ∀ o ∈ ENDSW, Sm 100 0 (optI o) ∧ (D.pyR (optI o)).hasDict = false := fun o ho => by
  have h : o = none ∨ o = some 0 ∨ o = some 1 ∨ o = some 2 ∨ o = some 3 := by simpa [ENDSW] using ho
  rcases h with rfl | rfl | rfl | rfl | rfl
  · exact ⟨sm_non.le (by decide) (by decide), rfl⟩
  all_goals exact ⟨(sm_int (by decide)).le (by decide) (by decide), rfl⟩
theorem sm_l {ds : List D} {m : Nat} (h : ∀ d ∈ ds, Sm 100 0 d ∧ (D.pyR d).hasDict = false) (hm : ds.length ≤ m) : Sm (102 * m + 3) 1 (.tup ds) ∧ (D.pyR (.tup ds)).hasDict = false := ⟨sm_tup (n := 100) (k := 0) (fun d hd => (h d hd).1) hm, hd_all fun d hd => (h d hd).2⟩
theorem sm_l2 {ds : List D} {m : Nat} (h : ∀ d ∈ ds, Sm 411 1 d ∧ (D.pyR d).hasDict = false) (hm : ds.length ≤ m) : Sm (413 * m + 3) 2 (.tup ds) ∧ (D.pyR (.tup ds)).hasDict = false := ⟨sm_tup (n := 411) (k := 1) (fun d hd => (h d hd).1) hm, hd_all fun d hd => (h d hd).2⟩
def dueD (M : PtM) : D := .lst [.tup (M.nodes.map nodeD), .tup (M.shown.map shownD), .tup (M.ranges.map rangeMD)]
theorem due_sho {T : List Tab} {M : PtM} {k : Nat} (hT : schOk T) (m : MOk T M k) (v : VOk T M) (hre : ∀ q ∈ M.ranges, q.2.2.1 ∈ ENDSW ∧ q.2.2.2 ∈ ENDSW) (hs : M.shown.length ≤ 16) : Sho (dueD M) := by
  have one : ∀ {ds : List D}, ds.length ≤ 4 → (∀ d ∈ ds, Sm 100 0 d ∧ (D.pyR d).hasDict = false) → Sm 411 1 (.tup ds) ∧ (D.pyR (.tup ds)).hasDict = false := fun h1 h2 => ⟨(sm_l h2 h1).1.le (by decide) (by decide), (sm_l h2 h1).2⟩
  have n1 : Sm 100 0 D.non ∧ (D.pyR D.non).hasDict = false := ⟨sm_non.le (by decide) (by decide), rfl⟩
  have w1 : ∀ {x : Str}, wordOk x → Sm 100 0 (.str x) ∧ (D.pyR (.str x)).hasDict = false := fun h => ⟨sm_w h, rfl⟩
  have i1 : ∀ {i : Nat}, i ≤ 1000 → Sm 100 0 (.int (i : Nat)) ∧ (D.pyR (.int (i : Nat))).hasDict = false := fun h => ⟨sm_n h, rfl⟩
  have hnl := m.nl
  have a1 := sm_l2 (ds := M.nodes.map nodeD) (m := 16) (fun d hd => by
    obtain ⟨q, hq, rfl⟩ := List.mem_map.mp hd
    obtain ⟨j, hj, e⟩ := List.getElem_of_mem hq
    have hw := w1 (tab_word hT.1 (m.tab q hq))
    rcases v.nd j q (by rw [List.getElem?_eq_getElem hj, e]) with ⟨_, h0⟩ | ⟨_, p, r, h0, hp, hl⟩
    · obtain ⟨a, t⟩ := q
      cases (show a = none from h0)
      refine one (ds := [.non, .non, .str t]) (by simp) (fun d hd => ?_)
      simp only [List.mem_cons, List.not_mem_nil, or_false] at hd
      rcases hd with rfl | rfl | rfl
      · exact n1
      · exact n1
      · exact hw
    · obtain ⟨a, t⟩ := q
      cases (show a = some (p, r) from h0)
      refine one (ds := [.int (p : Nat), .str r, .str t]) (by simp) (fun d hd => ?_)
      simp only [List.mem_cons, List.not_mem_nil, or_false] at hd
      rcases hd with rfl | rfl | rfl
      · exact i1 (by omega)
      · exact w1 (col_word hT.1 hT.2 m (by omega) hl)
      · exact hw) (by rw [List.length_map]; omega)
  have a2 := sm_l2 (ds := M.shown.map shownD) (m := 16) (fun d hd => by
    obtain ⟨q, hq, rfl⟩ := List.mem_map.mp hd
    obtain ⟨h1, h2⟩ := v.sh q hq
    refine one (ds := [.int (q.1 : Nat), .str q.2]) (by simp) (fun d hd => ?_)
    simp only [List.mem_cons, List.not_mem_nil, or_false] at hd
    rcases hd with rfl | rfl
    · exact i1 (by omega)
    · exact w1 (col_word hT.1 hT.2 m h1 h2)) (by rw [List.length_map]; omega)
  have a3 := sm_l2 (ds := M.ranges.map rangeMD) (m := 16) (fun d hd => by
    obtain ⟨q, hq, rfl⟩ := List.mem_map.mp hd
    obtain ⟨h1, h2⟩ := v.rg q hq
    obtain ⟨e1, e2⟩ := hre q hq
    refine one (ds := [.int (q.1 : Nat), .str q.2.1, optI q.2.2.1, optI q.2.2.2]) (by simp) (fun d hd => ?_)
    simp only [List.mem_cons, List.not_mem_nil, or_false] at hd
    rcases hd with rfl | rfl | rfl | rfl
    · exact i1 (by omega)
    · exact w1 (col_word hT.1 hT.2 m h1 h2)
    · exact sm_o _ e1
    · exact sm_o _ e2) (by rw [List.length_map]; have := v.rl; omega)
  have h : ∀ d ∈ ([.tup (M.nodes.map nodeD), .tup (M.shown.map shownD), .tup (M.ranges.map rangeMD)] : List D), Sm (413 * 16 + 3) 2 d ∧ (D.pyR d).hasDict = false := fun d hd => by
    simp only [List.mem_cons, List.not_mem_nil, or_false] at hd
    rcases hd with rfl | rfl | rfl
    · exact a1
    · exact a2
    · exact a3
  exact (sm_lst (m := 3) (fun d hd => (h d hd).1) (by simp)).sho (by decide) (by decide) (fun z => by
    have hh : (D.pyR (.lst ([.tup (M.nodes.map nodeD), .tup (M.shown.map shownD), .tup (M.ranges.map rangeMD)] : List D))).hasDict = false := hd_all fun d hd => (h d hd).2
    rw [hh] at z; cases z)
def preLRt (CV C : Addr) : Pre := fun rs Pl cs r cs' => ∃ T M V, rs = [.dat (schD C T), .dat (wvD V)] ∧ TOk T ∧ VText T (textV V) M ∧ M.nodes = V.nodes ∧ M.shown = V.shown ∧ M.ranges = V.ranges ∧ V.nodes.length ≤ 4 ∧ V.shown.length ≤ 16 ∧ V.ranges.length ≤ 4 ∧ Sho (dueD M) ∧ Pl = [] ∧ cs = [] ∧ r = .dat (.bl true) ∧ cs' = []
end SP
namespace T3
open PySem L2 DV PM SP LK
abbrev s_View_str_ : Stmt := inClass (topS 14) 2
abbrev N_View_str_ : List Str := ["self"]
theorem sc_View_str_ : FnScope N_View_str_ ["self"] (defScope s_View_str_) := ⟨rfl, rfl, rfl, by decide +kernel, rfl, by decide +kernel, by decide +kernel⟩

abbrev s_View_eq_ : Stmt := inClass (topS 14) 3
abbrev N_View_eq_ : List Str := ["self", "other"]
theorem sc_View_eq_ : FnScope N_View_eq_ ["self", "other"] (defScope s_View_eq_) := ⟨rfl, rfl, rfl, by decide +kernel, rfl, by decide +kernel, by decide +kernel⟩

abbrev s_l_is_right : Stmt := topS 44
abbrev N_l_is_right : List Str := ["schema", "view", "made", "due", "thing"]
theorem sc_l_is_right : FnScope N_l_is_right ["schema", "view"] (defScope s_l_is_right) := ⟨rfl, rfl, rfl, by decide +kernel, rfl, by decide +kernel, by decide +kernel⟩

section
variable {P : Program} {w : World} {K : PySem.W.Frag} {mg : Str → Option Value} {base : Heap} {C CV : Addr} {mcV : Value}
theorem ok_vstr {f : Addr} {fd : FuncData} (F : Fun K "__str__" "View.__str__" s_View_str_ f fd) (cV : ViewCls K CV) (b_str : mg "str" = none) : FnOk P w K mg base CX0 1 f fd ["self"] (spM K (preVStr CV C)) := by
  refine ok_body F sc_View_str_ (fun rs Pl cs r cs' h => ?_) (fun X hX hr => ?_)
  · obtain ⟨T, M, x, rfl, _⟩ := h
    rfl
  obtain ⟨cdv, A, outer, s, H, E, rfl⟩ := hX
  have nd := sc_View_str_.nd
  refine ⟨_, (pss_one (ps_ret (pe_callTy call_strS1 (by rfl) b_str (by decide +kernel) (pa_cons (pe_fld (pv 0) rfl) pa_nil)))), ?_⟩
  intro rs Pl cl r cs' hp B0 H0 σ Dn st hP hd hn
  obtain ⟨T, M, x, rfl, rfl, rfl, rfl, rfl⟩ := hp
  exact st_ret st (ev_cb (ea_cons (ev_vtext cV (ev_var (i := 0) rfl)) ea_nil) cb_strS) hd
theorem ok_veq {f fE : Addr} {fd fdE : FuncData} (F : Fun K "__eq__" "View.__eq__" s_View_eq_ f fd) (cV : ViewCls K CV) (ci : BaseIs K CV) (g_View : mg "View" = some (.ref CV)) (b_isinstance : mg "isinstance" = none)
    (G_eq : FnOk P w K mg base CX0 1 fE fdE ["self", "other"] (spM K (preSEq C))) (B_eq : Binds K fdE ["self", "other"] []) (S_eq : PySem.W.findIn K (.ref C) "__eq__" = some (some (.ref fE))) (Fn_eq : PySem.W.isFn K (.ref fE) = true) :
    FnOk P w K mg base CX0 3 f fd ["self", "other"] (spM K (preVEq CV C)) := by
  refine ok_body F sc_View_eq_ (fun rs Pl cs r cs' h => ?_) (fun X hX hr => ?_)
  · obtain ⟨T, M, x, U, N, y, rfl, _⟩ := h
    rfl
  obtain ⟨cdv, A, outer, s, H, E, rfl⟩ := hX
  have nd := sc_View_eq_.nd
  refine ⟨_, (pss_one (ps_ret (pe_and (pe_callB call_isi (by rfl) b_isinstance (by decide +kernel) (pa_cons (pv 1) (pa_cons (pe_glob (v := .ref CV) rfl g_View rfl) pa_nil))) (pe_and (pe_cmpR (OWN.op_eqOwn G_eq B_eq S_eq Fn_eq (hr.mono (by decide))) (pe_fld (pv 0) rfl) (pe_fld (pv 1) rfl) (nomark _)) (pe_one (pe_cmpR (op_eqA hr.units) (pe_fld (pv 0) rfl) (pe_fld (pv 1) rfl) (nomark _))))))), ?_⟩
  intro rs Pl cl r cs' hp B0 H0 σ Dn st hP hd hn
  obtain ⟨T, M, x, U, N, y, rfl, hT, hU, rfl, rfl, rfl, rfl⟩ := hp
  exact st_ret st (ev_andV (ev_cb (ea_cons (ev_var (i := 1) (r := .dat (viewD CV C U N y)) rfl) (ea_cons ev_val ea_nil)) (cb_isB ci)) (fun _ => ev_andV (ev_op (ev_vsch cV (ev_var (i := 0) (r := .dat (viewD CV C T M x)) rfl)) (ev_vsch cV (ev_var (i := 1) (r := .dat (viewD CV C U N y)) rfl)) (od_eqOwn (neg := false) hT hU)) (fun _ => ev_op (ev_vtext cV (ev_var (i := 0) (r := .dat (viewD CV C T M x)) rfl)) (ev_vtext cV (ev_var (i := 1) (r := .dat (viewD CV C U N y)) rfl)) od_eqS))) hd
theorem ok_veqO {f fE : Addr} {fd fdE : FuncData} (F : Fun K "__eq__" "View.__eq__" s_View_eq_ f fd) (g_View : mg "View" = some (.ref CV)) (b_isinstance : mg "isinstance" = none)
    (G_eq : FnOk P w K mg base CX0 1 fE fdE ["self", "other"] (spM K (preSEq C))) (B_eq : Binds K fdE ["self", "other"] []) (S_eq : PySem.W.findIn K (.ref C) "__eq__" = some (some (.ref fE))) (Fn_eq : PySem.W.isFn K (.ref fE) = true) :
    FnOk P w K mg base CX0 3 f fd ["self", "other"] (spM K (preVEqO (K := K) CV C)) := by
  refine ok_body F sc_View_eq_ (fun rs Pl cs r cs' h => ?_) (fun X hX hr => ?_)
  · obtain ⟨T, M, x, d, rfl, _⟩ := h
    rfl
  obtain ⟨cdv, A, outer, s, H, E, rfl⟩ := hX
  have nd := sc_View_eq_.nd
  refine ⟨_, (pss_one (ps_ret (pe_and (pe_callB call_isi (by rfl) b_isinstance (by decide +kernel) (pa_cons (pv 1) (pa_cons (pe_glob (v := .ref CV) rfl g_View rfl) pa_nil))) (pe_and (pe_cmpR (OWN.op_eqOwn G_eq B_eq S_eq Fn_eq (hr.mono (by decide))) (pe_fld (pv 0) rfl) (pe_fld (pv 1) rfl) (nomark _)) (pe_one (pe_cmpR (op_eqA hr.units) (pe_fld (pv 0) rfl) (pe_fld (pv 1) rfl) (nomark _))))))), ?_⟩
  intro rs Pl cl r cs' hp B0 H0 σ Dn st hP hd hn
  obtain ⟨T, M, x, d, rfl, o, rfl, rfl, rfl, rfl⟩ := hp
  exact st_ret (cs1 := []) st (ev_andV (a := false) (b := true) (ev_cb (ea_cons (ev_var (i := 1) rfl) (ea_cons ev_val ea_nil)) (cb_isOV o)) (fun z => by cases z)) hd
theorem ok_lright {f fVP pV fS fE fVE : Addr} {fd fdS fdE fdVE : FuncData} (F : Fun K "_law_is_right" "_law_is_right" s_l_is_right f fd) (cV : ViewCls K CV) (sc : SchCls K C) (ap : Apart K CV) (apC : PySem.W.kitOne K (.ref C) (.ref CV) = some false) (nfC : PySem.W.notFirst K CV (.ref C) = true)
    (g_View : mg "View" = some (.ref CV)) (R_V : ClX.CRead K CV mcV) (M_vparse : ClX.CMet K CV mcV "parse" pV fVP) (F_vparse : L2.FnR P w K mg base CX0 10 fVP (spM K (preVParse CV C)))
    (G_str : FnOk P w K mg base CX0 1 fS fdS ["self"] (spM K (preVStr CV C))) (B_str : Binds K fdS ["self"] []) (S_str : PySem.W.findIn K (.ref CV) "__str__" = some (some (.ref fS))) (Fn_str : PySem.W.isFn K (.ref fS) = true)
    (G_eq : FnOk P w K mg base CX0 1 fE fdE ["self", "other"] (spM K (preSEq C))) (B_eq : Binds K fdE ["self", "other"] []) (S_eq : PySem.W.findIn K (.ref C) "__eq__" = some (some (.ref fE))) (Fn_eq : PySem.W.isFn K (.ref fE) = true) (S_ne : PySem.W.findIn K (.ref C) "__ne__" = some (some (.builtin "object.__ne__"))) (M_obj : PySem.W.mroIn K C (.type "object") = some true)
    (G_veqO : FnOk P w K mg base CX0 3 fVE fdVE ["self", "other"] (spM K (preVEqO (K := K) CV C))) (B_veq : Binds K fdVE ["self", "other"] []) (S_veq : PySem.W.findIn K (.ref CV) "__eq__" = some (some (.ref fVE))) (Fn_veq : PySem.W.isFn K (.ref fVE) = true) (S_vne : PySem.W.findIn K (.ref CV) "__ne__" = some (some (.builtin "object.__ne__"))) (M_vobj : PySem.W.mroIn K CV (.type "object") = some true)
    (b_str : mg "str" = none) (b_tuple : mg "tuple" = none) (b_repr : mg "repr" = none) :
    GW.FnG P w K mg base CX0 11 f fd ["schema", "view"] (spM K (preLRt CV C)) := by
  refine GW.ok F sc_l_is_right (fun vs H Q E h => ?_) (fun cdv A outer s H vs Q E hr hG h => ?_)
  · obtain ⟨B0, rs, Pl, cs, r, cs', ⟨T, M, V, rfl, _⟩, _, hrs, _, _⟩ := h
    have := hrs.length
    simpa using this
  have nd := sc_l_is_right.nd
  refine ⟨_, (pss_cons (ps_set (i := 2) nd rfl (.inl rfl) (ClX.pe_cmeth (pe_glob (v := .ref CV) rfl g_View rfl) R_V M_vparse F_vparse (hr.mono (by decide)) pass0 (pa_cons (pv 0) (pa_cons (pe_dget (hu_of hr) (pv 1) pe_str (fun _ _ => rfl)) pa_nil))))
      (pss_cons (ps_if (PW.pt (pw_or (pt_cmpR (op_neA hr.units) (pe_callTy (OWN.call_strOwn G_str B_str S_str Fn_str (hr.mono (by decide))) (by rfl) b_str (by decide +kernel) (pa_cons (pv 2) pa_nil)) (pe_dget (hu_of hr) (pv 1) pe_str (fun _ _ => rfl)) (nomark _)) (pw_or1 (pt_cmpR (OWN.op_neOwn G_eq B_eq S_eq Fn_eq S_ne M_obj (hr.mono (by decide))) (pe_fld (pv 2) rfl) (pv 0) (nomark _))))) (pss_one (ps_ret pe_bl)) pss_nil)
      (pss_cons (ps_set (i := 3) nd rfl (.inl rfl) (pe_lst (pa_cons (pe_callTy call_tuple1 (by rfl) b_tuple (by decide +kernel) (pa_cons (pe_dget (hu_of hr) (pv 1) pe_str (fun _ _ => rfl)) pa_nil)) (pa_cons (pe_callTy call_tuple1 (by rfl) b_tuple (by decide +kernel) (pa_cons (pe_dget (hu_of hr) (pv 1) pe_str (fun _ _ => rfl)) pa_nil)) (pa_cons (pe_callTy call_tuple1 (by rfl) b_tuple (by decide +kernel) (pa_cons (pe_dget (hu_of hr) (pv 1) pe_str (fun _ _ => rfl)) pa_nil)) pa_nil)))))
      (pss_cons (ps_if (pt_cmpR (op_neA hr.units) (pe_callB (call_reprD hr hG) (by rfl) b_repr (by decide +kernel) (pa_cons (pe_lst (pa_cons (pe_fld (pv 2) rfl) (pa_cons (pe_fld (pv 2) rfl) (pa_cons (pe_fld (pv 2) rfl) pa_nil)))) pa_nil)) (pe_callB (call_reprD hr hG) (by rfl) b_repr (by decide +kernel) (pa_cons (pv 3) pa_nil)) (nomark _)) (pss_one (ps_ret pe_bl)) pss_nil)
      (pss_cons (ps_for PassesOwn.never rfl (pi_list (pe_lst (pa_cons (pe_dget (hu_of hr) (pv 1) pe_str (fun _ _ => rfl)) (pa_cons pe_non (pa_cons pe_int (pa_cons (pe_fld (pv 2) rfl) (pa_cons (pe_lst (pa_cons (pv 2) pa_nil)) (pa_cons (pv 0) pa_nil)))))))) (pg_name (i := 4) nd (by rfl) (by first | exact .inl rfl | exact .inr rfl)) (pss_one (ps_if (PW.pt (pw_or (pt_cmpR (op_eqOth G_veqO B_veq S_veq Fn_veq (hr.mono (by decide))) (pv 2) (pv 4) (nomark _)) (pw_or1 (pt_not (pt_cmpR (op_neOth G_veqO B_veq S_veq Fn_veq S_vne M_vobj (hr.mono (by decide))) (pv 2) (pv 4) (nomark _)))))) (pss_one (ps_ret pe_bl)) pss_nil)))
      (pss_one (ps_ret pe_bl))))))), ?_⟩
  obtain ⟨B0, rs, Pl, cs, r, cs', ⟨T, M, V, rfl, hT, hv, hn1, hn2, hn3, hl1, hl2, hl3, hsh, rfl, rfl, rfl, rfl⟩, ex0, hrs, _, q0⟩ := h
  have hd : Done K [] B0 H (.dat (.bl true)) [] Q := fun v B' H' s e m x => q0 v B' H' s e m x
  have st := sta_start (N := N_l_is_right) (K := K) (P := []) (cs := []) ex0 hrs True.intro
  generalize L2.start N_l_is_right vs = σ at st ⊢
  have st : Sta K [] B0 H [.dat (schD C T), .dat (wvD V), .any, .any, .any] [] σ H := st
  have hne : (M.nodes.map nodeD).length ≤ 4 := by rw [List.length_map, hn1]; exact hl1
  refine st_seq (st_asg (i := 2) (r := .dat (viewD CV C T M (textV V))) (cs1 := []) st (ev_cmeth (ea_cons (ev_var (i := 0) rfl) (ea_cons (ev_dgetS (ev_var (i := 1) (r := .dat (wvD V)) rfl) ev_str (d := .str (textV V)) rfl) ea_nil)) ⟨textV V, T, M, rfl, hT, hv, rfl, rfl, rfl, rfl⟩) (fun σ1 H1 st1 => ?_))
  dsimp only []
  have st1 : Sta K [] B0 H [.dat (schD C T), .dat (wvD V), .dat (viewD CV C T M (textV V)), .any, .any] [] σ1 H1 := st1
  refine st_seq (st_if (b := (false || false)) (cs1 := []) st1 (et_or (et_test (Ev.eq (ev_op (ev_cb (ea_cons (ev_var (i := 2) rfl) ea_nil) cb_strV) (ev_dgetS (ev_var (i := 1) (r := .dat (wvD V)) rfl) ev_str (d := .str (textV V)) rfl) od_neS) (by simp))) (fun _ => et_test (Ev.eq (ev_op (ev_vsch cV (ev_var (i := 2) rfl)) (ev_var (i := 0) rfl) (od_eqOwn (neg := true) hT.sc.1 hT.sc.1)) (by simp)))) (fun hb => by cases hb) (fun hb H2 st2 => ?_))
  refine st_next ?_
  dsimp only []
  have tv : ∀ {ss : List Sl} {k : Str} {ds : List D}, ss[1]? = some (.dat (wvD V)) → valD [((.inr "nodes" : Key), D.lst (V.nodes.map nodeD)), (.inr "shown", .lst (V.shown.map shownD)), (.inr "ranges", .lst (V.ranges.map rangeMD)), (.inr "text", .str (textV V))] (.inr k) = some (.lst ds) → Ev K [] ss [] (tCB (rTuple1 K) (tCons (tDGet (tVar 1) (tC (.str k))) tNil)) (.dat (.tup ds)) [] := fun h1 h2 => ev_cb (ea_cons (ev_dgetS (ev_var (i := 1) h1) ev_str h2) ea_nil) cb_tupleL
  refine st_seq (st_asg (i := 3) (r := .dat (dueD M)) (cs1 := []) st2 (ev_lst (ds := [.tup (M.nodes.map nodeD), .tup (M.shown.map shownD), .tup (M.ranges.map rangeMD)]) (ea_cons (tv rfl (by rw [hn1]; rfl)) (ea_cons (tv rfl (by rw [hn2]; rfl)) (ea_cons (tv rfl (by rw [hn3]; rfl)) ea_nil))) (by simp)) (fun σ3 H3 st3 => ?_))
  dsimp only []
  have st3 : Sta K [] B0 H [.dat (schD C T), .dat (wvD V), .dat (viewD CV C T M (textV V)), .dat (dueD M), .any] [] σ3 H3 := st3
  refine st_seq (st_if (b := false) (cs1 := []) st3 (et_test (Ev.eq (ev_op (ev_cb (ea_cons (ev_lst (ds := [.tup (M.nodes.map nodeD), .tup (M.shown.map shownD), .tup (M.ranges.map rangeMD)]) (ea_cons (ev_vnodes' cV (ev_var (i := 2) rfl)) (ea_cons (ev_vshown' cV (ev_var (i := 2) rfl)) (ea_cons (ev_vranges' cV (ev_var (i := 2) rfl)) ea_nil))) (by simp)) ea_nil) (cb_reprD (d := dueD M) hsh)) (ev_cb (ea_cons (ev_var (i := 3) rfl) ea_nil) (cb_reprD hsh)) od_neS) (by simp))) (fun hb => by cases hb) (fun hb H4 st4 => ?_))
  refine st_next ?_
  dsimp only []
  refine st_seq (t := tFor _ _ _) ?_
  refine st_for (α := Unit) (cs1 := []) st4 (wd_lst (ev_lst (ds := [.str (textV V), .non, .int 0, .tup (M.nodes.map nodeD), .lst [viewD CV C T M (textV V)], schD C T]) (ea_cons (ev_dgetS (ev_var (i := 1) (r := .dat (wvD V)) rfl) ev_str rfl) (ea_cons ev_non (ea_cons ev_int (ea_cons (ev_vnodes' cV (ev_var (i := 2) rfl)) (ea_cons (ev_lst (ds := [viewD CV C T M (textV V)]) (ea_cons (ev_var (i := 2) rfl) ea_nil) (by simp)) (ea_cons (ev_var (i := 0) rfl) ea_nil)))))) (by simp))) (fun _ _ => True) (fun _ _ => [.dat (schD C T), .dat (wvD V), .dat (viewD CV C T M (textV V)), .dat (dueD M), .any]) (fun _ _ => []) () True.intro ⟨.rfl _, .rfl _, .rfl _, .rfl _, .any _, True.intro⟩ rfl ?_ ?_
  · intro B2 H2' s2 j d _ hd2 _
    have ho : Oth K CV d := by
      have hm := List.mem_of_getElem? hd2
      simp only [List.mem_cons, List.not_mem_nil, or_false] at hm
      rcases hm with rfl | rfl | rfl | rfl | rfl | rfl
      · exact oth_ty ap rfl
      · exact oth_ty ap rfl
      · exact oth_ty ap rfl
      · exact oth_ty ap rfl
      · exact oth_ty ap rfl
      · exact oth_sch sc apC nfC
    refine ⟨_, _, g_name, fun σ5 H5 st5 => ?_⟩
    exact st_if (b := ((if false then !false else false) || !(if true then !false else false))) (cs1 := []) st5 (et_or (et_test (ev_op (ev_var (i := 2) rfl) (ev_var (i := 4) rfl) (od_veqO (neg := false) ho))) (fun _ => et_not (et_test (ev_op (ev_var (i := 2) rfl) (ev_var (i := 4) rfl) (od_veqO (neg := true) ho))))) (fun hb => by cases hb) (fun hb H6 st6 => ⟨(), True.intro, st6.le ⟨.rfl _, .rfl _, .rfl _, .rfl _, .any _, True.intro⟩⟩)
  · intro _ σ5 H5 _ st5
    dsimp only []
    exact st_ret (cs1 := []) st5 ev_bl hd
end
end T3
/-! W7: names that are words of texts. -/
namespace SP
open PySem L2 DV PM RG LK
variable {K : PySem.W.Frag}
def okIntB (w : Str) : Bool := decide (w.length ≤ 600) && (!goodD w || (match PySem.intText? w with | some n => decide (n.natAbs < 10 ^ 9) | none => false))
theorem okInt_of {w : Str} (h : okIntB w = true) : okInt w := by
  unfold okIntB at h
  rw [Bool.and_eq_true] at h
  refine ⟨of_decide_eq_true h.1, fun hg => ?_⟩
  have h2 := h.2
  rw [hg] at h2
  cases e : PySem.intText? w with
  | none => rw [e] at h2; cases h2
  | some n => rw [e] at h2; exact ⟨n, rfl, by simpa using h2⟩
def vtextB (x : Str) : Bool := decide (x.length ≤ 10000) && (decide ((Txt.split x "\n").length ≤ 900) && (Txt.split x "\n").all fun row => decide (row.length ≤ 10000) && (Txt.split row " ").all okIntB)
theorem vtext_of {x : Str} (h : vtextB x = true) : vtext x := by
  unfold vtextB at h
  rw [Bool.and_eq_true, Bool.and_eq_true, List.all_eq_true] at h
  refine ⟨of_decide_eq_true h.1, of_decide_eq_true h.2.1, fun row hr => ?_⟩
  have h2 := h.2.2 row hr
  rw [Bool.and_eq_true, List.all_eq_true] at h2
  exact ⟨of_decide_eq_true h2.1, fun w hw => okInt_of (h2.2 w hw)⟩
theorem parsed {C : Addr} {V : List Tab} (h : okTabs [] V) (n : V ≠ []) : preParse C [.val (.ref C), .dat (.str (textOf V))] [] [] (.dat (schD C V)) [] := by
  obtain ⟨a, b⟩ := text_ok (ok_tabsOk h) n
  exact ⟨textOf V, V, rfl, a, b, read_text h n, ok_sch h, rfl, rfl, rfl, rfl⟩
def TW : List Tab := [("view", [("range", none), ("shown", none)]), ("shown", [("follow", some "view"), ("range", some "view")])]
def XW : List Str := ["table view", "  plain range", "  plain shown", "table shown", "  ref follow view", "  ref range view"]
def XV1 : Str := "view view\n  shown range\n  shown shown\n  range range 0 1\n  range shown - -"
def XV2 : Str := "view shown\n  follow follow\n    shown range\n  follow range\n    range shown 1 1"
def XV3 : Str := "view shown\n  follow range"
theorem okW : okTabs [] TW := by repeat' first | exact True.intro | apply And.intro | decide +kernel
theorem textW : textOf TW = Txt.join "\n" XW := by decide +kernel
theorem tokW : TOk TW := ⟨ok_sch okW, by
  have : ∀ t ∈ TW, ∀ c ∈ t.2, (c.2.all fun m => decide (m ∈ TW.map Prod.fst)) = true := by decide +kernel
  intro t ht c hc m hm
  have := this t ht c hc
  rw [hm] at this
  simpa using this, by
  have : ∀ t ∈ TW, (decide ((t.2.map (·.1)).Nodup) && decide (t.2.length ≤ 1000)) = true := by decide +kernel
  intro t ht
  have z := this t ht
  rw [Bool.and_eq_true] at z
  exact ⟨of_decide_eq_true z.1, of_decide_eq_true z.2⟩⟩
theorem vtW : ∀ x ∈ ([XV1, XV2, XV3] : List Str), (vtextB x && (readParts TW 0 (Txt.split x "\n") PtM0).isSome) = true := by decide +kernel
theorem vW {x : Str} (h : x ∈ ([XV1, XV2, XV3] : List Str)) : ∃ M, VText TW x M := by
  have z := vtW x h
  rw [Bool.and_eq_true] at z
  obtain ⟨M, hM⟩ := Option.isSome_iff_exists.mp z.2
  exact ⟨M, vtext_of z.1, hM⟩
theorem nW : (readParts TW 0 (Txt.split XV3 "\n") PtM0).map (·.nodes) = some ([(none, "shown"), (some (0, "range"), "view")] : List NodeM) := by decide +kernel
def preNone : Pre := fun rs Pl cs r cs' => rs = [] ∧ Pl = [] ∧ cs = [] ∧ r = .dat (.bl true) ∧ cs' = []
end SP
namespace T3
open PySem L2 DV PM SP LK
abbrev s_l_words_right : Stmt := topS 45
abbrev N_l_words_right : List Str := ["lines", "schema", "texts", "text", "made"]
theorem sc_l_words_right : FnScope N_l_words_right [] (defScope s_l_words_right) := ⟨rfl, rfl, rfl, by decide +kernel, rfl, by decide +kernel, by decide +kernel⟩

section
variable {P : Program} {w : World} {K : PySem.W.Frag} {mg : Str → Option Value} {base : Heap} {C CV : Addr} {mc mcV : Value}
theorem ok_lwords {f fVP pV fS fPa pC : Addr} {fd fdS : FuncData} (F : Fun K "_law_words_right" "_law_words_right" s_l_words_right f fd) (cV : ViewCls K CV)
    (g_View : mg "View" = some (.ref CV)) (R_V : ClX.CRead K CV mcV) (M_vparse : ClX.CMet K CV mcV "parse" pV fVP) (F_vparse : L2.FnR P w K mg base CX0 10 fVP (spM K (preVParse CV C)))
    (g_Schema : mg "Schema" = some (.ref C)) (R_S : ClX.CRead K C mc) (M_parse : ClX.CMet K C mc "parse" pC fPa) (F_parse : L2.FnR P w K mg base CX0 5 fPa (spM K (preParse C)))
    (G_str : FnOk P w K mg base CX0 1 fS fdS ["self"] (spM K (preVStr CV C))) (B_str : Binds K fdS ["self"] []) (S_str : PySem.W.findIn K (.ref CV) "__str__" = some (some (.ref fS))) (Fn_str : PySem.W.isFn K (.ref fS) = true)
    (b_str : mg "str" = none) :
    FnOk P w K mg base CX0 11 f fd [] (spM K preNone) := by
  refine ok_body F sc_l_words_right (fun rs Pl cs r cs' h => ?_) (fun X hX hr => ?_)
  · obtain ⟨rfl, _⟩ := h
    rfl
  obtain ⟨cdv, A, outer, s, H, E, rfl⟩ := hX
  have nd := sc_l_words_right.nd
  refine ⟨_, (pss_cons (ps_set (i := 0) nd rfl (.inl rfl) (pe_lst (pa_cons pe_str (pa_cons pe_str (pa_cons pe_str (pa_cons pe_str (pa_cons pe_str (pa_cons pe_str pa_nil))))))))
      (pss_cons (ps_set (i := 1) nd rfl (.inl rfl) (ClX.pe_cmeth (pe_glob (v := .ref C) rfl g_Schema rfl) R_S M_parse F_parse (hr.mono (by decide)) pass0 (pa_cons (pe_join pe_str (pv 0)) pa_nil)))
      (pss_cons (ps_set (i := 2) nd rfl (.inl rfl) (pe_lst (pa_cons pe_str pa_nil)))
      (pss_cons (ps_expr (pe_bm PySem.F.plainAttrs_list PySem.F.slot_list_append PySem.F.type_list_append mt_append (pv 2) (pa_cons pe_str pa_nil)))
      (pss_cons (ps_for PassesOwn.never rfl (pi_list (pv 2)) (pg_name (i := 3) nd (by rfl) (by first | exact .inl rfl | exact .inr rfl)) (pss_one (ps_if (pt_cmpR (op_neA hr.units) (pe_callTy (OWN.call_strOwn G_str B_str S_str Fn_str (hr.mono (by decide))) (by rfl) b_str (by decide +kernel) (pa_cons (ClX.pe_cmeth (pe_glob (v := .ref CV) rfl g_View rfl) R_V M_vparse F_vparse (hr.mono (by decide)) pass0 (pa_cons (pv 1) (pa_cons (pv 3) pa_nil))) pa_nil)) (pv 3) (nomark _)) (pss_one (ps_ret pe_bl)) pss_nil)))
      (pss_cons (ps_set (i := 4) nd rfl (.inl rfl) (ClX.pe_cmeth (pe_glob (v := .ref CV) rfl g_View rfl) R_V M_vparse F_vparse (hr.mono (by decide)) pass0 (pa_cons (pv 1) (pa_cons pe_str pa_nil))))
      (pss_one (ps_ret (pe_cmpR (op_eqA hr.units) (pe_fld (pv 4) rfl) (pe_tup (pa_cons (pe_tup (pa_cons pe_non (pa_cons pe_non (pa_cons pe_str pa_nil)))) (pa_cons (pe_tup (pa_cons pe_int (pa_cons pe_str (pa_cons pe_str pa_nil)))) pa_nil))) (nomark _)))))))))), ?_⟩
  intro rs Pl cl r cs' hp B0 H0 σ Dn st hP hd hn
  obtain ⟨rfl, rfl, rfl, rfl, rfl⟩ := hp
  have st : Sta K [] B0 H0 [.any, .any, .any, .any, .any] [] σ H0 := st
  refine st_seq (st_asg (i := 0) (r := .dat (.lst (XW.map D.str))) (cs1 := []) st (ev_lst (ds := XW.map D.str) (ea_cons ev_str (ea_cons ev_str (ea_cons ev_str (ea_cons ev_str (ea_cons ev_str (ea_cons ev_str ea_nil)))))) (by simp [XW])) (fun σ1 H1 st1 => ?_))
  dsimp only []
  have st1 : Sta K [] B0 H0 [.dat (.lst (XW.map D.str)), .any, .any, .any, .any] [] σ1 H1 := st1
  refine st_seq (st_asg (i := 1) (r := .dat (schD C TW)) (cs1 := []) st1 (ev_cmeth (ea_cons ((ev_join (a := "\n") ev_str (ev_var (i := 0) rfl) (by decide +kernel)).eq (by rw [← textW])) ea_nil) (parsed okW (by decide))) (fun σ2 H2 st2 => ?_))
  dsimp only []
  have st2 : Sta K [] B0 H0 [.dat (.lst (XW.map D.str)), .dat (schD C TW), .any, .any, .any] [] σ2 H2 := st2
  obtain ⟨B2, s2, o2⟩ := st2
  refine st_seq ?_
  show tLst (tCons _ tNil) σ2 H2 _
  refine lst_one ?_
  refine (ev_str : Ev K [] _ [] (tC (.str XV1)) (.dat (.str XV1)) []) B2 H2 σ2 o2 _ fun w3 B3 H3 s3 o3 r3 => ?_
  refine ⟨le_line (by simp), fun a ha => ?_⟩
  have l4 : LC K B3 (upd H3 a (.lst [w3])) a [.str XV1] := ⟨[w3], upd_same, o3.ex.free ha, .cons r3 .nil⟩
  have s4 : Stp [] B3 H3 B3 (upd H3 a (.lst [w3])) := stp_upd (Stp.refl _ _ _) ha
  have o4 := o3.step0 s4 (ex_upd o3.ex (o3.ex.free ha))
  have s04 := (s2.trans s3).trans s4
  have ha0 : H0 a = none := free0P (s2.trans s3) ha
  generalize upd H3 a (.lst [w3]) = H4 at l4 s4 o4 s04 ⊢
  refine g_go ?_
  dsimp only []
  have o4 : Okk K [] [.dat (.lst (XW.map D.str)), .dat (schD C TW), .val (.ref a), .any, .any] [] B3 H4 (σ2.set 2 (some (.ref a))) := ⟨o4.ex, o4.sl.set (i := 2) (v := .ref a) (r := .val (.ref a)) rfl, True.intro⟩
  generalize σ2.set 2 (some (V.ref a)) = σ4 at o4
  refine st_seq ?_
  obtain ⟨u2, k2, e2⟩ := o4.sl.get 2 (.val (.ref a)) rfl (by intro z; cases z)
  cases (show u2 = .ref a from e2)
  refine ⟨.ref a, k2, l4.ty, ?_⟩
  refine (ev_str : Ev K [] _ [] (tC (.str XV2)) (.dat (.str XV2)) []) B3 H4 σ4 o4 _ fun w5 B5 H5 s5 o5 r5 => ?_
  refine tnil_go ?_
  refine app_cell (l4.step s5 (by simp)) o5.ex (by simp) r5 fun H6 s6 e6 l6 far => ?_
  obtain ⟨vs, al, bl, rl⟩ := l6
  have s06 : Stp [] B0 H0 B5 H6 := stp_newP (s04.trans s5) s6 (fun q hq => by rw [List.mem_singleton.mp hq]; exact .inr ha0)
  have o6 : Okk K [] [.dat (.lst (XW.map D.str)), .dat (schD C TW), .val (.ref a), .any, .any] [] B5 H6 σ4 := ⟨e6, o5.sl, True.intro⟩
  have o7 := okk_pub o6 bl al (by simp)
  have s07 := stp_pubP (a := a) (o := .lst vs) s06 bl ha0
  have o7 : Okk K [] [.dat (.lst (XW.map D.str)), .dat (schD C TW), .dat (.lst (([XV1, XV2] : List Str).map D.str)), .any, .any] [] (upd B5 a (.lst vs)) H6 σ4 := ⟨o7.ex, slots_dat o7.sl (i := 2) rfl (.lst upd_same (rl.mono (Ex.new bl))), True.intro⟩
  dsimp only []
  have st7 : Sta K [] B0 H0 [.dat (.lst (XW.map D.str)), .dat (schD C TW), .dat (.lst (([XV1, XV2] : List Str).map D.str)), .any, .any] [] σ4 H6 := ⟨_, s07, o7⟩
  refine st_seq (t := tFor _ _ _) ?_
  refine st_for (α := Unit) (cs1 := []) st7 (wd_lst (ev_var (i := 2) rfl)) (fun _ _ => True) (fun _ _ => [.dat (.lst (XW.map D.str)), .dat (schD C TW), .dat (.lst (([XV1, XV2] : List Str).map D.str)), .any, .any]) (fun _ _ => []) () True.intro ⟨.rfl _, .rfl _, .rfl _, .any _, .any _, True.intro⟩ rfl ?_ ?_
  · intro B8 H8 s8 j d _ hd2 _
    obtain ⟨x, hx, rfl⟩ := map_get hd2
    obtain ⟨M, hM⟩ := vW (x := x) (by
      have := List.mem_of_getElem? hx
      simp only [List.mem_cons, List.not_mem_nil, or_false] at this ⊢
      rcases this with rfl | rfl
      · exact .inl rfl
      · exact .inr (.inl rfl))
    refine ⟨_, _, g_name, fun σ9 H9 st9 => ?_⟩
    refine st_if (b := false) (cs1 := []) st9 (et_test (Ev.eq (ev_op (ev_cb (ea_cons (ev_cmeth (ea_cons (ev_var (i := 1) rfl) (ea_cons (ev_var (i := 3) (r := .dat (.str x)) rfl) ea_nil)) (⟨x, TW, M, rfl, tokW, hM, rfl, rfl, rfl, rfl⟩ : preVParse CV C _ _ _ (.dat (viewD CV C TW M x)) _)) ea_nil) cb_strV) (ev_var (i := 3) (r := .dat (.str x)) rfl) od_neS) (by simp))) (fun hb => by cases hb) (fun hb H10 st10 => ⟨(), True.intro, st10.le ⟨.rfl _, .rfl _, .rfl _, .any _, .any _, True.intro⟩⟩)
  · intro _ σ9 H9 _ st9
    dsimp only []
    obtain ⟨M, hM⟩ := vW (x := XV3) (by simp)
    have hN : M.nodes = ([(none, "shown"), (some (0, "range"), "view")] : List NodeM) := by
      have := nW
      rw [hM.rd] at this
      exact Option.some.inj this
    refine st_seq (st_asg (i := 4) (r := .dat (viewD CV C TW M XV3)) (cs1 := []) st9 (ev_cmeth (ea_cons (ev_var (i := 1) rfl) (ea_cons ev_str ea_nil)) ⟨XV3, TW, M, rfl, tokW, hM, rfl, rfl, rfl, rfl⟩) (fun σ10 H10 st10 => ?_))
    dsimp only []
    have st10 : Sta K [] B0 H0 [.dat (.lst (XW.map D.str)), .dat (schD C TW), .dat (.lst (([XV1, XV2] : List Str).map D.str)), .any, .dat (viewD CV C TW M XV3)] [] σ10 H10 := st10
    have evt : Ev K [] [.dat (.lst (XW.map D.str)), .dat (schD C TW), .dat (.lst (([XV1, XV2] : List Str).map D.str)), .any, .dat (viewD CV C TW M XV3)] [] (tFld K (tVar 4) "nodes") (.dat (.tup [.tup [.non, .non, .str "shown"], .tup [.int 0, .str "range", .str "view"]])) [] := by
      have := ev_vnodes' (P := []) (cs := []) (cs1 := []) (ss := [.dat (.lst (XW.map D.str)), .dat (schD C TW), .dat (.lst (([XV1, XV2] : List Str).map D.str)), .any, .dat (viewD CV C TW M XV3)]) cV (ev_var (i := 4) (r := .dat (viewD CV C TW M XV3)) rfl)
      rw [hN] at this
      exact this
    exact st_ret (cs1 := []) st10 (ev_op evt (ev_tup (ds := [.tup [.non, .non, .str "shown"], .tup [.int 0, .str "range", .str "view"]]) (ea_cons (ev_tup (ds := [.non, .non, .str "shown"]) (ea_cons ev_non (ea_cons ev_non (ea_cons ev_str ea_nil))) (by simp)) (ea_cons (ev_tup (ds := [.int 0, .str "range", .str "view"]) (ea_cons ev_int (ea_cons ev_str (ea_cons ev_str ea_nil))) (by simp)) ea_nil)) (by simp)) (od_r (od_eq (d := .tup [.tup [.non, .non, .str "shown"], .tup [.int 0, .str "range", .str "view"]]) (e := .tup [.tup [.non, .non, .str "shown"], .tup [.int 0, .str "range", .str "view"]]) (b := true) 3 3 (by decide +kernel) (by decide +kernel) (by decide +kernel) (by decide +kernel) (by simp)))) hd
end
end T3
/-! W8: schemas with a table more, a column more; a drawn view's text is one of them too. -/
namespace SP
open PySem L2 DV PM RG LK IX
theorem cols_facts {T : List Tab} : ∀ {p done : List Col}, okCols T done p → (done.map Prod.fst).Nodup → ((done ++ p).map Prod.fst).Nodup ∧ (∀ c ∈ p, fineB c.1 = true ∧ ∀ e, c.2 = some e → e ∈ T.map Prod.fst) ∧ (refsN done ≤ 2 → refsN (done ++ p) ≤ 2) ∧ (sumRefs T + refsN done ≤ 3 → sumRefs T + refsN (done ++ p) ≤ 3) ∧ (done.length ≤ refsN done + 2 → (done ++ p).length ≤ refsN (done ++ p) + 2)
  | [], done, _, h => by
    rw [List.append_nil]
    exact ⟨h, (fun c hc => by cases hc), id, id, id⟩
  | (n, o) :: p, done, hk, hn => by
    obtain ⟨h1, h2⟩ := hk
    have hnew : n ∉ done.map Prod.fst := by cases o with
      | none => exact h1.2.2.2
      | some e => exact h1.2.2.2.1
    have hfine : fineB n = true := by cases o with
      | none => exact h1.2.2.1
      | some e => exact h1.2.2.1
    obtain ⟨a, b, c, d, e⟩ := cols_facts h2 (by
      rw [List.map_append]
      refine List.nodup_append.mpr ⟨hn, by simp, fun x hx y hy z => ?_⟩
      rw [List.mem_singleton.mp hy] at z
      have z' : x = n := z
      exact hnew (z' ▸ hx))
    have hl : done ++ (n, o) :: p = (done ++ [(n, o)]) ++ p := by simp
    rw [hl]
    refine ⟨a, ?_, fun hr => c ?_, fun hr => d ?_, fun hr => e ?_⟩
    · intro x hx
      rcases List.mem_cons.mp hx with z | z
      · rw [z]
        refine ⟨hfine, fun e he => ?_⟩
        have he' : o = some e := he
        subst he'
        exact h1.2.2.2.2
      · exact b x z
    · rw [refsN_snoc]
      cases o with
      | none => simpa using hr
      | some e => have := h1.1; simp only [Option.isSome, if_true]; omega
    · rw [refsN_snoc]
      cases o with
      | none => simpa using hr
      | some e => have := h1.2.1; simp only [Option.isSome, if_true]; omega
    · rw [List.length_append, refsN_snoc]
      cases o with
      | none => have := h1.2.1; have := h1.1; simp only [List.length_cons, List.length_nil]; omega
      | some e => simp only [Option.isSome, if_true, List.length_cons, List.length_nil]; omega
def zooT (T : List Tab) : List Tab := T ++ [(("zoo" : Str), ([] : List Col))]
theorem names_zoo (s : Fd) : ∀ n ∈ namesOf s, n ≠ "zoo" := by
  have h := fdI_lt (s := s) (show 0 < 4 by decide)
  unfold namesOf NAMES
  generalize fdI s 4 = i at h
  match i, h with
  | 0, _ => decide +kernel
  | 1, _ => decide +kernel
  | 2, _ => decide +kernel
  | 3, _ => decide +kernel
theorem drawn_zoo (s : Fd) : ∀ t ∈ tablesOf s, t.1 ≠ "zoo" := fun t ht => by
  obtain ⟨_, o2, _, _⟩ := outer_ok s (fdT (fdT s 4) 6) (countOf s) (cnt_le _)
  have : t.1 ∈ (tablesOf s).map Prod.fst := List.mem_map.mpr ⟨t, ht, rfl⟩
  have e : (tablesOf s).map Prod.fst = (namesOf s).take (countOf s) := o2
  rw [e] at this
  exact names_zoo s _ (List.mem_of_mem_take this)
theorem ok_zoo {T : List Tab} (h : okTabs [] T) (hz : ∀ t ∈ T, t.1 ≠ "zoo") (hl : T.length < 3) : okTabs [] (zooT T) := okTabs_snoc T [] (("zoo" : Str), ([] : List Col)) h ⟨by decide +kernel, by
  rw [List.nil_append]
  intro z
  obtain ⟨t, ht, e⟩ := List.mem_map.mp z
  exact hz t ht e, by rw [List.nil_append]; exact hl, True.intro⟩
theorem join_snoc (c : Str) : ∀ (l : List Str) (x : Str), l ≠ [] → Txt.join c (l ++ [x]) = Txt.join c l ++ (c ++ x)
  | [], _, h => absurd rfl h
  | [a], x, _ => by
    show Txt.join c [a, x] = Txt.join c [a] ++ (c ++ x)
    rw [join_cons, join_one, join_one, Str.append_assoc]
  | a :: b :: l, x, _ => by
    show Txt.join c (a :: b :: (l ++ [x])) = _
    rw [join_cons, join_cons]
    have := join_snoc c (b :: l) x (by simp)
    have e : Txt.join c (b :: (l ++ [x])) = Txt.join c (b :: l) ++ (c ++ x) := this
    rw [e, Str.append_assoc, Str.append_assoc, Str.append_assoc]
theorem text_zoo {T : List Tab} (h : T ≠ []) : textOf T ++ "\ntable zoo" = textOf (zooT T) := by
  have e1 : rowsOf (zooT T) = rowsOf T ++ [("table zoo" : Str)] := by
    unfold rowsOf zooT words
    rw [List.flatMap_append, List.map_append]
    congr 1
  have hne : rowsOf T ≠ [] := by
    unfold rowsOf
    have := words_ne h
    simpa using this
  have e2 : textOf (zooT T) = Txt.join nl (rowsOf T ++ [("table zoo" : Str)]) := by rw [← e1]; rfl
  rw [e2, join_snoc _ _ _ hne]
  have e3 : nl ++ ("table zoo" : Str) = "\ntable zoo" := by decide +kernel
  rw [e3]
  rfl
theorem zoo_other {T : List Tab} : rowsOf T ≠ rowsOf (zooT T) := fun e => by
  have e1 : rowsOf (zooT T) = rowsOf T ++ [("table zoo" : Str)] := by
    unfold rowsOf zooT words
    rw [List.flatMap_append, List.map_append]
    congr 1
  rw [e1] at e
  have := congrArg List.length e
  rw [List.length_append] at this
  simp at this
theorem look_zoo {T : List Tab} {n : Str} {c : List Col} (h : T.lookup n = some c) : (zooT T).lookup n = some c := by
  unfold zooT
  rw [List.lookup_append, h]
  rfl
theorem tok_of {T : List Tab} (h : okTabs [] T) : TOk T ∧ fineT T := by
  have hc : ∀ t ∈ T, ∃ i, okTab (T.take i) t := fun t ht => by
    obtain ⟨i, hi, e⟩ := List.getElem_of_mem ht
    exact ⟨i, okTabs_at h (by rw [List.getElem?_eq_getElem hi, e])⟩
  refine ⟨⟨ok_sch h, early_ok (ok_early h), fun t ht => ?_⟩, fun t ht => ?_⟩
  · obtain ⟨i, hk⟩ := hc t ht
    obtain ⟨a, _⟩ := cols_facts hk.2.2.2 (by simp)
    exact ⟨by simpa using a, by have := okCols_len hk.2.2.2; omega⟩
  · obtain ⟨i, hk⟩ := hc t ht
    obtain ⟨_, b, _⟩ := cols_facts hk.2.2.2 (by simp)
    exact ⟨hk.1, fun c hc => (b c hc).1⟩
theorem plain_app (a b : List Col) : plainN (a ++ b) = plainN a ++ plainN b := by unfold plainN; rw [List.filter_append, List.map_append]
theorem ext_of {T T' : List Tab} (hcn : colsNd T') (h : ∀ n c, T.lookup n = some c → ∃ more : List Col, T'.lookup n = some (c ++ more)) : ExtT T T' := fun V node => by
  have nd := cw_nd (V := V) (node := node) hcn
  unfold colsW at nd ⊢
  generalize (V.nodes.getD node (none, Str.empty)).2 = n at nd ⊢
  cases e : T.lookup n with
  | none => exact ⟨⟨_, (List.nil_append _).symm⟩, ⟨_, (List.nil_append _).symm⟩, fun c hc => by cases hc⟩
  | some c =>
    obtain ⟨more, e2⟩ := h n c e
    rw [e2] at nd ⊢
    exact ⟨⟨plainN more, plain_app c more⟩, ⟨refN more, ref_app c more⟩, fun x hx => lookup_mem nd (List.mem_append_left _ hx)⟩
/-- another schema, with the same tables and columns and more -/
structure Side (T T' : List Tab) : Prop where
  tk : TOk T'
  fn : fineT T'
  ex : ExtT T T'
  nm : ∀ n ∈ T.map (·.1), n ∈ T'.map (·.1)
theorem side_refl {T : List Tab} (h : okTabs [] T) : Side T T := ⟨(tok_of h).1, (tok_of h).2, ext_refl (tok_of h).1.cn, fun n h => h⟩
theorem side_zoo {T : List Tab} (h : okTabs [] T) (hz : ∀ t ∈ T, t.1 ≠ "zoo") (hl : T.length < 3) : Side T (zooT T) := by
  have k := ok_zoo h hz hl
  refine ⟨(tok_of k).1, (tok_of k).2, ext_of (tok_of k).1.cn fun n c e => ⟨[], by rw [List.append_nil]; exact look_zoo e⟩, fun n hn => ?_⟩
  unfold zooT
  rw [List.map_append]
  exact List.mem_append_left _ hn
def moreC : Col := ("more", none)
def nearT : List Tab → List Tab
  | (t, c) :: rest => (t, c ++ [moreC]) :: rest
  | [] => []
theorem okTabs_congr : ∀ (l P1 P2 : List Tab), P1.map Prod.fst = P2.map Prod.fst → sumRefs P1 = sumRefs P2 → okTabs P1 l → okTabs P2 l
  | [], _, _, _, _, _ => True.intro
  | t :: l, P1, P2, h1, h2, h => by
    have hl : P1.length = P2.length := by have := congrArg List.length h1; rw [List.length_map, List.length_map] at this; exact this
    have hcols : ∀ (cs done : List Col), okCols P1 done cs → okCols P2 done cs := by
      intro cs
      induction cs with
      | nil => intro _ _; exact True.intro
      | cons c cs ih =>
        intro done hk
        refine ⟨?_, ih _ hk.2⟩
        obtain ⟨n, o⟩ := c
        cases o with
        | none => exact hk.1
        | some e =>
          obtain ⟨a, b, c, d, f⟩ := hk.1
          exact ⟨a, by rw [← h2]; exact b, c, d, by rw [← h1]; exact f⟩
    obtain ⟨⟨a, b, c, d⟩, hr⟩ := h
    refine ⟨⟨a, by rw [← h1]; exact b, by rw [← hl]; exact c, hcols _ _ d⟩, okTabs_congr l (P1 ++ [t]) (P2 ++ [t]) (by rw [List.map_append, List.map_append, h1]) ?_ hr⟩
    unfold sumRefs at h2 ⊢
    rw [List.map_append, List.map_append, List.sum_append, List.sum_append, h2]
theorem near_ok {t : Str} {c : List Col} {rest : List Tab} (h : okTabs [] ((t, c) :: rest)) (hl : c.length < 2) (hn : ∀ x ∈ c, x.1 ≠ "more") : okTabs [] (nearT ((t, c) :: rest)) := by
  obtain ⟨⟨a, b, d, e⟩, hr⟩ := h
  have h0 : refsN c = 0 := by
    obtain ⟨_, f, _⟩ := cols_facts e (by simp)
    unfold refsN
    rw [List.length_eq_zero_iff, List.filter_eq_nil_iff]
    intro x hx hs
    obtain ⟨n, o⟩ := x
    cases o with
    | none => cases hs
    | some y => have := (f _ hx).2 y rfl; simp at this
  refine ⟨⟨a, b, d, okCols_app.mpr ⟨e, ⟨by simpa using h0, by simpa using hl, by decide +kernel, fun z => ?_⟩, True.intro⟩⟩, okTabs_congr rest [(t, c)] [(t, c ++ [moreC])] rfl ?_ hr⟩
  · obtain ⟨x, hx, ex⟩ := List.mem_map.mp z
    exact hn x (by simpa using hx) ex
  · have : refsN (c ++ [moreC]) = 0 := by unfold refsN at h0 ⊢; rw [List.filter_append, List.length_append, h0]; rfl
    show sumRefs [(t, c)] = sumRefs [(t, c ++ [moreC])]
    unfold sumRefs
    simp [h0, this]
theorem cn_more {T : List Tab} (h : ∀ t ∈ T, ∀ c ∈ t.2, c.1 ∈ CN) : ∀ t ∈ T, ∀ c ∈ t.2, c.1 ≠ "more" := fun t ht c hc => (by decide +kernel : ∀ n ∈ CN, n ≠ ("more" : Str)) _ (h t ht c hc)
theorem side_near {t : Str} {c : List Col} {rest : List Tab} (h : okTabs [] ((t, c) :: rest)) (hl : c.length < 2) (hn : ∀ x ∈ c, x.1 ≠ "more") : Side ((t, c) :: rest) (nearT ((t, c) :: rest)) := by
  have k := near_ok h hl hn
  refine ⟨(tok_of k).1, (tok_of k).2, ext_of (tok_of k).1.cn fun n d e => ?_, fun n hn => hn⟩
  show ∃ more, List.lookup n ((t, c ++ [moreC]) :: rest) = some (d ++ more)
  by_cases hz : (n == t) = true
  · rw [List.lookup_cons, hz] at e ⊢
    cases e
    exact ⟨[moreC], rfl⟩
  · have hz : (n == t) = false := by simpa using hz
    rw [List.lookup_cons, hz] at e ⊢
    exact ⟨[], by rw [List.append_nil]; exact e⟩
theorem near_other {t : Str} {c : List Col} {rest : List Tab} : rowsOf (nearT ((t, c) :: rest)) ≠ rowsOf ((t, c) :: rest) := fun e => by
  have := congrArg List.length e
  unfold rowsOf words nearT at this
  simp [tabWords] at this
theorem view_text {T T' : List Tab} (hok : okTabs [] T) (hne : T ≠ []) (sd : Side T T') (s : Fd) : ∃ M, VText T' (textV (viewF T s).2) M ∧ M.nodes = (viewF T s).2.nodes ∧ M.shown = (viewF T s).2.shown ∧ M.ranges = (viewF T s).2.ranges := by
  obtain ⟨tk, fn⟩ := tok_of hok
  have vf := view_facts tk.sc tk.rf fn tk.cn hne s
  have hm := pick_mem hne s
  obtain ⟨M, h1, h2, h3, h4, _⟩ := view_read sd.fn sd.tk.cn fn sd.ex (sd.nm _ (List.mem_map.mpr ⟨_, hm, rfl⟩)) (fn _ hm).1 4 (fdT s (T.length + 2))
  have h1 : readParts T' 0 (viewF T s).2.rows PtM0 = some M := h1
  have hsp : Txt.split (textV (viewF T s).2) "\n" = (viewF T s).2.rows := by
    unfold textV
    rw [show ("\n" : Str) = (⟨#[10]⟩ : Str) from nl_is]
    exact split_join 10 vf.ne fun r hr => (vf.gd r hr).2.1
  refine ⟨M, ⟨⟨?_, ?_, ?_⟩, by rw [hsp]; exact h1⟩, h2, h3, h4⟩
  · have a := join_len "\n" (viewF T s).2.rows
    have b := sum_rows vf.gd
    have c := vf.rl
    have d : ("\n" : Str).length = 1 := by decide +kernel
    rw [d] at a
    show (Txt.join "\n" (viewF T s).2.rows).length ≤ _
    omega
  · rw [hsp]; have := vf.rl; omega
  · rw [hsp]
    intro r hr
    obtain ⟨a, _, b⟩ := vf.gd r hr
    exact ⟨by omega, b⟩
theorem view_sho {T : List Tab} (hok : okTabs [] T) (hne : T ≠ []) (s : Fd) {M : PtM} (h : VText T (textV (viewF T s).2) M) (h2 : M.shown = (viewF T s).2.shown) (h3 : M.ranges = (viewF T s).2.ranges) : Sho (dueD M) := by
  obtain ⟨tk, fn⟩ := tok_of hok
  have vf := view_facts tk.sc tk.rf fn tk.cn hne s
  have hr := h.rd
  have hp := parts_inv tk.sc.2 tk.cn tk.rf h.tx.2.1 hr _ (Nat.le_refl _) M (by rw [List.take_length]; exact hr)
  have hpos : 0 < (Txt.split (textV (viewF T s).2) "\n").length := by
    rw [show Txt.split (textV (viewF T s).2) "\n" = (viewF T s).2.rows from by
      unfold textV
      rw [show ("\n" : Str) = (⟨#[10]⟩ : Str) from nl_is]
      exact split_join 10 vf.ne fun r hr => (vf.gd r hr).2.1]
    exact List.length_pos_iff.mpr vf.ne
  exact due_sho tk.sc hp.1 (hp.2 hpos) (by rw [h3]; exact vf.re) (by rw [h2]; exact vf.sl)
end SP
namespace T3
open PySem L2 DV PM SP IX
section
variable {P : Program} {w : World} {K : PySem.W.Frag} {mg : Str → Option Value} {base : Heap} {C : Addr}
theorem ok_feedF {f : Addr} {fd : FuncData} (F : Fun K "_law_feed" "_law_feed" s_l_feed f fd) (b_len : mg "len" = none) (b_abs : mg "abs" = none) (b_max : mg "max" = none) (b_int : mg "int" = none) :
    FnOk P w K mg base CX0 1 f fd ["script", "index"] (spFeed K) := by
  refine F.ok sc_l_feed (fun vs H Q E h => ?_) (fun cdv A outer s H vs Q E hr h => ?_)
  · obtain ⟨B, ns, i, hr, _⟩ := h
    exact hr.length
  have nd := sc_l_feed.nd
  refine ⟨_, (pss_cons (ps_set (i := 2) nd rfl (.inl rfl) (pe_ifExp (pt_cmpR op_lt (pv 1) (pe_callB call_len1 (by rfl) b_len PySem.boot_len (pa_cons (pv 0) pa_nil)) (nomark _)) (pe_ix ix_seq (pv 0) (pv 1) (fun _ _ => rfl)) (pe_op op_addA (pe_op op_mul pe_int (pv 1)) pe_int)))
      (pss_cons (ps_set (i := 3) nd rfl (.inl rfl) (pe_op op_sub (pe_callB call_abs1 (by rfl) b_abs (by decide +kernel) (pa_cons (pv 2) pa_nil)) (pe_op op_pow pe_int pe_int)))
      (pss_cons (ps_set (i := 4) nd rfl (.inl rfl) (pe_op op_modN (pe_callTy call_int1' (by rfl) b_int (by decide +kernel) (pa_cons (pe_op op_addA (pe_op op_mul (pv 2) pe_int) (pe_op op_mul pe_int (pe_op op_addA (pv 1) pe_int))) pa_nil)) pe_int))
      (pss_one (ps_ret (pe_lst (pa_cons (pe_callB (call_max2' rfl) (by rfl) b_max (by decide +kernel) (pa_cons pe_int (pa_cons (pv 3) pa_nil))) (pa_cons (pv 4) pa_nil)))))))), ?_⟩
  obtain ⟨B, ns, i, hrs, hl, hi, e, q⟩ := h
  have st := sta_start (N := N_l_feed) (K := K) (P := []) (cs := []) e hrs True.intro
  generalize L2.start N_l_feed vs = σ0 at st ⊢
  unfold preFeed.feedOf at q
  generalize hcell : (if i < ns.length then ns.getD i 0 else 59 * (i : Int) + 23) = cell at q
  refine st_asg (i := 2) (cs1 := []) (r := .dat (.int cell)) st (ev_if (b := decide ((i : Int) < ((ns.map D.int).length : Int))) (et_test (ev_op (ev_var rfl) (ev_cb (ea_cons (ev_var rfl) ea_nil) cb_lenF) (od_I0 fun _ => .bl _))) (fun hb => ?_) (fun hb => ?_)) (fun σ1 H1 st1 => ?_)
  · have hlt : i < ns.length := by
      have := of_decide_eq_true hb
      rw [List.length_map] at this
      omega
    rw [if_pos hlt] at hcell
    refine ev_op (ev_var rfl) (ev_var rfl) (od_ixF (atI_nat ?_))
    rw [List.getElem?_map, List.getElem?_eq_getElem hlt, ← hcell, List.getD_eq_getElem?_getD, List.getElem?_eq_getElem hlt]
    rfl
  · have hlt : ¬ i < ns.length := by
      have := of_decide_eq_false hb
      rw [List.length_map] at this
      omega
    rw [if_neg hlt] at hcell
    exact hcell ▸ ev_op (ev_op ev_int (ev_var rfl) (od_mulI (.inl (by decide)))) ev_int od_addI
  refine st_asg (i := 3) st1 (ev_op (ev_cb (ea_cons (ev_var rfl) ea_nil) cb_abs) (ev_op ev_int ev_int (od_I (d := .int _) ⟨by decide, by decide, by decide⟩ fun _ => .int _)) od_subI) (fun σ2 H2 st2 => ?_)
  refine st_asg (i := 4) st2 (ev_op (ev_cb (ea_cons (ev_op (ev_op (ev_var rfl) ev_int (od_mulI (.inr (by decide)))) (ev_op ev_int (ev_op (ev_var rfl) ev_int od_addI) (od_mulI (.inl (by decide)))) od_addI) ea_nil) cb_int) ev_int (od_I (d := .int _) (by decide) fun _ => .int _)) (fun σ3 H3 st3 => ?_)
  obtain ⟨B3, s3, o3⟩ := st3
  refine ef_lst (ds := [_, _]) (ea_cons (ev_cb (ea_cons ev_int (ea_cons (ev_var rfl) ea_nil)) cb_max2) (ea_cons (ev_var rfl) ea_nil)) (by simp) B3 H3 σ3 o3 _ fun p ws B4 H4 hp s4 o4 h4 b4 r4 => ?_
  have hp0 : H p = none := free0 s3 hp
  exact q p ws B4 H4 hp0 (s3.trans s4) o4.ex h4 b4 r4
end
end T3
/-! R20: the law of k20. -/
namespace SP
open PySem L2 DV PM RG LK IX
variable {K : PySem.W.Frag}
theorem pe_def0 {X : Cx} {k j : Nat} {x : Str} {f : Addr} {fd : FuncData} {ps : List Str} {sp : Sp} {p pos : Pos} (d : Def X.prog X.w X.K X.mg X.base k x f fd ps sp) (hr : Room j X.A) (hk : k ≤ j) (hg : Gl X x) (hdb : (x == ("__debug__" : Str)) = false := by decide) :
    PE X (.Call (.Name x p) [] [] pos) (tCall sp [] E0 tNil) := pe_call0 d.ok (hr.mono hk) hg d.g d.kp d.b .nil pass0 hdb
theorem st_par3 {P : List Addr} {B0 H0 H : Hp} {σ : L2.St} {ss : List Sl} {cs cs1 : List (List D)} {ta : TA} {De : Ends} {i j l : Nat} {r1 r2 r3 : Sl} (h : Sta K P B0 H0 ss cs σ H) (he : EvA K P ss cs ta [r1, r2, r3] cs1) (k : ∀ σ' H', Sta K P B0 H0 (((ss.set i r1).set j r2).set l r3) cs1 σ' H' → De.nx σ' H') : tPar3 i j l ta De σ H := by
  obtain ⟨B, s, o⟩ := h
  refine he B H σ o _ fun vs B1 H1 s1 o1 r => ?_
  match vs, r with
  | [a, b, c], r => exact ⟨a, b, c, rfl, k _ _ ⟨B1, s.trans s1, o1.ex, ((o1.sl.set r.1).set r.2.1).set r.2.2.1, o1.mu⟩⟩
theorem st_asgT {P : List Addr} {B0 H0 H : Hp} {ss ss' : List Sl} {cs cs1 : List (List D)} {σ : L2.St} {De : Ends} {te : TE} {g : TG} {d : D} {W : List Nat} (h : Sta K P B0 H0 ss cs σ H) (he : Ev K P ss cs te (.dat d) cs1) (hg : GR K ss g d ss' W) (k : ∀ σ' H', Sta K P B0 H0 ss' cs1 σ' H' → De.nx σ' H') : tAsg te g De σ H := by
  obtain ⟨B, s, o⟩ := h
  refine he B H σ o _ fun v B1 H1 s1 o1 v1 => ?_
  exact hg B1 H1 σ v o1.ex o1.sl v1 _ fun σ' sl' _ => k σ' H1 ⟨B1, s.trans s1, o1.ex, sl', o1.mu⟩
def preLaw1 : Pre := fun rs Pl cs r cs' => ∃ ns : List Int, rs = [.dat (.fro (ns.map D.int))] ∧ ns.length ≤ 63 ∧ Pl = [] ∧ cs = [] ∧ r = .dat (.bl true) ∧ cs' = []
/-- another schema, or none -/
def SideD (C : Addr) (T : List Tab) (d : D) : Prop := d = .non ∨ ∃ T', d = schD C T' ∧ Side T T' ∧ rowsOf T' ≠ rowsOf T
/-- what is kept: a text and its view -/
def kpD (CV C : Addr) (T : List Tab) (q : Str × PtM) : D := .tup [.str q.1, viewD CV C T q.2 q.1]
theorem if_join {Dn : Ends} {t : TS} {σ : L2.St} {H : Hp} (J : L2.St → Hp → Prop) (h : (∀ σ' H', J σ' H' → Dn.nx σ' H') → t Dn σ H) (k : ∀ σ' H', J σ' H' → Dn.nx σ' H') : t Dn σ H := h k
theorem cut_one {xs : List D} : cutD xs (some 1) none = xs.drop 1 := cut_sufN (k := 1)
theorem vparse {CV C : Addr} {T : List Tab} {M : PtM} {x : Str} (tk : TOk T) (h : VText T x M) : preVParse CV C (.val (.ref CV) :: [.dat (schD C T), .dat (.str x)]) [] [] (.dat (viewD CV C T M x)) [] := ⟨x, T, M, rfl, tk, h, rfl, rfl, rfl, rfl⟩
theorem side_go {P : List Addr} {ss : List Sl} {cs : List (List D)} {i : Nat} {CV C : Addr} {T : List Tab} {M : PtM} {x : Str} {oD : D} {tx tk : TE} (h6 : ss[i]? = some (.dat oD)) (hs : SideD C T oD) (hx : Ev K P ss cs tx (.dat (.str x)) cs) (hk : Ev K P ss cs tk (.dat (viewD CV C T M x)) cs) (hv : ∀ T', Side T T' → ∃ M', VText T' x M') (hT : tabsOk T) :
    EvT K P ss cs (tAnd (tTest (tOp rNotN (tVar i) (tC .non))) (tTest (tOp (OWN.rEqOwn K CV (spM K (preVEq CV C)) false) (ClX.tCMeth CV (spM K (preVParse CV C)) E0 (tC (.ref CV)) (tCons (tVar i) (tCons tx tNil))) tk))) (!oD.isN && false) cs := by
  refine et_and (et_test (ev_op (ev_var (i := i) h6) ev_non od_notN)) (fun hb => ?_)
  rcases hs with rfl | ⟨T', rfl, sd, hn⟩
  · cases hb
  · obtain ⟨M', hM⟩ := hv T' sd
    exact et_test (Ev.eq (ev_op (ev_cmeth (ea_cons (ev_var (i := i) h6) (ea_cons hx ea_nil)) (vparse sd.tk hM)) hk (od_veq (neg := false) sd.tk.sc.1 hT)) (by rw [decide_eq_false hn]; rfl))
end SP
namespace T3
open PySem L2 DV PM SP LK IX
abbrev s_law : Stmt := topS 46
abbrev N_law : List Str := ["script", "index", "feed", "tables", "text", "schema", "other", "near", "table", "columns", "wider", "kept", "turn", "view", "one", "first", "two", "second"]
theorem sc_law : FnScope N_law ["script"] (defScope s_law) := ⟨rfl, rfl, rfl, by decide +kernel, rfl, by decide +kernel, by decide +kernel⟩

section
variable {P : Program} {w : World} {K : PySem.W.Frag} {mg : Str → Option Value} {base : Heap} {C CV : Addr} {mc mcV : Value}
theorem ok_law20 {f fF fT fX fV fR fW fVP pV fPa pC fVE : Addr} {fd fdF fdT' fdX fdV fdR fdW fdVE : FuncData} (F : Fun K "law" "law" s_law f fd)
    (G_l_feed : Def P w K mg base 1 "_law_feed" fF fdF ["script", "index"] (spFeed K)) (G_l_tables : Def P w K mg base 3 "_law_tables" fT fdT' ["feed"] (spM K preTables)) (G_l_schema_text : Def P w K mg base 1 "_law_schema_text" fX fdX ["tables"] (spM K preLText))
    (G_l_view : Def P w K mg base 9 "_law_view" fV fdV ["feed", "tables"] (spM K preLView)) (G_l_is_right : GW.DefG P w K mg base 11 "_law_is_right" fR fdR ["schema", "view"] (spM K (preLRt CV C))) (G_l_words_right : Def P w K mg base 11 "_law_words_right" fW fdW [] (spM K preNone))
    (g_View : mg "View" = some (.ref CV)) (R_V : ClX.CRead K CV mcV) (M_vparse : ClX.CMet K CV mcV "parse" pV fVP) (F_vparse : L2.FnR P w K mg base CX0 10 fVP (spM K (preVParse CV C)))
    (g_Schema : mg "Schema" = some (.ref C)) (R_S : ClX.CRead K C mc) (M_parse : ClX.CMet K C mc "parse" pC fPa) (F_parse : L2.FnR P w K mg base CX0 5 fPa (spM K (preParse C)))
    (G_veq : FnOk P w K mg base CX0 3 fVE fdVE ["self", "other"] (spM K (preVEq CV C))) (B_veq : Binds K fdVE ["self", "other"] []) (S_veq : PySem.W.findIn K (.ref CV) "__eq__" = some (some (.ref fVE))) (Fn_veq : PySem.W.isFn K (.ref fVE) = true) (S_vne : PySem.W.findIn K (.ref CV) "__ne__" = some (some (.builtin "object.__ne__"))) (M_vobj : PySem.W.mroIn K CV (.type "object") = some true)
    (b_range : mg "range" = none) (b_max : mg "max" = none) (b_min : mg "min" = none) (b_len : mg "len" = none) :
    LG.LawAt P w K mg base f fd "script" (spM K preLaw1) := by
  refine LG.LawAt.body (k := 12) F sc_law ⟨rfl, by decide, by decide⟩ (fun cdv s H a Q hr hG hsp => ?_)
  have hr : Room 12 (cxOf CX0 P w K mg base N_law "law" (defScope s_law) f cdv callerA [] s H E0).nox.A := hr
  have hG : (cxOf CX0 P w K mg base N_law "law" (defScope s_law) f cdv callerA [] s H E0).nox.A.guards = some [] := hG
  have nd := sc_law.nd
  refine ⟨_, (pss_cons (ps_if (pt_not (pt_val (pe_def0 G_l_words_right hr (by decide) (by rfl)))) (pss_one (ps_ret pe_bl)) pss_nil)
      (pss_cons (ps_for PassesOwn.never rfl (pi_range1 (by rfl) b_range (pa_cons (pe_callB (call_max2' rfl) (by rfl) b_max (by decide +kernel) (pa_cons pe_int (pa_cons (pe_callB (call_min2' rfl) (by rfl) b_min (by decide +kernel) (pa_cons pe_int (pa_cons (pe_callB call_len1 (by rfl) b_len PySem.boot_len (pa_cons (pv 0) pa_nil)) pa_nil))) pa_nil))) pa_nil)) (pg_name (i := 1) nd (by rfl) (by first | exact .inl rfl | exact .inr rfl)) (pss_cons (ps_set (i := 2) nd rfl (.inl rfl) (pe_def G_l_feed hr (by decide) (by rfl) (pa_cons (pv 0) (pa_cons (pv 1) pa_nil))))
      (pss_cons (ps_set (i := 3) nd rfl (.inl rfl) (pe_def G_l_tables hr (by decide) (by rfl) (pa_cons (pv 2) pa_nil)))
      (pss_cons (ps_set (i := 4) nd rfl (.inl rfl) (pe_def G_l_schema_text hr (by decide) (by rfl) (pa_cons (pv 3) pa_nil)))
      (pss_cons (ps_par3 (i := 5) (j := 6) (l := 7) rfl nd rfl rfl rfl (by decide) (by decide) (by decide) rfl rfl rfl (pa_cons (ClX.pe_cmeth (pe_glob (v := .ref C) rfl g_Schema rfl) R_S M_parse F_parse (hr.mono (by decide)) pass0 (pa_cons (pv 4) pa_nil)) (pa_cons pe_non (pa_cons pe_non pa_nil))) (by rfl))
      (pss_cons (ps_if (pt_cmpR op_lt (pe_callB call_len1 (by rfl) b_len PySem.boot_len (pa_cons (pv 3) pa_nil)) pe_int (nomark _)) (pss_one (ps_set (i := 6) nd rfl (.inl rfl) (ClX.pe_cmeth (pe_glob (v := .ref C) rfl g_Schema rfl) R_S M_parse F_parse (hr.mono (by decide)) pass0 (pa_cons (pe_op op_addA (pv 4) pe_str) pa_nil)))) pss_nil)
      (pss_cons (ps_asg (pe_ix ix_seq (pv 3) pe_int (fun _ _ => rfl)) (pg_tup (by rfl) (by exact (pgs_cons (by exact (pg_name (i := 8) nd (by rfl) (by first | exact .inl rfl | exact .inr rfl))) (by exact (pgs_cons (by exact (pg_name (i := 9) nd (by rfl) (by first | exact .inl rfl | exact .inr rfl))) (by exact pgs_nil)))))))
      (pss_cons (ps_if (pt_cmpR op_lt (pe_callB call_len1 (by rfl) b_len PySem.boot_len (pa_cons (pv 9) pa_nil)) pe_int (nomark _)) (pss_cons (ps_set (i := 10) nd rfl (.inl rfl) (pe_op op_addA (pe_lst (pa_cons (pe_tup (pa_cons (pv 8) (pa_cons (pe_op op_addA (pv 9) (pe_lst (pa_cons (pe_tup (pa_cons pe_str (pa_cons pe_non pa_nil))) pa_nil))) pa_nil))) pa_nil)) (pe_slice sl_3 (pv 3) (po_some pe_int) po_none)))
      (pss_one (ps_set (i := 7) nd rfl (.inl rfl) (ClX.pe_cmeth (pe_glob (v := .ref C) rfl g_Schema rfl) R_S M_parse F_parse (hr.mono (by decide)) pass0 (pa_cons (pe_def G_l_schema_text hr (by decide) (by rfl) (pa_cons (pv 10) pa_nil)) pa_nil))))) pss_nil)
      (pss_cons (ps_set (i := 11) nd rfl (.inl rfl) (pe_lst pa_nil))
      (pss_cons (ps_for PassesOwn.never rfl (pi_range1 (by rfl) b_range (pa_cons pe_int pa_nil)) (pg_name (i := 12) nd (by rfl) (by first | exact .inl rfl | exact .inr rfl)) (pss_cons (ps_set (i := 13) nd rfl (.inl rfl) (pe_def G_l_view hr (by decide) (by rfl) (pa_cons (pv 2) (pa_cons (pv 3) pa_nil))))
      (pss_cons (ps_if (pt_not (pt_val (GW.pe_def G_l_is_right hr hG (by decide) (by rfl) (pa_cons (pv 5) (pa_cons (pv 13) pa_nil))))) (pss_one (ps_ret pe_bl)) pss_nil)
      (pss_cons (ps_expr (pe_bm PySem.F.plainAttrs_list PySem.F.slot_list_append PySem.F.type_list_append mt_append (pv 11) (pa_cons (pe_tup (pa_cons (pe_dget (hu_of hr) (pv 13) pe_str (fun _ _ => rfl)) (pa_cons (ClX.pe_cmeth (pe_glob (v := .ref CV) rfl g_View rfl) R_V M_vparse F_vparse (hr.mono (by decide)) pass0 (pa_cons (pv 5) (pa_cons (pe_dget (hu_of hr) (pv 13) pe_str (fun _ _ => rfl)) pa_nil))) pa_nil))) pa_nil)))
      (pss_cons (ps_if (PW.pt (pw_and (pt_cmpR op_notN' (pv 6) pe_non (nomark _)) (pw_and1 (pt_cmpR (OWN.op_eqOwn G_veq B_veq S_veq Fn_veq (hr.mono (by decide))) (ClX.pe_cmeth (pe_glob (v := .ref CV) rfl g_View rfl) R_V M_vparse F_vparse (hr.mono (by decide)) pass0 (pa_cons (pv 6) (pa_cons (pe_dget (hu_of hr) (pv 13) pe_str (fun _ _ => rfl)) pa_nil))) (pe_ix ix_seq (pe_ix ix_seq (pv 11) (pe_un un_neg pe_int) (fun _ _ => rfl)) pe_int (fun _ _ => rfl)) (nomark _))))) (pss_one (ps_ret pe_bl)) pss_nil)
      (pss_cons (ps_if (PW.pt (pw_and (pt_cmpR op_notN' (pv 7) pe_non (nomark _)) (pw_and1 (pt_cmpR (OWN.op_eqOwn G_veq B_veq S_veq Fn_veq (hr.mono (by decide))) (ClX.pe_cmeth (pe_glob (v := .ref CV) rfl g_View rfl) R_V M_vparse F_vparse (hr.mono (by decide)) pass0 (pa_cons (pv 7) (pa_cons (pe_dget (hu_of hr) (pv 13) pe_str (fun _ _ => rfl)) pa_nil))) (pe_ix ix_seq (pe_ix ix_seq (pv 11) (pe_un un_neg pe_int) (fun _ _ => rfl)) pe_int (fun _ _ => rfl)) (nomark _))))) (pss_one (ps_ret pe_bl)) pss_nil)
      (pss_one (ps_if (pt_cmpR (OWN.op_neOwn G_veq B_veq S_veq Fn_veq S_vne M_vobj (hr.mono (by decide))) (ClX.pe_cmeth (pe_glob (v := .ref CV) rfl g_View rfl) R_V M_vparse F_vparse (hr.mono (by decide)) pass0 (pa_cons (ClX.pe_cmeth (pe_glob (v := .ref C) rfl g_Schema rfl) R_S M_parse F_parse (hr.mono (by decide)) pass0 (pa_cons (pv 4) pa_nil)) (pa_cons (pe_dget (hu_of hr) (pv 13) pe_str (fun _ _ => rfl)) pa_nil))) (pe_ix ix_seq (pe_ix ix_seq (pv 11) (pe_un un_neg pe_int) (fun _ _ => rfl)) pe_int (fun _ _ => rfl)) (nomark _)) (pss_one (ps_ret pe_bl)) pss_nil))))))))
      (pss_one (ps_for PassesOwn.never rfl (pi_list (pv 11)) (pg_tup (by rfl) (by exact (pgs_cons (by exact (pg_name (i := 14) nd (by rfl) (by first | exact .inl rfl | exact .inr rfl))) (by exact (pgs_cons (by exact (pg_name (i := 15) nd (by rfl) (by first | exact .inl rfl | exact .inr rfl))) (by exact pgs_nil)))))) (pss_one (ps_for PassesOwn.never rfl (pi_list (pv 11)) (pg_tup (by rfl) (by exact (pgs_cons (by exact (pg_name (i := 16) nd (by rfl) (by first | exact .inl rfl | exact .inr rfl))) (by exact (pgs_cons (by exact (pg_name (i := 17) nd (by rfl) (by first | exact .inl rfl | exact .inr rfl))) (by exact pgs_nil)))))) (pss_one (ps_if (PW.pt (pw_or (pt_cmpR (op_neA hr.units) (pe_cmpR (OWN.op_eqOwn G_veq B_veq S_veq Fn_veq (hr.mono (by decide))) (pv 15) (pv 17) (nomark _)) (pe_cmpR (op_eqA hr.units) (pv 14) (pv 16) (nomark _)) (nomark _)) (pw_or1 (pt_cmpR (op_neA hr.units) (pe_cmpR (OWN.op_neOwn G_veq B_veq S_veq Fn_veq S_vne M_vobj (hr.mono (by decide))) (pv 15) (pv 17) (nomark _)) (pe_cmpR (op_neA hr.units) (pv 14) (pv 16) (nomark _)) (nomark _))))) (pss_one (ps_ret pe_bl)) pss_nil))))))))))))))))
      (pss_one (ps_ret pe_bl)))), ?_⟩
  obtain ⟨B0, rs, Pl, cs, r, cs', ⟨ns, rfl, hl, rfl, rfl, rfl, rfl⟩, ex0, hrs, _, q0⟩ := hsp
  have hd : Done K [] B0 H (.dat (.bl true)) [] Q := fun v B' H' s e m x => q0 v B' H' s e m x
  have st := sta_start (N := N_law) (K := K) (P := []) (cs := []) ex0 hrs True.intro
  generalize L2.start N_law [V.ref a] = σ at st ⊢
  generalize H = H0 at *
  have st : Sta K [] B0 H0 [.dat (.fro (ns.map D.int)), .any, .any, .any, .any, .any, .any, .any, .any, .any, .any, .any, .any, .any, .any, .any, .any, .any] [] σ H0 := st
  have hN : ∃ N : Int, N = (if (if (((ns.map D.int).length : Nat) : Int) < 5 then (((ns.map D.int).length : Nat) : Int) else 5) > 1 then (if (((ns.map D.int).length : Nat) : Int) < 5 then (((ns.map D.int).length : Nat) : Int) else 5) else 1) ∧ 1 ≤ N ∧ N ≤ 5 := by
    refine ⟨_, rfl, ?_, ?_⟩
    · split <;> split <;> omega
    · split <;> split <;> omega
  obtain ⟨N, eN, hN1, hN5⟩ := hN
  refine st_seq (st_if (b := !true) (cs1 := []) st (et_not (et_test (ev_call0 ea_nil ⟨rfl, rfl, rfl, rfl, rfl⟩))) (fun hb => by cases hb) (fun hb H1 st1 => ?_))
  refine st_next ?_
  dsimp only []
  refine st_seq (t := tFor _ _ _) ?_
  refine st_for (α := Unit) (cs1 := []) st1 (wd_rng1 (n := N) (ea_cons (eN ▸ ev_cb (ea_cons ev_int (ea_cons (ev_cb (ea_cons ev_int (ea_cons (ev_cb (ea_cons (ev_var rfl) ea_nil) cb_lenF) ea_nil)) cb_min2) ea_nil)) cb_max2) ea_nil) ⟨by omega, by omega⟩) (fun _ _ => True) (fun _ _ => [.dat (.fro (ns.map D.int)), .any, .any, .any, .any, .any, .any, .any, .any, .any, .any, .any, .any, .any, .any, .any, .any, .any]) (fun _ _ => []) () True.intro ⟨.rfl _, .any _, .any _, .any _, .any _, .any _, .any _, .any _, .any _, .any _, .any _, .any _, .any _, .any _, .any _, .any _, .any _, .any _, True.intro⟩ rfl ?_ ?_
  · intro B1 H1' s1 i d z hd' _
    obtain ⟨hi, rfl⟩ := rangeD_get hd'
    rw [Int.zero_add]
    have hi60 : i < 60 := by omega
    refine ⟨_, _, g_name, fun σ3 H3 st3 => ?_⟩
    refine st_seq ?_
    refine st_asgF (i := 2) (cs1 := []) st3 (ef_feed (ea_cons (ev_var (i := 0) rfl) (ea_cons (ev_var (i := 1) rfl) ea_nil)) hl hi60) (fun pF σ4 H4 hpF hpFn st4 => ?_)
    generalize preFeed.feedOf ns i = s0 at st4
    obtain ⟨hok, hne, hcn, _⟩ := drawn s0
    have hzoo := drawn_zoo s0
    dsimp only []
    refine st_seq (st_asg (i := 3) (r := .dat (encTs (tablesOf s0))) (cs1 := [fdD (feedOf s0)]) st4 (ev_call1 (j := 0) (cs1 := [fdD s0]) (ds := fdD s0) (ds' := fdD (feedOf s0)) (ea_cons (r := .val (.ref pF)) (ev_var (i := 2) rfl) ea_nil) rfl rfl ⟨pF, s0, rfl, rfl, rfl, rfl, rfl⟩) (fun σ5 H5 st5 => ?_))
    generalize tablesOf s0 = T at hok hne hcn hzoo st5
    generalize feedOf s0 = s1' at st5
    have hT := ok_tabsOk hok
    have hSch := ok_sch hok
    obtain ⟨tk, fT⟩ := tok_of hok
    dsimp only []
    refine st_seq (st_asg (i := 4) (r := .dat (.str (textOf T))) (cs1 := [fdD s1']) st5 (ev_call0 (ea_cons (ev_var (i := 3) rfl) ea_nil) ⟨T, rfl, hT, rfl, rfl, rfl, rfl⟩) (fun σ6 H6 st6 => ?_))
    dsimp only []
    refine st_seq (st_par3 (i := 5) (j := 6) (l := 7) (r1 := .dat (schD C T)) (r2 := .dat .non) (r3 := .dat .non) (cs1 := [fdD s1']) st6 (ea_cons (ev_cmeth (ea_cons (ev_var (i := 4) rfl) ea_nil) (parsed hok hne)) (ea_cons ev_non (ea_cons ev_non ea_nil))) (fun σ7 H7 st7 => ?_))
    dsimp only []
    have st7 : Sta K [pF] B1 H1' [.dat (.fro (ns.map D.int)), .any, .val (.ref pF), .dat (encTs T), .dat (.str (textOf T)), .dat (schD C T), .dat .non, .dat .non, .any, .any, .any, .any, .any, .any, .any, .any, .any, .any] [fdD s1'] σ7 H7 := st7.le ⟨.rfl _, .any _, .rfl _, .rfl _, .rfl _, .rfl _, .rfl _, .rfl _, .any _, .any _, .any _, .any _, .any _, .any _, .any _, .any _, .any _, .any _, True.intro⟩
    have text2 : (textOf T).length + ("\ntable zoo" : Str).length ≤ 1000000 := by
      have := (text_ok hT hne).1
      have h2 : ("\ntable zoo" : Str).length = 10 := by decide +kernel
      omega
    refine st_seq (if_join (J := fun σ8 H8 => ∃ oD, SideD C T oD ∧ Sta K [pF] B1 H1' [.dat (.fro (ns.map D.int)), .any, .val (.ref pF), .dat (encTs T), .dat (.str (textOf T)), .dat (schD C T), .dat oD, .dat .non, .any, .any, .any, .any, .any, .any, .any, .any, .any, .any] [fdD s1'] σ8 H8) (fun key => ?_) ?_)
    · refine st_if (b := decide (((T.map encT).length : Int) < 3)) (cs1 := [fdD s1']) st7 (et_test (ev_op (ev_cb (ea_cons (ev_var (i := 3) rfl) ea_nil) cb_lenL) ev_int (od_I0 fun _ => .bl _))) (fun hb H8 st8 => ?_) (fun hb H8 st8 => st_next (key _ _ ⟨.non, .inl rfl, st8⟩))
      have hl3 : T.length < 3 := by have := of_decide_eq_true hb; rw [List.length_map] at this; omega
      exact st_asg (i := 6) (r := .dat (schD C (zooT T))) (cs1 := [fdD s1']) st8 (ev_cmeth (ea_cons ((ev_op (ev_var (i := 4) rfl) ev_str (od_addS text2)).eq (by rw [text_zoo hne])) ea_nil) (parsed (ok_zoo hok hzoo hl3) (by unfold zooT; simp))) (fun σ9 H9 st9 => key _ _ ⟨_, .inr ⟨zooT T, rfl, side_zoo hok hzoo hl3, Ne.symm zoo_other⟩, st9⟩)
    rintro σ8 H8 ⟨oD, hoD, st8⟩
    dsimp only []
    obtain ⟨⟨t, c⟩, rest, rfl⟩ : ∃ tab rest, T = tab :: rest := by
      cases T with
      | nil => exact absurd rfl hne
      | cons a b => exact ⟨a, b, rfl⟩
    refine st_seq (st_asgT (d := encT (t, c)) (cs1 := [fdD s1']) st8 (ev_op (ev_var (i := 3) rfl) ev_int (od_ixL (atI_nat (j := 0) rfl))) (g_tup (ds := [.str t, .lst (c.map encC)]) (g_cons (g_name (i := 8)) (g_cons (g_name (i := 9)) g_nil))) (fun σ9 H9 st9 => ?_))
    dsimp only []
    have st9 : Sta K [pF] B1 H1' [.dat (.fro (ns.map D.int)), .any, .val (.ref pF), .dat (encTs ((t, c) :: rest)), .dat (.str (textOf ((t, c) :: rest))), .dat (schD C ((t, c) :: rest)), .dat oD, .dat .non, .dat (.str t), .dat (.lst (c.map encC)), .any, .any, .any, .any, .any, .any, .any, .any] [fdD s1'] σ9 H9 := st9.le ⟨.rfl _, .any _, .rfl _, .rfl _, .rfl _, .rfl _, .rfl _, .rfl _, .rfl _, .rfl _, .any _, .any _, .any _, .any _, .any _, .any _, .any _, .any _, True.intro⟩
    refine st_seq (if_join (J := fun σ8 H8 => ∃ nD, SideD C ((t, c) :: rest) nD ∧ Sta K [pF] B1 H1' [.dat (.fro (ns.map D.int)), .any, .val (.ref pF), .dat (encTs ((t, c) :: rest)), .dat (.str (textOf ((t, c) :: rest))), .dat (schD C ((t, c) :: rest)), .dat oD, .dat nD, .any, .any, .any, .any, .any, .any, .any, .any, .any, .any] [fdD s1'] σ8 H8) (fun key => ?_) ?_)
    · refine st_if (b := decide (((c.map encC).length : Int) < 2)) (cs1 := [fdD s1']) st9 (et_test (ev_op (ev_cb (ea_cons (ev_var (i := 9) rfl) ea_nil) cb_lenL) ev_int (od_I0 fun _ => .bl _))) (fun hb H10 st10 => ?_) (fun hb H10 st10 => st_next (key _ _ ⟨.non, .inl rfl, st10.le ⟨.rfl _, .any _, .rfl _, .rfl _, .rfl _, .rfl _, .rfl _, .rfl _, .any _, .any _, .any _, .any _, .any _, .any _, .any _, .any _, .any _, .any _, True.intro⟩⟩))
      have hl2 : c.length < 2 := by have := of_decide_eq_true hb; rw [List.length_map] at this; omega
      have hmr := cn_more hcn (t, c) List.mem_cons_self
      have nok := near_ok hok hl2 hmr
      have hTl := hT.1
      refine st_seq (st_asg (i := 10) (r := .dat (encTs (nearT ((t, c) :: rest)))) (cs1 := [fdD s1']) st10 (Ev.eq (ev_op (ev_lst (ds := [.tup [.str t, .lst (c.map encC ++ [.tup [.str "more", .non]])]]) (ea_cons (ev_tup (ds := [.str t, .lst (c.map encC ++ [.tup [.str "more", .non]])]) (ea_cons (ev_var (i := 8) rfl) (ea_cons (ev_op (ev_var (i := 9) rfl) (ev_lst (ds := [.tup [.str "more", .non]]) (ea_cons (ev_tup (ds := [.str "more", .non]) (ea_cons ev_str (ea_cons ev_non ea_nil)) (by simp)) ea_nil) (by simp)) (od_addL (by rw [List.length_map, List.length_singleton]; omega))) ea_nil)) (by simp)) ea_nil) (by simp)) (ev_sl (ev_var (i := 3) (r := .dat (encTs ((t, c) :: rest))) rfl) (eo_some (ev_int (i := 1))) eo_none sd_L) (od_addL (by
        rw [cut_one, List.length_drop, List.length_map, List.length_singleton]
        omega))) (by
        rw [cut_one]
        show D.lst _ = D.lst (encT (t, c ++ [moreC]) :: rest.map encT)
        have e : encT (t, c ++ [moreC]) = .tup [.str t, .lst (c.map encC ++ [.tup [.str "more", .non]])] := by
          show D.tup [.str t, .lst ((c ++ [moreC]).map encC)] = _
          rw [List.map_append]
          rfl
        rw [e]
        rfl)) (fun σ11 H11 st11 => ?_))
      dsimp only []
      exact st_asg (i := 7) (r := .dat (schD C (nearT ((t, c) :: rest)))) (cs1 := [fdD s1']) st11 (ev_cmeth (ea_cons (ev_call0 (ea_cons (ev_var (i := 10) rfl) ea_nil) ⟨nearT ((t, c) :: rest), rfl, ok_tabsOk nok, rfl, rfl, rfl, rfl⟩) ea_nil) (parsed nok (by unfold nearT; simp))) (fun σ12 H12 st12 => key _ _ ⟨_, .inr ⟨nearT ((t, c) :: rest), rfl, side_near hok hl2 hmr, near_other⟩, st12.le ⟨.rfl _, .any _, .rfl _, .rfl _, .rfl _, .rfl _, .rfl _, .rfl _, .any _, .any _, .any _, .any _, .any _, .any _, .any _, .any _, .any _, .any _, True.intro⟩⟩)
    rintro σ10 H10 ⟨nD, hnD, st10⟩
    dsimp only []
    generalize (t, c) :: rest = T at *
    refine st_seq (st_new (i := 11) st10 (fun pK σ11 H11 hpK hpKn st11 => ?_))
    dsimp only []
    have st11 : Sta K [pK, pF] B1 H1' [.dat (.fro (ns.map D.int)), .any, .val (.ref pF), .dat (encTs T), .dat (.str (textOf T)), .dat (schD C T), .dat oD, .dat nD, .any, .any, .any, .val (.ref pK), .any, .any, .any, .any, .any, .any] [[], fdD s1'] σ11 H11 := st11
    have vtx : ∀ (s : Fd) T', Side T T' → ∃ M', VText T' (textV (viewF T s).2) M' := fun s T' sd => by
      obtain ⟨M', h, _⟩ := view_text hok hne sd s
      exact ⟨M', h⟩
    refine st_seq (t := tFor _ _ _) ?_
    refine st_for (α := List (Str × PtM) × Fd) (cs1 := [[], fdD s1']) st11 (wd_rng1 (n := 4) (ea_cons ev_int ea_nil) (by decide)) (fun i z => z.1.length = i) (fun _ _ => [.dat (.fro (ns.map D.int)), .any, .val (.ref pF), .dat (encTs T), .dat (.str (textOf T)), .dat (schD C T), .dat oD, .dat nD, .any, .any, .any, .val (.ref pK), .any, .any, .any, .any, .any, .any]) (fun _ z => [z.1.map (kpD CV C T), fdD z.2]) ([], s1') rfl ⟨.rfl _, .any _, .rfl _, .rfl _, .rfl _, .rfl _, .rfl _, .rfl _, .any _, .any _, .any _, .rfl _, .any _, .any _, .any _, .any _, .any _, .any _, True.intro⟩ rfl ?_ ?_
    · intro B12 H12' s12 j d2 z hd2 hz
      obtain ⟨hj, rfl⟩ := rangeD_get hd2
      have hj4 : j < 4 := hj
      obtain ⟨ks, zf⟩ := z
      have hz : ks.length = j := hz
      refine ⟨_, _, g_name, fun σ12 H12 st12 => ?_⟩
      refine st_seq (st_asg (i := 13) (r := .dat (wvD (viewF T zf).2)) (cs1 := [ks.map (kpD CV C T), fdD (viewF T zf).1]) st12 (ev_call1 (j := 1) (cs1 := [ks.map (kpD CV C T), fdD zf]) (ds := fdD zf) (ds' := fdD (viewF T zf).1) (ea_cons (r := .val (.ref pF)) (ev_var (i := 2) rfl) (ea_cons (ev_var (i := 3) rfl) ea_nil)) rfl rfl ⟨pF, zf, T, rfl, rfl, rfl, hSch, tk.rf, fT, tk.cn, hne, rfl, rfl⟩) (fun σ13 H13 st13 => ?_))
      dsimp only []
      obtain ⟨M, hM, hM1, hM2, hM3⟩ := view_text hok hne (side_refl hok) zf
      have vf := view_facts tk.sc tk.rf fT tk.cn hne zf
      have hsho := view_sho hok hne zf hM hM2 hM3
      have hvx := vtx zf
      have st13 : Sta K [pK, pF] B12 H12' [.dat (.fro (ns.map D.int)), .any, .val (.ref pF), .dat (encTs T), .dat (.str (textOf T)), .dat (schD C T), .dat oD, .dat nD, .any, .any, .any, .val (.ref pK), .any, .dat (wvD (viewF T zf).2), .any, .any, .any, .any] [ks.map (kpD CV C T), fdD (viewF T zf).1] σ13 H13 := st13.le ⟨.rfl _, .any _, .rfl _, .rfl _, .rfl _, .rfl _, .rfl _, .rfl _, .any _, .any _, .any _, .rfl _, .any _, .rfl _, .any _, .any _, .any _, .any _, True.intro⟩
      generalize (viewF T zf).2 = V at *
      generalize (viewF T zf).1 = zn at *
      refine st_seq (st_if (b := !true) (cs1 := [ks.map (kpD CV C T), fdD zn]) st13 (et_not (et_test (ev_call0 (ea_cons (ev_var (i := 5) rfl) (ea_cons (ev_var (i := 13) rfl) ea_nil)) ⟨T, M, V, rfl, tk, hM, hM1, hM2, hM3, vf.nl, vf.sl, vf.gl, hsho, rfl, rfl, rfl, rfl⟩))) (fun hb => by cases hb) (fun hb H14 st14 => ?_))
      refine st_next ?_
      dsimp only []
      refine st_seq (st_app (i := 11) (j := 0) (cs1 := [ks.map (kpD CV C T), fdD zn]) (ds := ks.map (kpD CV C T)) (d := kpD CV C T (textV V, M)) st14 rfl (ev_tup (ds := [.str (textV V), viewD CV C T M (textV V)]) (ea_cons (ev_dgetS (ev_var (i := 13) (r := .dat (wvD V)) rfl) ev_str rfl) (ea_cons (ev_cmeth (ea_cons (ev_var (i := 5) rfl) (ea_cons (ev_dgetS (ev_var (i := 13) (r := .dat (wvD V)) rfl) ev_str (d := .str (textV V)) rfl) ea_nil)) (vparse tk hM)) ea_nil)) (by simp)) rfl ⟨_, rfl⟩ rfl (by rw [List.length_map]; omega) (fun H15 st15 => ?_))
      dsimp only []
      have st15 : Sta K [pK, pF] B12 H12' [.dat (.fro (ns.map D.int)), .any, .val (.ref pF), .dat (encTs T), .dat (.str (textOf T)), .dat (schD C T), .dat oD, .dat nD, .any, .any, .any, .val (.ref pK), .any, .dat (wvD V), .any, .any, .any, .any] [ks.map (kpD CV C T) ++ [kpD CV C T (textV V, M)], fdD zn] σ13 H15 := st15
      have hx : ∀ {ss : List Sl} {cs : List (List D)}, ss[13]? = some (.dat (wvD V)) → Ev K [pK, pF] ss cs (tDGet (tVar 13) (tC (.str "text"))) (.dat (.str (textV V))) cs := fun h => ev_dgetS (ev_var (i := 13) (r := .dat (wvD V)) h) ev_str rfl
      have hk : ∀ {ss : List Sl}, ss[11]? = some (.val (.ref pK)) → Ev K [pK, pF] ss [ks.map (kpD CV C T) ++ [kpD CV C T (textV V, M)], fdD zn] (tOp (rIx K) (tOp (rIx K) (tVar 11) (tUn (rU fun i => .int (-i)) (tC (.int 1)))) (tC (.int 1))) (.dat (viewD CV C T M (textV V))) [ks.map (kpD CV C T) ++ [kpD CV C T (textV V, M)], fdD zn] := fun h => ev_op (ev_ixM (j := 0) h ev_neg1 rfl rfl (atI_last _ _)) ev_int (od_ixT (ds := [.str (textV V), viewD CV C T M (textV V)]) (atI_nat (j := 1) rfl))
      refine st_seq (st_if (b := !oD.isN && false) (cs1 := [ks.map (kpD CV C T) ++ [kpD CV C T (textV V, M)], fdD zn]) st15 (side_go (i := 6) rfl hoD (hx rfl) (hk rfl) hvx hT) (fun hb => by rw [Bool.and_false] at hb; cases hb) (fun hb H16 st16 => ?_))
      refine st_next ?_
      dsimp only []
      refine st_seq (st_if (b := !nD.isN && false) (cs1 := [ks.map (kpD CV C T) ++ [kpD CV C T (textV V, M)], fdD zn]) st16 (side_go (i := 7) rfl hnD (hx rfl) (hk rfl) hvx hT) (fun hb => by rw [Bool.and_false] at hb; cases hb) (fun hb H17 st17 => ?_))
      refine st_next ?_
      dsimp only []
      refine st_if (b := false) (cs1 := [ks.map (kpD CV C T) ++ [kpD CV C T (textV V, M)], fdD zn]) st17 (et_test (Ev.eq (ev_op (ev_cmeth (ea_cons (ev_cmeth (ea_cons (ev_var (i := 4) rfl) ea_nil) (parsed hok hne)) (ea_cons (hx rfl) ea_nil)) (vparse tk hM)) (hk rfl) (od_veq (neg := true) hT hT)) (by simp))) (fun hb => by cases hb) (fun hb H18 st18 => ?_)
      refine st_next ?_
      have ek : ks.map (kpD CV C T) ++ [kpD CV C T (textV V, M)] = (ks ++ [(textV V, M)]).map (kpD CV C T) := by rw [List.map_append]; rfl
      rw [ek] at st18
      exact ⟨(ks ++ [(textV V, M)], zn), by show (ks ++ [(textV V, M)]).length = j + 1; rw [List.length_append, hz]; rfl, st18.le ⟨.rfl _, .any _, .rfl _, .rfl _, .rfl _, .rfl _, .rfl _, .rfl _, .any _, .any _, .any _, .rfl _, .any _, .any _, .any _, .any _, .any _, .any _, True.intro⟩⟩
    intro z σ12 H12 hz st12
    obtain ⟨ks, zf⟩ := z
    have st12 : Sta K [pF] B1 H1' [.dat (.fro (ns.map D.int)), .any, .val (.ref pF), .dat (encTs T), .dat (.str (textOf T)), .dat (schD C T), .dat oD, .dat nD, .any, .any, .any, .dat (.lst (ks.map (kpD CV C T))), .any, .any, .any, .any, .any, .any] [fdD zf] σ12 H12 := Sta.pub (i := 11) st12 hpK rfl
    dsimp only []
    have hkl : ks.length = 4 := hz
    refine st_for (α := Unit) (cs1 := [fdD zf]) st12 (wd_lst (ev_var (i := 11) rfl)) (fun _ _ => True) (fun _ _ => [.dat (.fro (ns.map D.int)), .any, .val (.ref pF), .dat (encTs T), .dat (.str (textOf T)), .dat (schD C T), .dat oD, .dat nD, .any, .any, .any, .dat (.lst (ks.map (kpD CV C T))), .any, .any, .any, .any, .any, .any]) (fun _ _ => [fdD zf]) () True.intro ⟨.rfl _, .any _, .rfl _, .rfl _, .rfl _, .rfl _, .rfl _, .rfl _, .any _, .any _, .any _, .rfl _, .any _, .any _, .any _, .any _, .any _, .any _, True.intro⟩ rfl ?_ ?_
    · intro B13 H13' s13 j d2 _ hd2 _
      obtain ⟨q, hq, rfl⟩ := map_get hd2
      refine ⟨_, _, g_tup (ds := [.str q.1, viewD CV C T q.2 q.1]) (g_cons (g_name (i := 14)) (g_cons (g_name (i := 15)) g_nil)), fun σ13 H13 st13 => ?_⟩
      refine st_for (α := Unit) (cs1 := [fdD zf]) st13 (wd_lst (ev_var (i := 11) rfl)) (fun _ _ => True) (fun _ _ => [.dat (.fro (ns.map D.int)), .any, .val (.ref pF), .dat (encTs T), .dat (.str (textOf T)), .dat (schD C T), .dat oD, .dat nD, .any, .any, .any, .dat (.lst (ks.map (kpD CV C T))), .any, .any, .dat (.str q.1), .dat (viewD CV C T q.2 q.1), .any, .any]) (fun _ _ => [fdD zf]) () True.intro ⟨.rfl _, .any _, .rfl _, .rfl _, .rfl _, .rfl _, .rfl _, .rfl _, .any _, .any _, .any _, .rfl _, .any _, .any _, .rfl _, .rfl _, .any _, .any _, True.intro⟩ rfl ?_ ?_
      · intro B14 H14' s14 j3 d3 _ hd3 _
        obtain ⟨y, hy, rfl⟩ := map_get hd3
        refine ⟨_, _, g_tup (ds := [.str y.1, viewD CV C T y.2 y.1]) (g_cons (g_name (i := 16)) (g_cons (g_name (i := 17)) g_nil)), fun σ14 H14 st14 => ?_⟩
        exact st_if (b := false || false) (cs1 := [fdD zf]) st14 (et_or (et_test (Ev.eq (ev_op (ev_op (ev_var (i := 15) rfl) (ev_var (i := 17) rfl) (od_veq (neg := false) hT hT)) (ev_op (ev_var (i := 14) rfl) (ev_var (i := 16) rfl) od_eqS) od_neB) (by simp))) (fun _ => et_test (Ev.eq (ev_op (ev_op (ev_var (i := 15) rfl) (ev_var (i := 17) rfl) (od_veq (neg := true) hT hT)) (ev_op (ev_var (i := 14) rfl) (ev_var (i := 16) rfl) od_neS) od_neB) (by simp)))) (fun hb => by cases hb) (fun hb H15 st15 => st_next ⟨(), True.intro, st15.le ⟨.rfl _, .any _, .rfl _, .rfl _, .rfl _, .rfl _, .rfl _, .rfl _, .any _, .any _, .any _, .rfl _, .any _, .any _, .rfl _, .rfl _, .any _, .any _, True.intro⟩⟩)
      · intro _ σ15 H15 _ st15
        exact ⟨(), True.intro, st15.le ⟨.rfl _, .any _, .rfl _, .rfl _, .rfl _, .rfl _, .rfl _, .rfl _, .any _, .any _, .any _, .rfl _, .any _, .any _, .any _, .any _, .any _, .any _, True.intro⟩⟩
    · intro _ σ15 H15 _ st15
      have st16 := Sta.pub (i := 2) st15 hpF rfl
      exact ⟨(), True.intro, st16.le ⟨.rfl _, .any _, .any _, .any _, .any _, .any _, .any _, .any _, .any _, .any _, .any _, .any _, .any _, .any _, .any _, .any _, .any _, .any _, True.intro⟩⟩
  · intro z σ3 H3 _ st3
    dsimp only []
    refine st_ret (cs1 := []) st3 ev_bl ?_
    exact hd
end
end T3
namespace T3
open PySem L2 DV PM SP LK IX
theorem rpa_ints {K : PySem.W.Frag} {B : Hp} : ∀ ns : List Int, RpA K B (ns.map V.int) (ns.map D.int)
  | [] => .nil
  | n :: r => .cons (.int n) (rpa_ints r)
theorem apart_of {K : PySem.W.Frag} {C : Addr} (h1 : PySem.W.isClsIn K C = true) (h2 : PySem.W.typeIn K (.ref C) = some (.type "type")) : Apart K C := by
  have sub : ∀ t ∈ ["NoneType", "bool", "int", "str", "list", "tuple", "dict"], PySem.W.subIn K (.type t) (.ref C) = some false := by
    intro t ht
    simp only [List.mem_cons, List.not_mem_nil, or_false] at ht
    rcases ht with rfl | rfl | rfl | rfl | rfl | rfl | rfl <;> rfl
  intro t ht
  have h3 : ((PySem.W.clsIn K C).isSome && PySem.W.typeIn K (.ref C) == some (.type "type")) = true := by
    have h4 : (PySem.W.clsIn K C).isSome = true := h1
    rw [h4, h2] <;> rfl
  refine ⟨?_, ?_⟩
  · show (if (Value.type t == Value.ref C) = true then some true else (if ((PySem.W.clsIn K C).isSome && PySem.W.typeIn K (.ref C) == some (.type "type")) = true then PySem.W.subIn K (.type t) (.ref C) else none)) = some false
    rw [if_pos h3, sub t ht]
    rfl
  · unfold PySem.W.notFirst
    rw [sub t ht]
    rfl
theorem apart_two {K : PySem.W.Frag} {C CB : Addr} (nq : (Value.ref C == Value.ref CB) = false) (h1 : PySem.W.isClsIn K CB = true) (h2 : PySem.W.typeIn K (.ref CB) = some (.type "type")) (sq : PySem.W.subIn K (.ref C) (.ref CB) = some false) : PySem.W.kitOne K (.ref C) (.ref CB) = some false ∧ PySem.W.notFirst K CB (.ref C) = true := by
  have h3 : ((PySem.W.clsIn K CB).isSome && PySem.W.typeIn K (.ref CB) == some (.type "type")) = true := by
    have h4 : (PySem.W.clsIn K CB).isSome = true := h1
    rw [h4, h2] <;> rfl
  refine ⟨?_, ?_⟩
  · show (if (Value.ref C == Value.ref CB) = true then some true else (if ((PySem.W.clsIn K CB).isSome && PySem.W.typeIn K (.ref CB) == some (.type "type")) = true then PySem.W.subIn K (.ref C) (.ref CB) else none)) = some false
    rw [if_pos h3, nq, sq]
    rfl
  · unfold PySem.W.notFirst
    rw [sq, nq]
    rfl
theorem all_mk {l : PySem.W.OpenLaw} {w : World} {K : PySem.W.Frag} {h : Heap} {mg : Str → Option Value} {fa C CV CP pC pCCV : Addr} {mc mcCV : Value} {pRest pRestCV : List Value} (X : K.In h) (G : h.Ns mainGlobals mg) (hfa : mg "law" = some (.ref fa))
    {fm0 : Addr} {odm0 anm0 : Option Addr} {slm0 : Array (Option Value)} {ocm0 kVm0 dcm0 pmm0 cdm0 ctm0 : Value}
    {fm1 : Addr} {odm1 anm1 : Option Addr} {slm1 : Array (Option Value)} {ocm1 kVm1 dcm1 pmm1 cdm1 ctm1 : Value}
    {fm2 : Addr} {odm2 anm2 : Option Addr} {slm2 : Array (Option Value)} {ocm2 kVm2 dcm2 pmm2 cdm2 ctm2 : Value}
    {fm3 : Addr} {odm3 anm3 : Option Addr} {slm3 : Array (Option Value)} {ocm3 kVm3 dcm3 pmm3 cdm3 ctm3 : Value}
    {fm4 : Addr} {odm4 anm4 : Option Addr} {slm4 : Array (Option Value)} {ocm4 kVm4 dcm4 pmm4 cdm4 ctm4 : Value}
    {fm5 : Addr} {odm5 anm5 : Option Addr} {slm5 : Array (Option Value)} {ocm5 kVm5 dcm5 pmm5 cdm5 ctm5 : Value}
    {fm6 : Addr} {odm6 anm6 : Option Addr} {slm6 : Array (Option Value)} {ocm6 kVm6 dcm6 pmm6 cdm6 ctm6 : Value}
    {fm7 : Addr} {odm7 anm7 : Option Addr} {slm7 : Array (Option Value)} {ocm7 kVm7 dcm7 pmm7 cdm7 ctm7 : Value}
    {fm8 : Addr} {odm8 anm8 : Option Addr} {slm8 : Array (Option Value)} {ocm8 kVm8 dcm8 pmm8 cdm8 ctm8 : Value}
    {fm9 : Addr} {odm9 anm9 : Option Addr} {slm9 : Array (Option Value)} {ocm9 kVm9 dcm9 pmm9 cdm9 ctm9 : Value}
    {fm10 : Addr} {odm10 anm10 : Option Addr} {slm10 : Array (Option Value)} {ocm10 kVm10 dcm10 pmm10 cdm10 ctm10 : Value}
    {fm11 : Addr} {odm11 anm11 : Option Addr} {slm11 : Array (Option Value)} {ocm11 kVm11 dcm11 pmm11 cdm11 ctm11 : Value}
    {fm12 : Addr} {odm12 anm12 : Option Addr} {slm12 : Array (Option Value)} {ocm12 kVm12 dcm12 pmm12 cdm12 ctm12 : Value}
    {fm13 : Addr} {odm13 anm13 : Option Addr} {slm13 : Array (Option Value)} {ocm13 kVm13 dcm13 pmm13 cdm13 ctm13 : Value}
    {fm14 : Addr} {odm14 anm14 : Option Addr} {slm14 : Array (Option Value)} {ocm14 kVm14 dcm14 pmm14 cdm14 ctm14 : Value}
    {fm15 : Addr} {odm15 anm15 : Option Addr} {slm15 : Array (Option Value)} {ocm15 kVm15 dcm15 pmm15 cdm15 ctm15 : Value}
    {fm16 : Addr} {odm16 anm16 : Option Addr} {slm16 : Array (Option Value)} {ocm16 kVm16 dcm16 pmm16 cdm16 ctm16 : Value}
    {fm17 : Addr} {odm17 anm17 : Option Addr} {slm17 : Array (Option Value)} {ocm17 kVm17 dcm17 pmm17 cdm17 ctm17 : Value}
    {fm18 : Addr} {odm18 anm18 : Option Addr} {slm18 : Array (Option Value)} {ocm18 kVm18 dcm18 pmm18 cdm18 ctm18 : Value}
    {fm19 : Addr} {odm19 anm19 : Option Addr} {slm19 : Array (Option Value)} {ocm19 kVm19 dcm19 pmm19 cdm19 ctm19 : Value}
    {fm20 : Addr} {odm20 anm20 : Option Addr} {slm20 : Array (Option Value)} {ocm20 kVm20 dcm20 pmm20 cdm20 ctm20 : Value}
    {fm21 : Addr} {odm21 anm21 : Option Addr} {slm21 : Array (Option Value)} {ocm21 kVm21 dcm21 pmm21 cdm21 ctm21 : Value}
    {fm22 : Addr} {odm22 anm22 : Option Addr} {slm22 : Array (Option Value)} {ocm22 kVm22 dcm22 pmm22 cdm22 ctm22 : Value}
    {fm23 : Addr} {odm23 anm23 : Option Addr} {slm23 : Array (Option Value)} {ocm23 kVm23 dcm23 pmm23 cdm23 ctm23 : Value}
    {fm24 : Addr} {odm24 anm24 : Option Addr} {slm24 : Array (Option Value)} {ocm24 kVm24 dcm24 pmm24 cdm24 ctm24 : Value}
    {fm25 : Addr} {odm25 anm25 : Option Addr} {slm25 : Array (Option Value)} {ocm25 kVm25 dcm25 pmm25 cdm25 ctm25 : Value}
    {fc0 : Addr} {odc0 anc0 : Option Addr} {slc0 : Array (Option Value)} {occ0 kVc0 dcc0 pmc0 cdc0 ctc0 : Value}
    {fc1 : Addr} {odc1 anc1 : Option Addr} {slc1 : Array (Option Value)} {occ1 kVc1 dcc1 pmc1 cdc1 ctc1 : Value}
    {fc2 : Addr} {odc2 anc2 : Option Addr} {slc2 : Array (Option Value)} {occ2 kVc2 dcc2 pmc2 cdc2 ctc2 : Value}
    {fc3 : Addr} {odc3 anc3 : Option Addr} {slc3 : Array (Option Value)} {occ3 kVc3 dcc3 pmc3 cdc3 ctc3 : Value}
    {fv0 : Addr} {odv0 anv0 : Option Addr} {slv0 : Array (Option Value)} {ocv0 kVv0 dcv0 pmv0 cdv0 ctv0 : Value}
    {fv1 : Addr} {odv1 anv1 : Option Addr} {slv1 : Array (Option Value)} {ocv1 kVv1 dcv1 pmv1 cdv1 ctv1 : Value}
    {fv2 : Addr} {odv2 anv2 : Option Addr} {slv2 : Array (Option Value)} {ocv2 kVv2 dcv2 pmv2 cdv2 ctv2 : Value}
    {fv3 : Addr} {odv3 anv3 : Option Addr} {slv3 : Array (Option Value)} {ocv3 kVv3 dcv3 pmv3 cdv3 ctv3 : Value}
    {fv4 : Addr} {odv4 anv4 : Option Addr} {slv4 : Array (Option Value)} {ocv4 kVv4 dcv4 pmv4 cdv4 ctv4 : Value}
    {fv5 : Addr} {odv5 anv5 : Option Addr} {slv5 : Array (Option Value)} {ocv5 kVv5 dcv5 pmv5 cdv5 ctv5 : Value}
    {fp0 : Addr} {odp0 anp0 : Option Addr} {slp0 : Array (Option Value)} {ocp0 kVp0 dcp0 pmp0 cdp0 ctp0 : Value}
    {fp1 : Addr} {odp1 anp1 : Option Addr} {slp1 : Array (Option Value)} {ocp1 kVp1 dcp1 pmp1 cdp1 ctp1 : Value}
    {fp2 : Addr} {odp2 anp2 : Option Addr} {slp2 : Array (Option Value)} {ocp2 kVp2 dcp2 pmp2 cdp2 ctp2 : Value}
    {fp3 : Addr} {odp3 anp3 : Option Addr} {slp3 : Array (Option Value)} {ocp3 kVp3 dcp3 pmp3 cdp3 ctp3 : Value}
    {fp4 : Addr} {odp4 anp4 : Option Addr} {slp4 : Array (Option Value)} {ocp4 kVp4 dcp4 pmp4 cdp4 ctp4 : Value}
    {fp5 : Addr} {odp5 anp5 : Option Addr} {slp5 : Array (Option Value)} {ocp5 kVp5 dcp5 pmp5 cdp5 ctp5 : Value}
    {fp6 : Addr} {odp6 anp6 : Option Addr} {slp6 : Array (Option Value)} {ocp6 kVp6 dcp6 pmp6 cdp6 ctp6 : Value}
    {fp7 : Addr} {odp7 anp7 : Option Addr} {slp7 : Array (Option Value)} {ocp7 kVp7 dcp7 pmp7 cdp7 ctp7 : Value}
    {fp8 : Addr} {odp8 anp8 : Option Addr} {slp8 : Array (Option Value)} {ocp8 kVp8 dcp8 pmp8 cdp8 ctp8 : Value}
    {fp9 : Addr} {odp9 anp9 : Option Addr} {slp9 : Array (Option Value)} {ocp9 kVp9 dcp9 pmp9 cdp9 ctp9 : Value}
    {tk_MOST_DIGITS : Tok}
    {tk_LOWEST_END : Tok}
    {tk_HIGHEST_END : Tok}
    {tk_MOST_NODES : Tok}
    {tk_MOST_RANGES : Tok}
    {tk_MOST_LETTERS : Tok}
    {tk_MOST_TABLES : Tok}
    {tk_MOST_PLAIN : Tok}
    {tk_MOST_REFERENCES : Tok}
    {tk_MOST_REFERENCES_IN_ALL : Tok}
    (am0 : PySem.W.nsIn K mainGlobals "law" = some (some (.ref fm0)))
    (lm0 : K.lookup fm0 = some ⟨ocm0, odm0, .func (PySem.W.fnOf "law" "law" (defArgs s_law) (defBody s_law) (defScope s_law) .none kVm0 dcm0 pmm0 anm0 cdm0 ctm0), slm0⟩)
    (cm0 : PySem.W.codeIn K cdm0 "law" = true)
    (km0 : PySem.W.keepIn K (.ref fm0) = true)
    (am1 : PySem.W.nsIn K mainGlobals "_law_feed" = some (some (.ref fm1)))
    (lm1 : K.lookup fm1 = some ⟨ocm1, odm1, .func (PySem.W.fnOf "_law_feed" "_law_feed" (defArgs s_l_feed) (defBody s_l_feed) (defScope s_l_feed) .none kVm1 dcm1 pmm1 anm1 cdm1 ctm1), slm1⟩)
    (cm1 : PySem.W.codeIn K cdm1 "_law_feed" = true)
    (km1 : PySem.W.keepIn K (.ref fm1) = true)
    (am2 : PySem.W.nsIn K mainGlobals "_law_take" = some (some (.ref fm2)))
    (lm2 : K.lookup fm2 = some ⟨ocm2, odm2, .func (PySem.W.fnOf "_law_take" "_law_take" (defArgs s_l_take) (defBody s_l_take) (defScope s_l_take) .none kVm2 dcm2 pmm2 anm2 cdm2 ctm2), slm2⟩)
    (cm2 : PySem.W.codeIn K cdm2 "_law_take" = true)
    (km2 : PySem.W.keepIn K (.ref fm2) = true)
    (am3 : PySem.W.nsIn K mainGlobals "_law_pick" = some (some (.ref fm3)))
    (lm3 : K.lookup fm3 = some ⟨ocm3, odm3, .func (PySem.W.fnOf "_law_pick" "_law_pick" (defArgs s_l_pick) (defBody s_l_pick) (defScope s_l_pick) .none kVm3 dcm3 pmm3 anm3 cdm3 ctm3), slm3⟩)
    (cm3 : PySem.W.codeIn K cdm3 "_law_pick" = true)
    (km3 : PySem.W.keepIn K (.ref fm3) = true)
    (am4 : PySem.W.nsIn K mainGlobals "_law_tables" = some (some (.ref fm4)))
    (lm4 : K.lookup fm4 = some ⟨ocm4, odm4, .func (PySem.W.fnOf "_law_tables" "_law_tables" (defArgs s_l_tables) (defBody s_l_tables) (defScope s_l_tables) .none kVm4 dcm4 pmm4 anm4 cdm4 ctm4), slm4⟩)
    (cm4 : PySem.W.codeIn K cdm4 "_law_tables" = true)
    (km4 : PySem.W.keepIn K (.ref fm4) = true)
    (am5 : PySem.W.nsIn K mainGlobals "_law_schema_text" = some (some (.ref fm5)))
    (lm5 : K.lookup fm5 = some ⟨ocm5, odm5, .func (PySem.W.fnOf "_law_schema_text" "_law_schema_text" (defArgs s_l_schema_text) (defBody s_l_schema_text) (defScope s_l_schema_text) .none kVm5 dcm5 pmm5 anm5 cdm5 ctm5), slm5⟩)
    (cm5 : PySem.W.codeIn K cdm5 "_law_schema_text" = true)
    (km5 : PySem.W.keepIn K (.ref fm5) = true)
    (am6 : PySem.W.nsIn K mainGlobals "_law_columns" = some (some (.ref fm6)))
    (lm6 : K.lookup fm6 = some ⟨ocm6, odm6, .func (PySem.W.fnOf "_law_columns" "_law_columns" (defArgs s_l_columns) (defBody s_l_columns) (defScope s_l_columns) .none kVm6 dcm6 pmm6 anm6 cdm6 ctm6), slm6⟩)
    (cm6 : PySem.W.codeIn K cdm6 "_law_columns" = true)
    (km6 : PySem.W.keepIn K (.ref fm6) = true)
    (am7 : PySem.W.nsIn K mainGlobals "_law_end" = some (some (.ref fm7)))
    (lm7 : K.lookup fm7 = some ⟨ocm7, odm7, .func (PySem.W.fnOf "_law_end" "_law_end" (defArgs s_l_end) (defBody s_l_end) (defScope s_l_end) .none kVm7 dcm7 pmm7 anm7 cdm7 ctm7), slm7⟩)
    (cm7 : PySem.W.codeIn K cdm7 "_law_end" = true)
    (km7 : PySem.W.keepIn K (.ref fm7) = true)
    (am8 : PySem.W.nsIn K mainGlobals "_law_add_node" = some (some (.ref fm8)))
    (lm8 : K.lookup fm8 = some ⟨ocm8, odm8, .func (PySem.W.fnOf "_law_add_node" "_law_add_node" (defArgs s_l_add_node) (defBody s_l_add_node) (defScope s_l_add_node) .none kVm8 dcm8 pmm8 anm8 cdm8 ctm8), slm8⟩)
    (cm8 : PySem.W.codeIn K cdm8 "_law_add_node" = true)
    (km8 : PySem.W.keepIn K (.ref fm8) = true)
    (am9 : PySem.W.nsIn K mainGlobals "_law_view" = some (some (.ref fm9)))
    (lm9 : K.lookup fm9 = some ⟨ocm9, odm9, .func (PySem.W.fnOf "_law_view" "_law_view" (defArgs s_l_view) (defBody s_l_view) (defScope s_l_view) .none kVm9 dcm9 pmm9 anm9 cdm9 ctm9), slm9⟩)
    (cm9 : PySem.W.codeIn K cdm9 "_law_view" = true)
    (km9 : PySem.W.keepIn K (.ref fm9) = true)
    (am10 : PySem.W.nsIn K mainGlobals "_law_is_right" = some (some (.ref fm10)))
    (lm10 : K.lookup fm10 = some ⟨ocm10, odm10, .func (PySem.W.fnOf "_law_is_right" "_law_is_right" (defArgs s_l_is_right) (defBody s_l_is_right) (defScope s_l_is_right) .none kVm10 dcm10 pmm10 anm10 cdm10 ctm10), slm10⟩)
    (cm10 : PySem.W.codeIn K cdm10 "_law_is_right" = true)
    (km10 : PySem.W.keepIn K (.ref fm10) = true)
    (am11 : PySem.W.nsIn K mainGlobals "_law_words_right" = some (some (.ref fm11)))
    (lm11 : K.lookup fm11 = some ⟨ocm11, odm11, .func (PySem.W.fnOf "_law_words_right" "_law_words_right" (defArgs s_l_words_right) (defBody s_l_words_right) (defScope s_l_words_right) .none kVm11 dcm11 pmm11 anm11 cdm11 ctm11), slm11⟩)
    (cm11 : PySem.W.codeIn K cdm11 "_law_words_right" = true)
    (km11 : PySem.W.keepIn K (.ref fm11) = true)
    (am12 : PySem.W.nsIn K mainGlobals "is_end" = some (some (.ref fm12)))
    (lm12 : K.lookup fm12 = some ⟨ocm12, odm12, .func (PySem.W.fnOf "is_end" "is_end" (defArgs s_is_end) (defBody s_is_end) (defScope s_is_end) .none kVm12 dcm12 pmm12 anm12 cdm12 ctm12), slm12⟩)
    (cm12 : PySem.W.codeIn K cdm12 "is_end" = true)
    (km12 : PySem.W.keepIn K (.ref fm12) = true)
    (am13 : PySem.W.nsIn K mainGlobals "read_end" = some (some (.ref fm13)))
    (lm13 : K.lookup fm13 = some ⟨ocm13, odm13, .func (PySem.W.fnOf "read_end" "read_end" (defArgs s_read_end) (defBody s_read_end) (defScope s_read_end) .none kVm13 dcm13 pmm13 anm13 cdm13 ctm13), slm13⟩)
    (cm13 : PySem.W.codeIn K cdm13 "read_end" = true)
    (km13 : PySem.W.keepIn K (.ref fm13) = true)
    (am14 : PySem.W.nsIn K mainGlobals "read_integer" = some (some (.ref fm14)))
    (lm14 : K.lookup fm14 = some ⟨ocm14, odm14, .func (PySem.W.fnOf "read_integer" "read_integer" (defArgs s_read_integer) (defBody s_read_integer) (defScope s_read_integer) .none kVm14 dcm14 pmm14 anm14 cdm14 ctm14), slm14⟩)
    (cm14 : PySem.W.codeIn K cdm14 "read_integer" = true)
    (km14 : PySem.W.keepIn K (.ref fm14) = true)
    (am15 : PySem.W.nsIn K mainGlobals "column_place" = some (some (.ref fm15)))
    (lm15 : K.lookup fm15 = some ⟨ocm15, odm15, .func (PySem.W.fnOf "column_place" "column_place" (defArgs s_column_place) (defBody s_column_place) (defScope s_column_place) .none kVm15 dcm15 pmm15 anm15 cdm15 ctm15), slm15⟩)
    (cm15 : PySem.W.codeIn K cdm15 "column_place" = true)
    (km15 : PySem.W.keepIn K (.ref fm15) = true)
    (am16 : PySem.W.nsIn K mainGlobals "target_of" = some (some (.ref fm16)))
    (lm16 : K.lookup fm16 = some ⟨ocm16, odm16, .func (PySem.W.fnOf "target_of" "target_of" (defArgs s_target_of) (defBody s_target_of) (defScope s_target_of) .none kVm16 dcm16 pmm16 anm16 cdm16 ctm16), slm16⟩)
    (cm16 : PySem.W.codeIn K cdm16 "target_of" = true)
    (km16 : PySem.W.keepIn K (.ref fm16) = true)
    (am17 : PySem.W.nsIn K mainGlobals "count_references" = some (some (.ref fm17)))
    (lm17 : K.lookup fm17 = some ⟨ocm17, odm17, .func (PySem.W.fnOf "count_references" "count_references" (defArgs s_count_references) (defBody s_count_references) (defScope s_count_references) .none kVm17 dcm17 pmm17 anm17 cdm17 ctm17), slm17⟩)
    (cm17 : PySem.W.codeIn K cdm17 "count_references" = true)
    (km17 : PySem.W.keepIn K (.ref fm17) = true)
    (am18 : PySem.W.nsIn K mainGlobals "column_row" = some (some (.ref fm18)))
    (lm18 : K.lookup fm18 = some ⟨ocm18, odm18, .func (PySem.W.fnOf "column_row" "column_row" (defArgs s_column_row) (defBody s_column_row) (defScope s_column_row) .none kVm18 dcm18 pmm18 anm18 cdm18 ctm18), slm18⟩)
    (cm18 : PySem.W.codeIn K cdm18 "column_row" = true)
    (km18 : PySem.W.keepIn K (.ref fm18) = true)
    (am19 : PySem.W.nsIn K mainGlobals "text_rows" = some (some (.ref fm19)))
    (lm19 : K.lookup fm19 = some ⟨ocm19, odm19, .func (PySem.W.fnOf "text_rows" "text_rows" (defArgs s_text_rows) (defBody s_text_rows) (defScope s_text_rows) .none kVm19 dcm19 pmm19 anm19 cdm19 ctm19), slm19⟩)
    (cm19 : PySem.W.codeIn K cdm19 "text_rows" = true)
    (km19 : PySem.W.keepIn K (.ref fm19) = true)
    (am20 : PySem.W.nsIn K mainGlobals "is_name" = some (some (.ref fm20)))
    (lm20 : K.lookup fm20 = some ⟨ocm20, odm20, .func (PySem.W.fnOf "is_name" "is_name" (defArgs s_is_name) (defBody s_is_name) (defScope s_is_name) .none kVm20 dcm20 pmm20 anm20 cdm20 ctm20), slm20⟩)
    (cm20 : PySem.W.codeIn K cdm20 "is_name" = true)
    (km20 : PySem.W.keepIn K (.ref fm20) = true)
    (am21 : PySem.W.nsIn K mainGlobals "is_new_name" = some (some (.ref fm21)))
    (lm21 : K.lookup fm21 = some ⟨ocm21, odm21, .func (PySem.W.fnOf "is_new_name" "is_new_name" (defArgs s_is_new_name) (defBody s_is_new_name) (defScope s_is_new_name) .none kVm21 dcm21 pmm21 anm21 cdm21 ctm21), slm21⟩)
    (cm21 : PySem.W.codeIn K cdm21 "is_new_name" = true)
    (km21 : PySem.W.keepIn K (.ref fm21) = true)
    (am22 : PySem.W.nsIn K mainGlobals "begins_table" = some (some (.ref fm22)))
    (lm22 : K.lookup fm22 = some ⟨ocm22, odm22, .func (PySem.W.fnOf "begins_table" "begins_table" (defArgs s_begins_table) (defBody s_begins_table) (defScope s_begins_table) .none kVm22 dcm22 pmm22 anm22 cdm22 ctm22), slm22⟩)
    (cm22 : PySem.W.codeIn K cdm22 "begins_table" = true)
    (km22 : PySem.W.keepIn K (.ref fm22) = true)
    (am23 : PySem.W.nsIn K mainGlobals "adds_plain" = some (some (.ref fm23)))
    (lm23 : K.lookup fm23 = some ⟨ocm23, odm23, .func (PySem.W.fnOf "adds_plain" "adds_plain" (defArgs s_adds_plain) (defBody s_adds_plain) (defScope s_adds_plain) .none kVm23 dcm23 pmm23 anm23 cdm23 ctm23), slm23⟩)
    (cm23 : PySem.W.codeIn K cdm23 "adds_plain" = true)
    (km23 : PySem.W.keepIn K (.ref fm23) = true)
    (am24 : PySem.W.nsIn K mainGlobals "adds_reference" = some (some (.ref fm24)))
    (lm24 : K.lookup fm24 = some ⟨ocm24, odm24, .func (PySem.W.fnOf "adds_reference" "adds_reference" (defArgs s_adds_reference) (defBody s_adds_reference) (defScope s_adds_reference) .none kVm24 dcm24 pmm24 anm24 cdm24 ctm24), slm24⟩)
    (cm24 : PySem.W.codeIn K cdm24 "adds_reference" = true)
    (km24 : PySem.W.keepIn K (.ref fm24) = true)
    (am25 : PySem.W.nsIn K mainGlobals "read_tables" = some (some (.ref fm25)))
    (lm25 : K.lookup fm25 = some ⟨ocm25, odm25, .func (PySem.W.fnOf "read_tables" "read_tables" (defArgs s_read_tables) (defBody s_read_tables) (defScope s_read_tables) .none kVm25 dcm25 pmm25 anm25 cdm25 ctm25), slm25⟩)
    (cm25 : PySem.W.codeIn K cdm25 "read_tables" = true)
    (km25 : PySem.W.keepIn K (.ref fm25) = true)
    (ac0 : PySem.W.findIn K (.ref C) "__init__" = some (some (.ref fc0)))
    (ic0 : PySem.W.isFn K (.ref fc0) = true)
    (kc0 : PySem.W.keepIn K (.ref fc0) = true)
    (lc0 : K.lookup fc0 = some ⟨occ0, odc0, .func (PySem.W.fnOf "__init__" "Schema.__init__" (defArgs s_Schema_init_) (defBody s_Schema_init_) (defScope s_Schema_init_) .none kVc0 dcc0 pmc0 anc0 cdc0 ctc0), slc0⟩)
    (cc0 : PySem.W.codeIn K cdc0 "Schema.__init__" = true)
    (rd : PySem.W.readsIn K C mc = true)
    (ga : PySem.W.specialIn K (.ref C) "__getattribute__" = some (some (.builtin "type.__getattribute__")))
    (pa : PySem.W.findCls K (.ref C) mc "parse" = some (.get (.builtin "classmethod.__get__") (.ref pC) .none (.ref C)))
    (pr : PySem.W.recIn K pC "classmethod" = some (.ref fc1 :: pRest))
    (pf : PySem.W.fnIn K fc1 = true)
    (kc1 : PySem.W.keepIn K (.ref fc1) = true)
    (lc1 : K.lookup fc1 = some ⟨occ1, odc1, .func (PySem.W.fnOf "parse" "Schema.parse" (defArgs s_Schema_parse) (defBody s_Schema_parse) (defScope s_Schema_parse) .none kVc1 dcc1 pmc1 anc1 cdc1 ctc1), slc1⟩)
    (cc1 : PySem.W.codeIn K cdc1 "Schema.parse" = true)
    (ac2 : PySem.W.findIn K (.ref C) "__eq__" = some (some (.ref fc2)))
    (ic2 : PySem.W.isFn K (.ref fc2) = true)
    (kc2 : PySem.W.keepIn K (.ref fc2) = true)
    (lc2 : K.lookup fc2 = some ⟨occ2, odc2, .func (PySem.W.fnOf "__eq__" "Schema.__eq__" (defArgs s_Schema_eq_) (defBody s_Schema_eq_) (defScope s_Schema_eq_) .none kVc2 dcc2 pmc2 anc2 cdc2 ctc2), slc2⟩)
    (cc2 : PySem.W.codeIn K cdc2 "Schema.__eq__" = true)
    (ac3 : PySem.W.findIn K (.ref C) "columns" = some (some (.ref fc3)))
    (ic3 : PySem.W.isFn K (.ref fc3) = true)
    (kc3 : PySem.W.keepIn K (.ref fc3) = true)
    (lc3 : K.lookup fc3 = some ⟨occ3, odc3, .func (PySem.W.fnOf "columns" "Schema.columns" (defArgs s_Schema_columns) (defBody s_Schema_columns) (defScope s_Schema_columns) .none kVc3 dcc3 pmc3 anc3 cdc3 ctc3), slc3⟩)
    (cc3 : PySem.W.codeIn K cdc3 "Schema.columns" = true)
    (av0 : PySem.W.findIn K (.ref CV) "__init__" = some (some (.ref fv0)))
    (iv0 : PySem.W.isFn K (.ref fv0) = true)
    (kv0 : PySem.W.keepIn K (.ref fv0) = true)
    (lv0 : K.lookup fv0 = some ⟨ocv0, odv0, .func (PySem.W.fnOf "__init__" "View.__init__" (defArgs s_View_init_) (defBody s_View_init_) (defScope s_View_init_) .none kVv0 dcv0 pmv0 anv0 cdv0 ctv0), slv0⟩)
    (cv0 : PySem.W.codeIn K cdv0 "View.__init__" = true)
    (rdCV : PySem.W.readsIn K CV mcCV = true)
    (gaCV : PySem.W.specialIn K (.ref CV) "__getattribute__" = some (some (.builtin "type.__getattribute__")))
    (paCV : PySem.W.findCls K (.ref CV) mcCV "parse" = some (.get (.builtin "classmethod.__get__") (.ref pCCV) .none (.ref CV)))
    (prCV : PySem.W.recIn K pCCV "classmethod" = some (.ref fv1 :: pRestCV))
    (pfCV : PySem.W.fnIn K fv1 = true)
    (kv1 : PySem.W.keepIn K (.ref fv1) = true)
    (lv1 : K.lookup fv1 = some ⟨ocv1, odv1, .func (PySem.W.fnOf "parse" "View.parse" (defArgs s_View_parse) (defBody s_View_parse) (defScope s_View_parse) .none kVv1 dcv1 pmv1 anv1 cdv1 ctv1), slv1⟩)
    (cv1 : PySem.W.codeIn K cdv1 "View.parse" = true)
    (av2 : PySem.W.findIn K (.ref CV) "__str__" = some (some (.ref fv2)))
    (iv2 : PySem.W.isFn K (.ref fv2) = true)
    (kv2 : PySem.W.keepIn K (.ref fv2) = true)
    (lv2 : K.lookup fv2 = some ⟨ocv2, odv2, .func (PySem.W.fnOf "__str__" "View.__str__" (defArgs s_View_str_) (defBody s_View_str_) (defScope s_View_str_) .none kVv2 dcv2 pmv2 anv2 cdv2 ctv2), slv2⟩)
    (cv2 : PySem.W.codeIn K cdv2 "View.__str__" = true)
    (av3 : PySem.W.findIn K (.ref CV) "__eq__" = some (some (.ref fv3)))
    (iv3 : PySem.W.isFn K (.ref fv3) = true)
    (kv3 : PySem.W.keepIn K (.ref fv3) = true)
    (lv3 : K.lookup fv3 = some ⟨ocv3, odv3, .func (PySem.W.fnOf "__eq__" "View.__eq__" (defArgs s_View_eq_) (defBody s_View_eq_) (defScope s_View_eq_) .none kVv3 dcv3 pmv3 anv3 cdv3 ctv3), slv3⟩)
    (cv3 : PySem.W.codeIn K cdv3 "View.__eq__" = true)
    (av4 : PySem.W.findIn K (.ref CV) "_place" = some (some (.ref fv4)))
    (iv4 : PySem.W.isFn K (.ref fv4) = true)
    (kv4 : PySem.W.keepIn K (.ref fv4) = true)
    (lv4 : K.lookup fv4 = some ⟨ocv4, odv4, .func (PySem.W.fnOf "_place" "View._place" (defArgs s_View_place) (defBody s_View_place) (defScope s_View_place) .none kVv4 dcv4 pmv4 anv4 cdv4 ctv4), slv4⟩)
    (cv4 : PySem.W.codeIn K cdv4 "View._place" = true)
    (av5 : PySem.W.findIn K (.ref CV) "_step" = some (some (.ref fv5)))
    (iv5 : PySem.W.isFn K (.ref fv5) = true)
    (kv5 : PySem.W.keepIn K (.ref fv5) = true)
    (lv5 : K.lookup fv5 = some ⟨ocv5, odv5, .func (PySem.W.fnOf "_step" "View._step" (defArgs s_View_step) (defBody s_View_step) (defScope s_View_step) .none kVv5 dcv5 pmv5 anv5 cdv5 ctv5), slv5⟩)
    (cv5 : PySem.W.codeIn K cdv5 "View._step" = true)
    (ap0 : PySem.W.findIn K (.ref CP) "__init__" = some (some (.ref fp0)))
    (ip0 : PySem.W.isFn K (.ref fp0) = true)
    (kp0 : PySem.W.keepIn K (.ref fp0) = true)
    (lp0 : K.lookup fp0 = some ⟨ocp0, odp0, .func (PySem.W.fnOf "__init__" "Parts.__init__" (defArgs s_Parts_init_) (defBody s_Parts_init_) (defScope s_Parts_init_) .none kVp0 dcp0 pmp0 anp0 cdp0 ctp0), slp0⟩)
    (cp0 : PySem.W.codeIn K cdp0 "Parts.__init__" = true)
    (ap1 : PySem.W.findIn K (.ref CP) "takes" = some (some (.ref fp1)))
    (ip1 : PySem.W.isFn K (.ref fp1) = true)
    (kp1 : PySem.W.keepIn K (.ref fp1) = true)
    (lp1 : K.lookup fp1 = some ⟨ocp1, odp1, .func (PySem.W.fnOf "takes" "Parts.takes" (defArgs s_Parts_takes) (defBody s_Parts_takes) (defScope s_Parts_takes) .none kVp1 dcp1 pmp1 anp1 cdp1 ctp1), slp1⟩)
    (cp1 : PySem.W.codeIn K cdp1 "Parts.takes" = true)
    (ap2 : PySem.W.findIn K (.ref CP) "_takes_root" = some (some (.ref fp2)))
    (ip2 : PySem.W.isFn K (.ref fp2) = true)
    (kp2 : PySem.W.keepIn K (.ref fp2) = true)
    (lp2 : K.lookup fp2 = some ⟨ocp2, odp2, .func (PySem.W.fnOf "_takes_root" "Parts._takes_root" (defArgs s_Parts_takes_root) (defBody s_Parts_takes_root) (defScope s_Parts_takes_root) .none kVp2 dcp2 pmp2 anp2 cdp2 ctp2), slp2⟩)
    (cp2 : PySem.W.codeIn K cdp2 "Parts._takes_root" = true)
    (ap3 : PySem.W.findIn K (.ref CP) "_add_node" = some (some (.ref fp3)))
    (ip3 : PySem.W.isFn K (.ref fp3) = true)
    (kp3 : PySem.W.keepIn K (.ref fp3) = true)
    (lp3 : K.lookup fp3 = some ⟨ocp3, odp3, .func (PySem.W.fnOf "_add_node" "Parts._add_node" (defArgs s_Parts_add_node) (defBody s_Parts_add_node) (defScope s_Parts_add_node) .none kVp3 dcp3 pmp3 anp3 cdp3 ctp3), slp3⟩)
    (cp3 : PySem.W.codeIn K cdp3 "Parts._add_node" = true)
    (ap4 : PySem.W.findIn K (.ref CP) "_takes_part" = some (some (.ref fp4)))
    (ip4 : PySem.W.isFn K (.ref fp4) = true)
    (kp4 : PySem.W.keepIn K (.ref fp4) = true)
    (lp4 : K.lookup fp4 = some ⟨ocp4, odp4, .func (PySem.W.fnOf "_takes_part" "Parts._takes_part" (defArgs s_Parts_takes_part) (defBody s_Parts_takes_part) (defScope s_Parts_takes_part) .none kVp4 dcp4 pmp4 anp4 cdp4 ctp4), slp4⟩)
    (cp4 : PySem.W.codeIn K cdp4 "Parts._takes_part" = true)
    (ap5 : PySem.W.findIn K (.ref CP) "_rank" = some (some (.ref fp5)))
    (ip5 : PySem.W.isFn K (.ref fp5) = true)
    (kp5 : PySem.W.keepIn K (.ref fp5) = true)
    (lp5 : K.lookup fp5 = some ⟨ocp5, odp5, .func (PySem.W.fnOf "_rank" "Parts._rank" (defArgs s_Parts_rank) (defBody s_Parts_rank) (defScope s_Parts_rank) .none kVp5 dcp5 pmp5 anp5 cdp5 ctp5), slp5⟩)
    (cp5 : PySem.W.codeIn K cdp5 "Parts._rank" = true)
    (ap6 : PySem.W.findIn K (.ref CP) "_columns_at" = some (some (.ref fp6)))
    (ip6 : PySem.W.isFn K (.ref fp6) = true)
    (kp6 : PySem.W.keepIn K (.ref fp6) = true)
    (lp6 : K.lookup fp6 = some ⟨ocp6, odp6, .func (PySem.W.fnOf "_columns_at" "Parts._columns_at" (defArgs s_Parts_columns_at) (defBody s_Parts_columns_at) (defScope s_Parts_columns_at) .none kVp6 dcp6 pmp6 anp6 cdp6 ctp6), slp6⟩)
    (cp6 : PySem.W.codeIn K cdp6 "Parts._columns_at" = true)
    (ap7 : PySem.W.findIn K (.ref CP) "_takes_words" = some (some (.ref fp7)))
    (ip7 : PySem.W.isFn K (.ref fp7) = true)
    (kp7 : PySem.W.keepIn K (.ref fp7) = true)
    (lp7 : K.lookup fp7 = some ⟨ocp7, odp7, .func (PySem.W.fnOf "_takes_words" "Parts._takes_words" (defArgs s_Parts_takes_words) (defBody s_Parts_takes_words) (defScope s_Parts_takes_words) .none kVp7 dcp7 pmp7 anp7 cdp7 ctp7), slp7⟩)
    (cp7 : PySem.W.codeIn K cdp7 "Parts._takes_words" = true)
    (ap8 : PySem.W.findIn K (.ref CP) "_takes_range" = some (some (.ref fp8)))
    (ip8 : PySem.W.isFn K (.ref fp8) = true)
    (kp8 : PySem.W.keepIn K (.ref fp8) = true)
    (lp8 : K.lookup fp8 = some ⟨ocp8, odp8, .func (PySem.W.fnOf "_takes_range" "Parts._takes_range" (defArgs s_Parts_takes_range) (defBody s_Parts_takes_range) (defScope s_Parts_takes_range) .none kVp8 dcp8 pmp8 anp8 cdp8 ctp8), slp8⟩)
    (cp8 : PySem.W.codeIn K cdp8 "Parts._takes_range" = true)
    (ap9 : PySem.W.findIn K (.ref CP) "_takes_child" = some (some (.ref fp9)))
    (ip9 : PySem.W.isFn K (.ref fp9) = true)
    (kp9 : PySem.W.keepIn K (.ref fp9) = true)
    (lp9 : K.lookup fp9 = some ⟨ocp9, odp9, .func (PySem.W.fnOf "_takes_child" "Parts._takes_child" (defArgs s_Parts_takes_child) (defBody s_Parts_takes_child) (defScope s_Parts_takes_child) .none kVp9 dcp9 pmp9 anp9 cdp9 ctp9), slp9⟩)
    (cp9 : PySem.W.codeIn K cdp9 "Parts._takes_child" = true)
    (aC : PySem.W.nsIn K mainGlobals "Schema" = some (some (.ref C)))
    (pg : PySem.W.plainGet K C Str.empty = true)
    (hd : PySem.W.hasDictIn K C = true)
    (po : PySem.W.plainOver K C = true)
    (sa : PySem.W.findIn K (.ref C) "__setattr__" = some (some (.builtin "object.__setattr__")))
    (mk : PySem.W.makesIn K C = true)
    (kc : PySem.W.keepIn K (.ref C) = true)
    (n1 : PySem.W.findIn K (.ref C) "tables" = some none)
    (n2 : PySem.W.findIn K (.ref C) "_columns" = some none)
    (n3 : PySem.W.findIn K (.ref C) "_rows" = some none)
    (ha : PySem.W.findIn K (.ref C) "__class__" = some (some (.builtin "object.__class__")))
    (hm : PySem.W.mroIn K C (.type "object") = some true)
    (ne : PySem.W.findIn K (.ref C) "__ne__" = some (some (.builtin "object.__ne__")))
    (aCV : PySem.W.nsIn K mainGlobals "View" = some (some (.ref CV)))
    (pgV : PySem.W.plainGet K CV Str.empty = true)
    (hdV : PySem.W.hasDictIn K CV = true)
    (poV : PySem.W.plainOver K CV = true)
    (saV : PySem.W.findIn K (.ref CV) "__setattr__" = some (some (.builtin "object.__setattr__")))
    (mkV : PySem.W.makesIn K CV = true)
    (kcV : PySem.W.keepIn K (.ref CV) = true)
    (n1V : PySem.W.findIn K (.ref CV) "schema" = some none)
    (n2V : PySem.W.findIn K (.ref CV) "nodes" = some none)
    (n3V : PySem.W.findIn K (.ref CV) "shown" = some none)
    (n4V : PySem.W.findIn K (.ref CV) "ranges" = some none)
    (n5V : PySem.W.findIn K (.ref CV) "_text" = some none)
    (n6V : PySem.W.findIn K (.ref CV) "steps" = some none)
    (n7V : PySem.W.findIn K (.ref CV) "looks" = some none)
    (n8V : PySem.W.findIn K (.ref CV) "tests" = some none)
    (haV : PySem.W.findIn K (.ref CV) "__class__" = some (some (.builtin "object.__class__")))
    (hmV : PySem.W.mroIn K CV (.type "object") = some true)
    (neV : PySem.W.findIn K (.ref CV) "__ne__" = some (some (.builtin "object.__ne__")))
    (eYV : PySem.W.typeIn K (.ref CV) = some (.type "type"))
    (eZV : PySem.W.isClsIn K CV = true)
    (aCP : PySem.W.nsIn K mainGlobals "Parts" = some (some (.ref CP)))
    (pgP : PySem.W.plainGet K CP Str.empty = true)
    (hdP : PySem.W.hasDictIn K CP = true)
    (poP : PySem.W.plainOver K CP = true)
    (saP : PySem.W.findIn K (.ref CP) "__setattr__" = some (some (.builtin "object.__setattr__")))
    (mkP : PySem.W.makesIn K CP = true)
    (kcP : PySem.W.keepIn K (.ref CP) = true)
    (n1P : PySem.W.findIn K (.ref CP) "_schema" = some none)
    (n2P : PySem.W.findIn K (.ref CP) "nodes" = some none)
    (n3P : PySem.W.findIn K (.ref CP) "shown" = some none)
    (n4P : PySem.W.findIn K (.ref CP) "ranges" = some none)
    (n5P : PySem.W.findIn K (.ref CP) "_way" = some none)
    (hn : PySem.W.specialIn K (.builtin "object.__class__") "__get__" = some (some (.builtin "getset_descriptor.__get__")))
    (htk : PySem.W.takesIn K (.builtin "object.__class__") = some true)
    (nq : (Value.ref C == Value.ref CV) = false)
    (sq : PySem.W.subIn K (.ref C) (.ref CV) = some false)
    (b_len : PySem.W.nsIn K mainGlobals "len" = some none)
    (b_int : PySem.W.nsIn K mainGlobals "int" = some none)
    (b_enumerate : PySem.W.nsIn K mainGlobals "enumerate" = some none)
    (b_isinstance : PySem.W.nsIn K mainGlobals "isinstance" = some none)
    (b_tuple : PySem.W.nsIn K mainGlobals "tuple" = some none)
    (b_sum : PySem.W.nsIn K mainGlobals "sum" = some none)
    (b_str : PySem.W.nsIn K mainGlobals "str" = some none)
    (b_repr : PySem.W.nsIn K mainGlobals "repr" = some none)
    (b_range : PySem.W.nsIn K mainGlobals "range" = some none)
    (b_min : PySem.W.nsIn K mainGlobals "min" = some none)
    (b_max : PySem.W.nsIn K mainGlobals "max" = some none)
    (b_abs : PySem.W.nsIn K mainGlobals "abs" = some none)
    (g_MOST_DIGITS : PySem.W.nsIn K mainGlobals "MOST_DIGITS" = some (some (.int 7 tk_MOST_DIGITS)))
    (g_LOWEST_END : PySem.W.nsIn K mainGlobals "LOWEST_END" = some (some (.int (-1000) tk_LOWEST_END)))
    (g_HIGHEST_END : PySem.W.nsIn K mainGlobals "HIGHEST_END" = some (some (.int 1000 tk_HIGHEST_END)))
    (g_MOST_NODES : PySem.W.nsIn K mainGlobals "MOST_NODES" = some (some (.int 4 tk_MOST_NODES)))
    (g_MOST_RANGES : PySem.W.nsIn K mainGlobals "MOST_RANGES" = some (some (.int 4 tk_MOST_RANGES)))
    (g_MOST_LETTERS : PySem.W.nsIn K mainGlobals "MOST_LETTERS" = some (some (.int 8 tk_MOST_LETTERS)))
    (g_MOST_TABLES : PySem.W.nsIn K mainGlobals "MOST_TABLES" = some (some (.int 3 tk_MOST_TABLES)))
    (g_MOST_PLAIN : PySem.W.nsIn K mainGlobals "MOST_PLAIN" = some (some (.int 2 tk_MOST_PLAIN)))
    (g_MOST_REFERENCES : PySem.W.nsIn K mainGlobals "MOST_REFERENCES" = some (some (.int 2 tk_MOST_REFERENCES)))
    (g_MOST_REFERENCES_IN_ALL : PySem.W.nsIn K mainGlobals "MOST_REFERENCES_IN_ALL" = some (some (.int 3 tk_MOST_REFERENCES_IN_ALL))) :
    ∃ fd : FuncData, (∀ (s : Shared) (v : Value), BindsTo s fd ⟨[v], []⟩ [("script", v)]) ∧ ∀ base : Heap, K.In base → base.Ns mainGlobals mg → LG.LawAt l.prog w K mg base fa fd "script" (spM K preLaw1) := by
  have e := hfa.symm.trans (PySem.W.mg_of X G am0)
  cases e
  have Fm0 := fun_mk (st := s_law) lm0 cm0 km0
  have Fm1 := fun_mk (st := s_l_feed) lm1 cm1 km1
  have Fm2 := fun_mk (st := s_l_take) lm2 cm2 km2
  have Fm3 := fun_mk (st := s_l_pick) lm3 cm3 km3
  have Fm4 := fun_mk (st := s_l_tables) lm4 cm4 km4
  have Fm5 := fun_mk (st := s_l_schema_text) lm5 cm5 km5
  have Fm6 := fun_mk (st := s_l_columns) lm6 cm6 km6
  have Fm7 := fun_mk (st := s_l_end) lm7 cm7 km7
  have Fm8 := fun_mk (st := s_l_add_node) lm8 cm8 km8
  have Fm9 := fun_mk (st := s_l_view) lm9 cm9 km9
  have Fm10 := fun_mk (st := s_l_is_right) lm10 cm10 km10
  have Fm11 := fun_mk (st := s_l_words_right) lm11 cm11 km11
  have Fm12 := fun_mk (st := s_is_end) lm12 cm12 km12
  have Fm13 := fun_mk (st := s_read_end) lm13 cm13 km13
  have Fm14 := fun_mk (st := s_read_integer) lm14 cm14 km14
  have Fm15 := fun_mk (st := s_column_place) lm15 cm15 km15
  have Fm16 := fun_mk (st := s_target_of) lm16 cm16 km16
  have Fm17 := fun_mk (st := s_count_references) lm17 cm17 km17
  have Fm18 := fun_mk (st := s_column_row) lm18 cm18 km18
  have Fm19 := fun_mk (st := s_text_rows) lm19 cm19 km19
  have Fm20 := fun_mk (st := s_is_name) lm20 cm20 km20
  have Fm21 := fun_mk (st := s_is_new_name) lm21 cm21 km21
  have Fm22 := fun_mk (st := s_begins_table) lm22 cm22 km22
  have Fm23 := fun_mk (st := s_adds_plain) lm23 cm23 km23
  have Fm24 := fun_mk (st := s_adds_reference) lm24 cm24 km24
  have Fm25 := fun_mk (st := s_read_tables) lm25 cm25 km25
  have Fc0 := fun_mk (st := s_Schema_init_) lc0 cc0 kc0
  have Fc1 := fun_mk (st := s_Schema_parse) lc1 cc1 kc1
  have Fc2 := fun_mk (st := s_Schema_eq_) lc2 cc2 kc2
  have Fc3 := fun_mk (st := s_Schema_columns) lc3 cc3 kc3
  have Fv0 := fun_mk (st := s_View_init_) lv0 cv0 kv0
  have Fv1 := fun_mk (st := s_View_parse) lv1 cv1 kv1
  have Fv2 := fun_mk (st := s_View_str_) lv2 cv2 kv2
  have Fv3 := fun_mk (st := s_View_eq_) lv3 cv3 kv3
  have Fv4 := fun_mk (st := s_View_place) lv4 cv4 kv4
  have Fv5 := fun_mk (st := s_View_step) lv5 cv5 kv5
  have Fp0 := fun_mk (st := s_Parts_init_) lp0 cp0 kp0
  have Fp1 := fun_mk (st := s_Parts_takes) lp1 cp1 kp1
  have Fp2 := fun_mk (st := s_Parts_takes_root) lp2 cp2 kp2
  have Fp3 := fun_mk (st := s_Parts_add_node) lp3 cp3 kp3
  have Fp4 := fun_mk (st := s_Parts_takes_part) lp4 cp4 kp4
  have Fp5 := fun_mk (st := s_Parts_rank) lp5 cp5 kp5
  have Fp6 := fun_mk (st := s_Parts_columns_at) lp6 cp6 kp6
  have Fp7 := fun_mk (st := s_Parts_takes_words) lp7 cp7 kp7
  have Fp8 := fun_mk (st := s_Parts_takes_range) lp8 cp8 kp8
  have Fp9 := fun_mk (st := s_Parts_takes_child) lp9 cp9 kp9
  have bm0 := Fm0.binds (ps := ["script"]) fun _ _ _ _ _ _ us hl => match us, hl with | [_], _ => rfl
  have bm1 := Fm1.binds (ps := ["script", "index"]) fun _ _ _ _ _ _ us hl => match us, hl with | [_, _], _ => rfl
  have bm2 := Fm2.binds (ps := ["feed", "size"]) fun _ _ _ _ _ _ us hl => match us, hl with | [_, _], _ => rfl
  have bm3 := Fm3.binds (ps := ["feed", "options"]) fun _ _ _ _ _ _ us hl => match us, hl with | [_, _], _ => rfl
  have bm4 := Fm4.binds (ps := ["feed"]) fun _ _ _ _ _ _ us hl => match us, hl with | [_], _ => rfl
  have bm5 := Fm5.binds (ps := ["tables"]) fun _ _ _ _ _ _ us hl => match us, hl with | [_], _ => rfl
  have bm6 := Fm6.binds (ps := ["tables", "table"]) fun _ _ _ _ _ _ us hl => match us, hl with | [_, _], _ => rfl
  have bm7 := Fm7.binds (ps := ["feed"]) fun _ _ _ _ _ _ us hl => match us, hl with | [_], _ => rfl
  have bm8 := Fm8.binds (ps := ["feed", "tables", "view", "rows", "node", "depth"]) fun _ _ _ _ _ _ us hl => match us, hl with | [_, _, _, _, _, _], _ => rfl
  have bm9 := Fm9.binds (ps := ["feed", "tables"]) fun _ _ _ _ _ _ us hl => match us, hl with | [_, _], _ => rfl
  have bm10 := Fm10.binds (ps := ["schema", "view"]) fun _ _ _ _ _ _ us hl => match us, hl with | [_, _], _ => rfl
  have bm11 := Fm11.binds (ps := []) fun _ _ _ _ _ _ us hl => match us, hl with | [], _ => rfl
  have bm12 := Fm12.binds (ps := ["word"]) fun _ _ _ _ _ _ us hl => match us, hl with | [_], _ => rfl
  have bm13 := Fm13.binds (ps := ["word"]) fun _ _ _ _ _ _ us hl => match us, hl with | [_], _ => rfl
  have bm14 := Fm14.binds (ps := ["word", "low", "high"]) fun _ _ _ _ _ _ us hl => match us, hl with | [_, _, _], _ => rfl
  have bm15 := Fm15.binds (ps := ["schema", "table", "column"]) fun _ _ _ _ _ _ us hl => match us, hl with | [_, _, _], _ => rfl
  have bm16 := Fm16.binds (ps := ["schema", "table", "reference"]) fun _ _ _ _ _ _ us hl => match us, hl with | [_, _, _], _ => rfl
  have bm17 := Fm17.binds (ps := ["columns"]) fun _ _ _ _ _ _ us hl => match us, hl with | [_], _ => rfl
  have bm18 := Fm18.binds (ps := ["name", "target"]) fun _ _ _ _ _ _ us hl => match us, hl with | [_, _], _ => rfl
  have bm19 := Fm19.binds (ps := ["tables"]) fun _ _ _ _ _ _ us hl => match us, hl with | [_], _ => rfl
  have bm20 := Fm20.binds (ps := ["word"]) fun _ _ _ _ _ _ us hl => match us, hl with | [_], _ => rfl
  have bm21 := Fm21.binds (ps := ["word", "pairs"]) fun _ _ _ _ _ _ us hl => match us, hl with | [_, _], _ => rfl
  have bm22 := Fm22.binds (ps := ["tables", "words"]) fun _ _ _ _ _ _ us hl => match us, hl with | [_, _], _ => rfl
  have bm23 := Fm23.binds (ps := ["tables", "words"]) fun _ _ _ _ _ _ us hl => match us, hl with | [_, _], _ => rfl
  have bm24 := Fm24.binds (ps := ["tables", "words"]) fun _ _ _ _ _ _ us hl => match us, hl with | [_, _], _ => rfl
  have bm25 := Fm25.binds (ps := ["text"]) fun _ _ _ _ _ _ us hl => match us, hl with | [_], _ => rfl
  have bc0 := Fc0.binds (ps := ["self", "tables"]) fun _ _ _ _ _ _ us hl => match us, hl with | [_, _], _ => rfl
  have bc1 := Fc1.binds (ps := ["cls", "text"]) fun _ _ _ _ _ _ us hl => match us, hl with | [_, _], _ => rfl
  have bc2 := Fc2.binds (ps := ["self", "other"]) fun _ _ _ _ _ _ us hl => match us, hl with | [_, _], _ => rfl
  have bc3 := Fc3.binds (ps := ["self", "table"]) fun _ _ _ _ _ _ us hl => match us, hl with | [_, _], _ => rfl
  have bv0 := Fv0.binds (ps := ["self", "schema", "text"]) fun _ _ _ _ _ _ us hl => match us, hl with | [_, _, _], _ => rfl
  have bv1 := Fv1.binds (ps := ["cls", "schema", "text"]) fun _ _ _ _ _ _ us hl => match us, hl with | [_, _, _], _ => rfl
  have bv2 := Fv2.binds (ps := ["self"]) fun _ _ _ _ _ _ us hl => match us, hl with | [_], _ => rfl
  have bv3 := Fv3.binds (ps := ["self", "other"]) fun _ _ _ _ _ _ us hl => match us, hl with | [_, _], _ => rfl
  have bv4 := Fv4.binds (ps := ["self", "node", "column"]) fun _ _ _ _ _ _ us hl => match us, hl with | [_, _, _], _ => rfl
  have bv5 := Fv5.binds (ps := ["self", "node"]) fun _ _ _ _ _ _ us hl => match us, hl with | [_, _], _ => rfl
  have bp0 := Fp0.binds (ps := ["self", "schema"]) fun _ _ _ _ _ _ us hl => match us, hl with | [_, _], _ => rfl
  have bp1 := Fp1.binds (ps := ["self", "number", "row"]) fun _ _ _ _ _ _ us hl => match us, hl with | [_, _, _], _ => rfl
  have bp2 := Fp2.binds (ps := ["self", "words"]) fun _ _ _ _ _ _ us hl => match us, hl with | [_, _], _ => rfl
  have bp3 := Fp3.binds (ps := ["self", "parent", "reference", "table"]) fun _ _ _ _ _ _ us hl => match us, hl with | [_, _, _, _], _ => rfl
  have bp4 := Fp4.binds (ps := ["self", "level", "words"]) fun _ _ _ _ _ _ us hl => match us, hl with | [_, _, _], _ => rfl
  have bp5 := Fp5.binds (ps := ["self", "node", "words"]) fun _ _ _ _ _ _ us hl => match us, hl with | [_, _, _], _ => rfl
  have bp6 := Fp6.binds (ps := ["self", "node"]) fun _ _ _ _ _ _ us hl => match us, hl with | [_, _], _ => rfl
  have bp7 := Fp7.binds (ps := ["self", "node", "words"]) fun _ _ _ _ _ _ us hl => match us, hl with | [_, _, _], _ => rfl
  have bp8 := Fp8.binds (ps := ["self", "node", "words"]) fun _ _ _ _ _ _ us hl => match us, hl with | [_, _, _], _ => rfl
  have bp9 := Fp9.binds (ps := ["self", "node", "reference"]) fun _ _ _ _ _ _ us hl => match us, hl with | [_, _, _], _ => rfl
  refine ⟨PySem.W.fnOf "law" "law" (defArgs s_law) (defBody s_law) (defScope s_law) .none kVm0 dcm0 pmm0 anm0 cdm0 ctm0, fun s v => .of_eq rfl, fun base _ _ => ?_⟩
  have z_len := PySem.W.mg_none_of X G b_len
  have z_int := PySem.W.mg_none_of X G b_int
  have z_enumerate := PySem.W.mg_none_of X G b_enumerate
  have z_isinstance := PySem.W.mg_none_of X G b_isinstance
  have z_tuple := PySem.W.mg_none_of X G b_tuple
  have z_sum := PySem.W.mg_none_of X G b_sum
  have z_str := PySem.W.mg_none_of X G b_str
  have z_repr := PySem.W.mg_none_of X G b_repr
  have z_range := PySem.W.mg_none_of X G b_range
  have z_min := PySem.W.mg_none_of X G b_min
  have z_max := PySem.W.mg_none_of X G b_max
  have z_abs := PySem.W.mg_none_of X G b_abs
  have y_MOST_DIGITS : ∃ t, mg "MOST_DIGITS" = some (.int 7 t) := ⟨_, PySem.W.mg_of X G g_MOST_DIGITS⟩
  have y_LOWEST_END : ∃ t, mg "LOWEST_END" = some (.int (-1000) t) := ⟨_, PySem.W.mg_of X G g_LOWEST_END⟩
  have y_HIGHEST_END : ∃ t, mg "HIGHEST_END" = some (.int 1000 t) := ⟨_, PySem.W.mg_of X G g_HIGHEST_END⟩
  have y_MOST_NODES : ∃ t, mg "MOST_NODES" = some (.int 4 t) := ⟨_, PySem.W.mg_of X G g_MOST_NODES⟩
  have y_MOST_RANGES : ∃ t, mg "MOST_RANGES" = some (.int 4 t) := ⟨_, PySem.W.mg_of X G g_MOST_RANGES⟩
  have y_MOST_LETTERS : ∃ t, mg "MOST_LETTERS" = some (.int 8 t) := ⟨_, PySem.W.mg_of X G g_MOST_LETTERS⟩
  have y_MOST_TABLES : ∃ t, mg "MOST_TABLES" = some (.int 3 t) := ⟨_, PySem.W.mg_of X G g_MOST_TABLES⟩
  have y_MOST_PLAIN : ∃ t, mg "MOST_PLAIN" = some (.int 2 t) := ⟨_, PySem.W.mg_of X G g_MOST_PLAIN⟩
  have y_MOST_REFERENCES : ∃ t, mg "MOST_REFERENCES" = some (.int 2 t) := ⟨_, PySem.W.mg_of X G g_MOST_REFERENCES⟩
  have y_MOST_REFERENCES_IN_ALL : ∃ t, mg "MOST_REFERENCES_IN_ALL" = some (.int 3 t) := ⟨_, PySem.W.mg_of X G g_MOST_REFERENCES_IN_ALL⟩
  have yS := PySem.W.mg_of X G aC
  have yV := PySem.W.mg_of X G aCV
  have yP := PySem.W.mg_of X G aCP
  have sc : SchCls K C := ⟨⟨pg, hd, po, sa⟩, n1, n2, n3, ha, hn, htk, hm, if_pos (beq_self_eq_true _)⟩
  have vc : ViewCls K CV := ⟨⟨pgV, hdV, poV, saV⟩, n1V, n2V, n3V, n4V, n5V, n6V, n7V, n8V⟩
  have vi : BaseIs K CV := ⟨vc.cl, haV, hn, htk, hmV, if_pos (beq_self_eq_true _)⟩
  have pc : PartsCls K CP := ⟨⟨pgP, hdP, poP, saP⟩, n1P, n2P, n3P, n4P, n5P⟩
  have ap : Apart K CV := apart_of eZV eYV
  obtain ⟨apC, nfC⟩ := apart_two nq eZV eYV sq
  have Dcount : Def l.prog w K mg base 1 "count_references" fm17 _ ["columns"] (spM K preCount) := ⟨ok_count Fm17 z_len, PySem.W.mg_of X G am17, km17, bm17⟩
  have Dcol : Def l.prog w K mg base 1 "column_row" fm18 _ ["name", "target"] (spM K preColRow) := ⟨ok_col Fm18, PySem.W.mg_of X G am18, km18, bm18⟩
  have Drows : Def l.prog w K mg base 2 "text_rows" fm19 _ ["tables"] (spM K preRows) := ⟨ok_rows Fm19 Dcol, PySem.W.mg_of X G am19, km19, bm19⟩
  have Disn : Def l.prog w K mg base 1 "is_name" fm20 _ ["word"] (spM K preIsName) := ⟨ok_is_name Fm20 z_len y_MOST_LETTERS, PySem.W.mg_of X G am20, km20, bm20⟩
  have Dnew : Def l.prog w K mg base 2 "is_new_name" fm21 _ ["word", "pairs"] (spM K preIsNew) := ⟨ok_is_new Fm21 Disn, PySem.W.mg_of X G am21, km21, bm21⟩
  have Dbeg : Def l.prog w K mg base 3 "begins_table" fm22 _ ["tables", "words"] (spM K preBegins) := ⟨ok_begins Fm22 Dnew z_len y_MOST_TABLES, PySem.W.mg_of X G am22, km22, bm22⟩
  have Dplain : Def l.prog w K mg base 3 "adds_plain" fm23 _ ["tables", "words"] (spM K prePlain) := ⟨ok_plain Fm23 Dcount Dnew z_len y_MOST_PLAIN, PySem.W.mg_of X G am23, km23, bm23⟩
  have Dref : Def l.prog w K mg base 3 "adds_reference" fm24 _ ["tables", "words"] (spM K preRef) := ⟨ok_ref Fm24 Dcount Dnew z_len z_sum y_MOST_REFERENCES y_MOST_REFERENCES_IN_ALL, PySem.W.mg_of X G am24, km24, bm24⟩
  have Dread : Def l.prog w K mg base 4 "read_tables" fm25 _ ["text"] (spM K preRead) := ⟨ok_read Fm25 Dbeg Dplain Dref z_enumerate, PySem.W.mg_of X G am25, km25, bm25⟩
  have Oinit := ok_init (P := l.prog) (w := w) (base := base) (C := C) Fc0 Drows sc.cl n1 n2 n3 z_tuple
  have Ocols := ok_columns (P := l.prog) (w := w) (base := base) (mg := mg) (C := C) Fc3 sc.cl n2
  have Oeq := ok_eq (P := l.prog) (w := w) (base := base) Fc2 sc yS z_isinstance
  have Oparse := ok_parse (base := base) Fc1 Dread ⟨mk, ac0, ic0, kc⟩ Oinit bc0
  have Rparse : FnR l.prog w K mg base CX0 5 fc1 (spM K (preParse C)) := (Oparse.raw bc1 .nil).imp fun vs H Q E h => by rw [List.append_nil]; exact h
  have Mcols : Meth K C "columns" fc3 := ⟨ac3, ic3, kc3⟩
  have MP_takes : Meth K CP "takes" fp1 := ⟨ap1, ip1, kp1⟩
  have MP_takes_root : Meth K CP "_takes_root" fp2 := ⟨ap2, ip2, kp2⟩
  have MP_add_node : Meth K CP "_add_node" fp3 := ⟨ap3, ip3, kp3⟩
  have MP_takes_part : Meth K CP "_takes_part" fp4 := ⟨ap4, ip4, kp4⟩
  have MP_rank : Meth K CP "_rank" fp5 := ⟨ap5, ip5, kp5⟩
  have MP_columns_at : Meth K CP "_columns_at" fp6 := ⟨ap6, ip6, kp6⟩
  have MP_takes_words : Meth K CP "_takes_words" fp7 := ⟨ap7, ip7, kp7⟩
  have MP_takes_range : Meth K CP "_takes_range" fp8 := ⟨ap8, ip8, kp8⟩
  have MP_takes_child : Meth K CP "_takes_child" fp9 := ⟨ap9, ip9, kp9⟩
  have MV_place : Meth K CV "_place" fv4 := ⟨av4, iv4, kv4⟩
  have MV_step : Meth K CV "_step" fv5 := ⟨av5, iv5, kv5⟩
  have Dri : Def l.prog w K mg base 1 "read_integer" fm14 _ ["word", "low", "high"] (spM K preReadI) := ⟨ok_readi Fm14 z_len z_int z_str y_MOST_DIGITS, PySem.W.mg_of X G am14, km14, bm14⟩
  have Dre : Def l.prog w K mg base 2 "read_end" fm13 _ ["word"] (spM K preReadEnd) := ⟨ok_readend Fm13 Dri y_LOWEST_END y_HIGHEST_END, PySem.W.mg_of X G am13, km13, bm13⟩
  have Die : Def l.prog w K mg base 3 "is_end" fm12 _ ["word"] (spM K preIsEnd) := ⟨ok_isend Fm12 Dre, PySem.W.mg_of X G am12, km12, bm12⟩
  have Dcp : Def l.prog w K mg base 2 "column_place" fm15 _ ["schema", "table", "column"] (spM K (preColPlace C)) := ⟨ok_colplace Fm15 sc.cl Mcols Ocols bc3, PySem.W.mg_of X G am15, km15, bm15⟩
  have Dto : Def l.prog w K mg base 2 "target_of" fm16 _ ["schema", "table", "reference"] (spM K (preTarget C)) := ⟨ok_target Fm16 sc.cl Mcols Ocols bc3, PySem.W.mg_of X G am16, km16, bm16⟩
  have Opi := ok_pinit (P := l.prog) (w := w) (base := base) (mg := mg) (C := C) Fp0 pc
  have Opc := ok_pcols Fp6 pc sc.cl Mcols Ocols bc3
  have Opa := ok_padd (P := l.prog) (w := w) (base := base) (C := C) Fp3 pc z_len
  have Opk := ok_prank Fp5 pc.cl MP_columns_at Opc bp6 z_len
  have Opr := ok_proot Fp2 pc sc pc.cl MP_add_node Opa bp3 z_len
  have Opg := ok_prange (C := C) Fp8 pc Die Dre z_len y_MOST_RANGES
  have Oph := ok_pchild Fp9 pc pc.cl MP_add_node Opa bp3 Dto z_len y_MOST_NODES
  have Opw := ok_pwords Fp7 pc pc.cl MP_takes_range Opg bp8 MP_takes_child Oph bp9
  have Opp := ok_ppart Fp4 pc pc.cl MP_rank Opk bp5 MP_takes_words Opw bp7
  have Opt := ok_ptakes Fp1 pc pc.cl MP_takes_root Opr bp2 MP_takes_part Opp bp4 z_len
  have Ovp := ok_vplace Fv4 vc Dcp
  have Ovs := ok_vstep Fv5 vc vc.cl MV_place Ovp bv4
  have Mmp : Mk K CP fp0 := ⟨mkP, ap0, ip0, kcP⟩
  have Ovi := ok_vinit Fv0 pc vc pc.cl vc.cl yP Mmp Opi bp0 MP_takes Opt bp1 MV_step Ovs bv5 MV_place Ovp bv4 z_enumerate z_tuple
  have Mmv : Mk K CV fv0 := ⟨mkV, av0, iv0, kcV⟩
  have Ovr := ok_vparse Fv1 Mmv Ovi bv0
  have Rvparse : FnR l.prog w K mg base CX0 10 fv1 (spM K (preVParse CV C)) := (Ovr.raw bv1 .nil).imp fun vs H Q E h => by rw [List.append_nil]; exact h
  have Ovstr := ok_vstr (P := l.prog) (w := w) (base := base) (C := C) Fv2 vc z_str
  have Oveq := ok_veq Fv3 vc vi yV z_isinstance Oeq bc2 ac2 ic2
  have OveqO := ok_veqO Fv3 yV z_isinstance Oeq bc2 ac2 ic2
  have Dfeed : Def l.prog w K mg base 1 "_law_feed" fm1 _ ["script", "index"] (spFeed K) := ⟨ok_feedF Fm1 z_len z_abs z_max z_int, PySem.W.mg_of X G am1, km1, bm1⟩
  have Dtake : Def l.prog w K mg base 1 "_law_take" fm2 _ ["feed", "size"] (spM K preTake) := ⟨ok_take Fm2 z_int, PySem.W.mg_of X G am2, km2, bm2⟩
  have Dpick : Def l.prog w K mg base 2 "_law_pick" fm3 _ ["feed", "options"] (spM K prePick) := ⟨ok_pick Fm3 Dtake z_len, PySem.W.mg_of X G am3, km3, bm3⟩
  have Dtabs : Def l.prog w K mg base 3 "_law_tables" fm4 _ ["feed"] (spM K preTables) := ⟨ok_tables Fm4 Dpick Dtake z_range z_min, PySem.W.mg_of X G am4, km4, bm4⟩
  have Dtext : Def l.prog w K mg base 1 "_law_schema_text" fm5 _ ["tables"] (spM K preLText) := ⟨ok_ltext Fm5, PySem.W.mg_of X G am5, km5, bm5⟩
  have Dlcol : Def l.prog w K mg base 1 "_law_columns" fm6 _ ["tables", "table"] (spM K preLCols) := ⟨ok_lcols Fm6, PySem.W.mg_of X G am6, km6, bm6⟩
  have Dlend : Def l.prog w K mg base 3 "_law_end" fm7 _ ["feed"] (spM K preEnd) := ⟨ok_lend Fm7 Dpick, PySem.W.mg_of X G am7, km7, bm7⟩
  have Da0 : Def l.prog w K mg base 4 "_law_add_node" fm8 _ ["feed", "tables", "view", "rows", "node", "depth"] (spAdd K 0) := ⟨ok_ladd0 Fm8, PySem.W.mg_of X G am8, km8, bm8⟩
  have Da1 : Def l.prog w K mg base 5 "_law_add_node" fm8 _ ["feed", "tables", "view", "rows", "node", "depth"] (spAdd K 1) := ⟨ok_laddS (jj := 0) Fm8 Da0 Dlcol Dtake Dlend z_len z_str, PySem.W.mg_of X G am8, km8, bm8⟩
  have Da2 : Def l.prog w K mg base 6 "_law_add_node" fm8 _ ["feed", "tables", "view", "rows", "node", "depth"] (spAdd K 2) := ⟨ok_laddS (jj := 1) Fm8 Da1 Dlcol Dtake Dlend z_len z_str, PySem.W.mg_of X G am8, km8, bm8⟩
  have Da3 : Def l.prog w K mg base 7 "_law_add_node" fm8 _ ["feed", "tables", "view", "rows", "node", "depth"] (spAdd K 3) := ⟨ok_laddS (jj := 2) Fm8 Da2 Dlcol Dtake Dlend z_len z_str, PySem.W.mg_of X G am8, km8, bm8⟩
  have Da4 : Def l.prog w K mg base 8 "_law_add_node" fm8 _ ["feed", "tables", "view", "rows", "node", "depth"] (spAdd K 4) := ⟨ok_laddS (jj := 3) Fm8 Da3 Dlcol Dtake Dlend z_len z_str, PySem.W.mg_of X G am8, km8, bm8⟩
  have Dlview : Def l.prog w K mg base 9 "_law_view" fm9 _ ["feed", "tables"] (spM K preLView) := ⟨ok_lview Fm9 Dpick Da4, PySem.W.mg_of X G am9, km9, bm9⟩
  have Dlright : GW.DefG l.prog w K mg base 11 "_law_is_right" fm10 _ ["schema", "view"] (spM K (preLRt CV C)) := ⟨ok_lright Fm10 vc sc ap apC nfC yV ⟨rdCV, gaCV⟩ ⟨paCV, ⟨pRestCV, prCV⟩, pfCV⟩ Rvparse Ovstr bv2 av2 iv2 Oeq bc2 ac2 ic2 ne hm OveqO bv3 av3 iv3 neV hmV z_str z_tuple z_repr, PySem.W.mg_of X G am10, km10, bm10⟩
  have Dwords : Def l.prog w K mg base 11 "_law_words_right" fm11 _ [] (spM K preNone) := ⟨ok_lwords Fm11 vc yV ⟨rdCV, gaCV⟩ ⟨paCV, ⟨pRestCV, prCV⟩, pfCV⟩ Rvparse yS ⟨rd, ga⟩ ⟨pa, ⟨pRest, pr⟩, pf⟩ Rparse Ovstr bv2 av2 iv2 z_str, PySem.W.mg_of X G am11, km11, bm11⟩
  exact ok_law20 Fm0 Dfeed Dtabs Dtext Dlview Dlright Dwords yV ⟨rdCV, gaCV⟩ ⟨paCV, ⟨pRestCV, prCV⟩, pfCV⟩ Rvparse yS ⟨rd, ga⟩ ⟨pa, ⟨pRest, pr⟩, pf⟩ Rparse Oveq bv3 av3 iv3 neV hmV z_range z_max z_min z_len
end T3
open PySem PySem.W PyProof.Rows in
set_option maxRecDepth 100000 in
set_option maxHeartbeats 0 in
theorem PySem.Challenge.cw_onlyviews_k20_views_read_and_written_holds : PySem.Challenge.rw_onlyviews_k20_views_read_and_written.Holds := by
  w_on; o_law; k_head; (case hw => w_witness2)
  k_fill
  refine LG.walkAt (l := PySem.Challenge.rw_onlyviews_k20_views_read_and_written) (n := 63) (x := "script") (sp := fun K => DV.spM K SP.preLaw1) rfl (by decide) rfl (fun w h Y => PySem.W.kIn_of Y) ?F (fun K H a ns hl _ hS => ?_)
  case F =>
    intro w mg fa h KX G hmg
    refine' T3.all_mk (mc := .type "type") (mcCV := .type "type") KX G hmg ?am0 ?lm0 ?cm0 ?km0 ?am1 ?lm1 ?cm1 ?km1 ?am2 ?lm2 ?cm2 ?km2 ?am3 ?lm3 ?cm3 ?km3 ?am4 ?lm4 ?cm4 ?km4 ?am5 ?lm5 ?cm5 ?km5 ?am6 ?lm6 ?cm6 ?km6 ?am7 ?lm7 ?cm7 ?km7 ?am8 ?lm8 ?cm8 ?km8 ?am9 ?lm9 ?cm9 ?km9 ?am10 ?lm10 ?cm10 ?km10 ?am11 ?lm11 ?cm11 ?km11 ?am12 ?lm12 ?cm12 ?km12 ?am13 ?lm13 ?cm13 ?km13 ?am14 ?lm14 ?cm14 ?km14 ?am15 ?lm15 ?cm15 ?km15 ?am16 ?lm16 ?cm16 ?km16 ?am17 ?lm17 ?cm17 ?km17 ?am18 ?lm18 ?cm18 ?km18 ?am19 ?lm19 ?cm19 ?km19 ?am20 ?lm20 ?cm20 ?km20 ?am21 ?lm21 ?cm21 ?km21 ?am22 ?lm22 ?cm22 ?km22 ?am23 ?lm23 ?cm23 ?km23 ?am24 ?lm24 ?cm24 ?km24 ?am25 ?lm25 ?cm25 ?km25 ?ac0 ?ic0 ?kc0 ?lc0 ?cc0 ?rd ?ga ?pa ?pr ?pf ?kc1 ?lc1 ?cc1 ?ac2 ?ic2 ?kc2 ?lc2 ?cc2 ?ac3 ?ic3 ?kc3 ?lc3 ?cc3 ?av0 ?iv0 ?kv0 ?lv0 ?cv0 ?rdCV ?gaCV ?paCV ?prCV ?pfCV ?kv1 ?lv1 ?cv1 ?av2 ?iv2 ?kv2 ?lv2 ?cv2 ?av3 ?iv3 ?kv3 ?lv3 ?cv3 ?av4 ?iv4 ?kv4 ?lv4 ?cv4 ?av5 ?iv5 ?kv5 ?lv5 ?cv5 ?ap0 ?ip0 ?kp0 ?lp0 ?cp0 ?ap1 ?ip1 ?kp1 ?lp1 ?cp1 ?ap2 ?ip2 ?kp2 ?lp2 ?cp2 ?ap3 ?ip3 ?kp3 ?lp3 ?cp3 ?ap4 ?ip4 ?kp4 ?lp4 ?cp4 ?ap5 ?ip5 ?kp5 ?lp5 ?cp5 ?ap6 ?ip6 ?kp6 ?lp6 ?cp6 ?ap7 ?ip7 ?kp7 ?lp7 ?cp7 ?ap8 ?ip8 ?kp8 ?lp8 ?cp8 ?ap9 ?ip9 ?kp9 ?lp9 ?cp9 ?aC ?pg ?hd ?po ?sa ?mk ?kc ?n1 ?n2 ?n3 ?ha ?hm ?ne ?aCV ?pgV ?hdV ?poV ?saV ?mkV ?kcV ?n1V ?n2V ?n3V ?n4V ?n5V ?n6V ?n7V ?n8V ?haV ?hmV ?neV ?eYV ?eZV ?aCP ?pgP ?hdP ?poP ?saP ?mkP ?kcP ?n1P ?n2P ?n3P ?n4P ?n5P ?hn ?htk ?nq ?sq ?b_len ?b_int ?b_enumerate ?b_isinstance ?b_tuple ?b_sum ?b_str ?b_repr ?b_range ?b_min ?b_max ?b_abs ?g_MOST_DIGITS ?g_LOWEST_END ?g_HIGHEST_END ?g_MOST_NODES ?g_MOST_RANGES ?g_MOST_LETTERS ?g_MOST_TABLES ?g_MOST_PLAIN ?g_MOST_REFERENCES ?g_MOST_REFERENCES_IN_ALL
    (case aC => k_is)
    (case aCV => k_is)
    (case aCP => k_is)
    (case am0 => k_is)
    (case lm0 => k_is)
    (case cm0 => k_is)
    (case km0 => k_is)
    (case am1 => k_is)
    (case lm1 => k_is)
    (case cm1 => k_is)
    (case km1 => k_is)
    (case am2 => k_is)
    (case lm2 => k_is)
    (case cm2 => k_is)
    (case km2 => k_is)
    (case am3 => k_is)
    (case lm3 => k_is)
    (case cm3 => k_is)
    (case km3 => k_is)
    (case am4 => k_is)
    (case lm4 => k_is)
    (case cm4 => k_is)
    (case km4 => k_is)
    (case am5 => k_is)
    (case lm5 => k_is)
    (case cm5 => k_is)
    (case km5 => k_is)
    (case am6 => k_is)
    (case lm6 => k_is)
    (case cm6 => k_is)
    (case km6 => k_is)
    (case am7 => k_is)
    (case lm7 => k_is)
    (case cm7 => k_is)
    (case km7 => k_is)
    (case am8 => k_is)
    (case lm8 => k_is)
    (case cm8 => k_is)
    (case km8 => k_is)
    (case am9 => k_is)
    (case lm9 => k_is)
    (case cm9 => k_is)
    (case km9 => k_is)
    (case am10 => k_is)
    (case lm10 => k_is)
    (case cm10 => k_is)
    (case km10 => k_is)
    (case am11 => k_is)
    (case lm11 => k_is)
    (case cm11 => k_is)
    (case km11 => k_is)
    (case am12 => k_is)
    (case lm12 => k_is)
    (case cm12 => k_is)
    (case km12 => k_is)
    (case am13 => k_is)
    (case lm13 => k_is)
    (case cm13 => k_is)
    (case km13 => k_is)
    (case am14 => k_is)
    (case lm14 => k_is)
    (case cm14 => k_is)
    (case km14 => k_is)
    (case am15 => k_is)
    (case lm15 => k_is)
    (case cm15 => k_is)
    (case km15 => k_is)
    (case am16 => k_is)
    (case lm16 => k_is)
    (case cm16 => k_is)
    (case km16 => k_is)
    (case am17 => k_is)
    (case lm17 => k_is)
    (case cm17 => k_is)
    (case km17 => k_is)
    (case am18 => k_is)
    (case lm18 => k_is)
    (case cm18 => k_is)
    (case km18 => k_is)
    (case am19 => k_is)
    (case lm19 => k_is)
    (case cm19 => k_is)
    (case km19 => k_is)
    (case am20 => k_is)
    (case lm20 => k_is)
    (case cm20 => k_is)
    (case km20 => k_is)
    (case am21 => k_is)
    (case lm21 => k_is)
    (case cm21 => k_is)
    (case km21 => k_is)
    (case am22 => k_is)
    (case lm22 => k_is)
    (case cm22 => k_is)
    (case km22 => k_is)
    (case am23 => k_is)
    (case lm23 => k_is)
    (case cm23 => k_is)
    (case km23 => k_is)
    (case am24 => k_is)
    (case lm24 => k_is)
    (case cm24 => k_is)
    (case km24 => k_is)
    (case am25 => k_is)
    (case lm25 => k_is)
    (case cm25 => k_is)
    (case km25 => k_is)
    (case ac0 => k_is)
    (case ic0 => k_is)
    (case kc0 => k_is)
    (case lc0 => k_is)
    (case cc0 => k_is)
    (case rd => k_is)
    (case ga => k_is)
    (case pa => k_is)
    (case pr => k_is)
    (case pf => k_is)
    (case kc1 => k_is)
    (case lc1 => k_is)
    (case cc1 => k_is)
    (case ac2 => k_is)
    (case ic2 => k_is)
    (case kc2 => k_is)
    (case lc2 => k_is)
    (case cc2 => k_is)
    (case ac3 => k_is)
    (case ic3 => k_is)
    (case kc3 => k_is)
    (case lc3 => k_is)
    (case cc3 => k_is)
    (case av0 => k_is)
    (case iv0 => k_is)
    (case kv0 => k_is)
    (case lv0 => k_is)
    (case cv0 => k_is)
    (case rdCV => k_is)
    (case gaCV => k_is)
    (case paCV => k_is)
    (case prCV => k_is)
    (case pfCV => k_is)
    (case kv1 => k_is)
    (case lv1 => k_is)
    (case cv1 => k_is)
    (case av2 => k_is)
    (case iv2 => k_is)
    (case kv2 => k_is)
    (case lv2 => k_is)
    (case cv2 => k_is)
    (case av3 => k_is)
    (case iv3 => k_is)
    (case kv3 => k_is)
    (case lv3 => k_is)
    (case cv3 => k_is)
    (case av4 => k_is)
    (case iv4 => k_is)
    (case kv4 => k_is)
    (case lv4 => k_is)
    (case cv4 => k_is)
    (case av5 => k_is)
    (case iv5 => k_is)
    (case kv5 => k_is)
    (case lv5 => k_is)
    (case cv5 => k_is)
    (case ap0 => k_is)
    (case ip0 => k_is)
    (case kp0 => k_is)
    (case lp0 => k_is)
    (case cp0 => k_is)
    (case ap1 => k_is)
    (case ip1 => k_is)
    (case kp1 => k_is)
    (case lp1 => k_is)
    (case cp1 => k_is)
    (case ap2 => k_is)
    (case ip2 => k_is)
    (case kp2 => k_is)
    (case lp2 => k_is)
    (case cp2 => k_is)
    (case ap3 => k_is)
    (case ip3 => k_is)
    (case kp3 => k_is)
    (case lp3 => k_is)
    (case cp3 => k_is)
    (case ap4 => k_is)
    (case ip4 => k_is)
    (case kp4 => k_is)
    (case lp4 => k_is)
    (case cp4 => k_is)
    (case ap5 => k_is)
    (case ip5 => k_is)
    (case kp5 => k_is)
    (case lp5 => k_is)
    (case cp5 => k_is)
    (case ap6 => k_is)
    (case ip6 => k_is)
    (case kp6 => k_is)
    (case lp6 => k_is)
    (case cp6 => k_is)
    (case ap7 => k_is)
    (case ip7 => k_is)
    (case kp7 => k_is)
    (case lp7 => k_is)
    (case cp7 => k_is)
    (case ap8 => k_is)
    (case ip8 => k_is)
    (case kp8 => k_is)
    (case lp8 => k_is)
    (case cp8 => k_is)
    (case ap9 => k_is)
    (case ip9 => k_is)
    (case kp9 => k_is)
    (case lp9 => k_is)
    (case cp9 => k_is)
    (case pg => k_is)
    (case hd => k_is)
    (case po => k_is)
    (case sa => k_is)
    (case mk => k_is)
    (case kc => k_is)
    (case n1 => k_is)
    (case n2 => k_is)
    (case n3 => k_is)
    (case ha => k_is)
    (case hm => k_is)
    (case ne => k_is)
    (case pgV => k_is)
    (case hdV => k_is)
    (case poV => k_is)
    (case saV => k_is)
    (case mkV => k_is)
    (case kcV => k_is)
    (case n1V => k_is)
    (case n2V => k_is)
    (case n3V => k_is)
    (case n4V => k_is)
    (case n5V => k_is)
    (case n6V => k_is)
    (case n7V => k_is)
    (case n8V => k_is)
    (case haV => k_is)
    (case hmV => k_is)
    (case neV => k_is)
    (case eYV => k_is)
    (case eZV => k_is)
    (case pgP => k_is)
    (case hdP => k_is)
    (case poP => k_is)
    (case saP => k_is)
    (case mkP => k_is)
    (case kcP => k_is)
    (case n1P => k_is)
    (case n2P => k_is)
    (case n3P => k_is)
    (case n4P => k_is)
    (case n5P => k_is)
    (case hn => k_is)
    (case htk => k_is)
    (case nq => first | rfl | decide)
    (case sq => first | rfl | k_is)
    (case b_len => k_is)
    (case b_int => k_is)
    (case b_enumerate => k_is)
    (case b_isinstance => k_is)
    (case b_tuple => k_is)
    (case b_sum => k_is)
    (case b_str => k_is)
    (case b_repr => k_is)
    (case b_range => k_is)
    (case b_min => k_is)
    (case b_max => k_is)
    (case b_abs => k_is)
    (case g_MOST_DIGITS => k_is)
    (case g_LOWEST_END => k_is)
    (case g_HIGHEST_END => k_is)
    (case g_MOST_NODES => k_is)
    (case g_MOST_RANGES => k_is)
    (case g_MOST_LETTERS => k_is)
    (case g_MOST_TABLES => k_is)
    (case g_MOST_PLAIN => k_is)
    (case g_MOST_REFERENCES => k_is)
    (case g_MOST_REFERENCES_IN_ALL => k_is)
  · refine ⟨H, _, [], [], _, [], ⟨ns, rfl, hl, rfl, rfl, rfl, rfl⟩, DV.Ex.refl H, ⟨DV.Rp.fro hS (T3.rpa_ints ns), True.intro⟩, True.intro, fun v B' H' s e m v' => ?_⟩
    have z : DV.Rp K B' v (.bl true) := v'
    cases z
    rfl
