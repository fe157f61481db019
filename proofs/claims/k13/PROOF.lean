import PyProof.Rows.All
import Wide.All
import OpenK.AllK
import Wide.FinOn
import HandS.Base
import HandS.Call
import HandS.List
import HandS.Comp
import HandS.Dict
import HandS.Iter
import HandS.Text
import HandS.TupAny
import HandS.StrMore
import HandS.FStr
import HandS.DictComp
import HandS.Words
import HandS.Zip
import HandS.Strs
import HandS.IsInst
import HandS.ClsMeth
import HandS.OwnEq
import HandS.Ends
import PySem.Challenge.RW_onlyviews_k13_known_bases
import KE.KCallOwn
import PyProof.InstNe
import HandS.CallLocal
import KE.GoesZip
import KE.GoesMore
import HandS.More
import KE.KEqNest
import KE.GoesEnum
import PyProof.StrBlock2
import KE.OsGo
import Open.SpecLaws
import HandS.ForSpec
import PyProof.ReprRoads
import PyProof.StrLawsRepr
import PyProof.CallFns
import HandS.Style
import HandS.Defaults
import HandS.WordsDict
import HandS.GenOver
import HandS.DictTup
import KE.KDictPairs
import KE.KDictCopyH
import KE.KDictDisplayH
set_option Elab.async false
set_option linter.all false
set_option maxRecDepth 100000
set_option maxHeartbeats 4000000
/-! DV1: plain data over the abstract heap. D: what a value reads as; B: the part of the heap that holds data; P, cs: the lists that may change, and what they hold; Ev: an expression's value by the slots' data alone. -/
namespace DV
open PySem L2

/-- plain data -/
inductive D where
  | non | bl (b : Bool) | int (i : Int) | str (x : Str)
  | lst (ds : List D) | tup (ds : List D)
  | dic (ks : List (Key × D))
  | obj (C : Addr) (fs : List (Str × D))
  | fro (ds : List D)
  | nt (ds : List D)
variable {K : PySem.W.Frag}

def Ex (H H' : Hp) : Prop := ∀ a o, H a = some o → H' a = some o
theorem RdEx {H H' : Hp} {a : Addr} {u : HO} (e : Ex H H') (h : Rd H a u) : Rd H' a u := h.elim (fun h => .inl (e _ _ h)) fun ⟨o, h⟩ => .inr ⟨o, e _ _ h⟩
theorem Ex.refl (H : Hp) : Ex H H := fun _ _ h => h
theorem Ex.trans {H H1 H2 : Hp} (a : Ex H H1) (b : Ex H1 H2) : Ex H H2 := fun x o h => b x o (a x o h)
theorem Ex.new {H : Hp} {p : Addr} {o : HO} (h : H p = none) : Ex H (upd H p o) := fun a u e => by
  rw [upd_ne (ne_of_none e h)]
  exact e
theorem Ex.free {H H' : Hp} (e : Ex H H') {p : Addr} (h : H' p = none) : H p = none := by
  cases h1 : H p with
  | none => rfl
  | some o => rw [e p o h1] at h; cases h
theorem Ex.updB {H H' : Hp} {p : Addr} {o : HO} (e : Ex H H') : Ex (upd H p o) (upd H' p o) := fun a u h => by
  by_cases hp : a = p
  · subst hp; rw [upd_same] at h ⊢; exact h
  · rw [upd_ne hp] at h ⊢; exact e a u h

mutual
inductive Rp (K : PySem.W.Frag) (B : Hp) : V → D → Prop
  | non : Rp K B .non .non
  | bl (b : Bool) : Rp K B (.bl b) (.bl b)
  | int (i : Int) : Rp K B (.int i) (.int i)
  | str (x : Str) : Rp K B (.str x) (.str x)
  | lst {a : Addr} {xs : List V} {ds : List D} : B a = some (.lst xs) → RpA K B xs ds → Rp K B (.ref a) (.lst ds)
  | tup {a : Addr} {xs : List V} {ds : List D} : Rd B a (.tup xs) → RpA K B xs ds → Rp K B (.ref a) (.tup ds)
  | dic {a : Addr} {kvs : List (Key × V)} {ks : List (Key × D)} : B a = some (.dK kvs) → RpK K B kvs ks → Rp K B (.ref a) (.dic ks)
  | nt {a : Addr} {o : Obj} {xs : List V} {ds : List D} : B a = some (.frz o (.tup xs)) → o.dict = none → RpA K B xs ds → Rp K B (.ref a) (.nt ds)
  | fro {a : Addr} {xs : List V} {ds : List D} : SqL K B a xs → RpA K B xs ds → Rp K B (.ref a) (.fro ds)
  | obj {a C dx : Addr} {fvs : List (Str × V)} {fs : List (Str × D)} : B a = some (.ins C dx fvs) → RpF K B fvs fs → Rp K B (.ref a) (.obj C fs)
inductive RpA (K : PySem.W.Frag) (B : Hp) : List V → List D → Prop
  | nil : RpA K B [] []
  | cons {v : V} {d : D} {vs : List V} {ds : List D} : Rp K B v d → RpA K B vs ds → RpA K B (v :: vs) (d :: ds)
inductive RpK (K : PySem.W.Frag) (B : Hp) : List (Key × V) → List (Key × D) → Prop
  | nil : RpK K B [] []
  | cons {k : Key} {v : V} {d : D} {vs : List (Key × V)} {ds : List (Key × D)} : Rp K B v d → RpK K B vs ds → RpK K B ((k, v) :: vs) ((k, d) :: ds)
inductive RpF (K : PySem.W.Frag) (B : Hp) : List (Str × V) → List (Str × D) → Prop
  | nil : RpF K B [] []
  | cons {k : Str} {v : V} {d : D} {vs : List (Str × V)} {ds : List (Str × D)} : Rp K B v d → RpF K B vs ds → RpF K B ((k, v) :: vs) ((k, d) :: ds)
end

mutual
theorem Rp.mono {B B' : Hp} (e : Ex B B') : ∀ {v : V} {d : D}, Rp K B v d → Rp K B' v d
  | _, _, .non => .non
  | _, _, .bl b => .bl b
  | _, _, .int i => .int i
  | _, _, .str x => .str x
  | _, _, .lst h r => .lst (e _ _ h) (RpA.mono e r)
  | _, _, .tup h r => .tup (RdEx e h) (RpA.mono e r)
  | _, _, .nt h n r => .nt (e _ _ h) n (RpA.mono e r)
  | _, _, .dic h r => .dic (e _ _ h) (RpK.mono e r)
  | _, _, .obj h r => .obj (e _ _ h) (RpF.mono e r)
  | _, _, .fro h r => .fro (h.elim (fun h => .inl (h.elim (fun h => .inl (e _ _ h)) fun ⟨o, h⟩ => .inr ⟨o, e _ _ h⟩)) .inr) (RpA.mono e r)
theorem RpA.mono {B B' : Hp} (e : Ex B B') : ∀ {vs : List V} {ds : List D}, RpA K B vs ds → RpA K B' vs ds
  | _, _, .nil => .nil
  | _, _, .cons h r => .cons (Rp.mono e h) (RpA.mono e r)
theorem RpK.mono {B B' : Hp} (e : Ex B B') : ∀ {vs : List (Key × V)} {ds : List (Key × D)}, RpK K B vs ds → RpK K B' vs ds
  | _, _, .nil => .nil
  | _, _, .cons h r => .cons (Rp.mono e h) (RpK.mono e r)
theorem RpF.mono {B B' : Hp} (e : Ex B B') : ∀ {vs : List (Str × V)} {ds : List (Str × D)}, RpF K B vs ds → RpF K B' vs ds
  | _, _, .nil => .nil
  | _, _, .cons h r => .cons (Rp.mono e h) (RpF.mono e r)
end

theorem RpA.length {B : Hp} : ∀ {vs : List V} {ds : List D}, RpA K B vs ds → vs.length = ds.length
  | _, _, .nil => rfl
  | _, _, .cons _ r => by rw [List.length_cons, List.length_cons, RpA.length r]
theorem RpA.get {B : Hp} : ∀ {vs : List V} {ds : List D} {i : Nat} {d : D}, RpA K B vs ds → ds[i]? = some d → ∃ v, vs[i]? = some v ∧ Rp K B v d
  | _, _, _, _, .nil, e => by simp at e
  | _, _, 0, _, .cons h _, e => by simp at e; subst e; exact ⟨_, rfl, h⟩
  | _, _, i + 1, d, .cons _ r, e => by
    obtain ⟨v, h1, h2⟩ := RpA.get (i := i) (d := d) r (by simpa using e)
    exact ⟨v, by simpa using h1, h2⟩
theorem RpA.getV {B : Hp} : ∀ {vs : List V} {ds : List D} {i : Nat} {v : V}, RpA K B vs ds → vs[i]? = some v → ∃ d, ds[i]? = some d ∧ Rp K B v d
  | _, _, _, _, .nil, e => by simp at e
  | _, _, 0, _, .cons h _, e => by simp at e; subst e; exact ⟨_, rfl, h⟩
  | _, _, i + 1, d, .cons _ r, e => by
    obtain ⟨v, h1, h2⟩ := RpA.getV (i := i) (v := d) r (by simpa using e)
    exact ⟨v, by simpa using h1, h2⟩
theorem RpA.append {B : Hp} : ∀ {vs ws : List V} {ds es : List D}, RpA K B vs ds → RpA K B ws es → RpA K B (vs ++ ws) (ds ++ es)
  | _, _, _, _, .nil, s => s
  | _, _, _, _, .cons h r, s => .cons h (RpA.append r s)
theorem RpA.take {B : Hp} : ∀ {vs : List V} {ds : List D} (n : Nat), RpA K B vs ds → RpA K B (vs.take n) (ds.take n)
  | _, _, 0, _ => .nil
  | _, _, _ + 1, .nil => .nil
  | _, _, n + 1, .cons h r => .cons h (RpA.take n r)
theorem RpA.drop {B : Hp} : ∀ {vs : List V} {ds : List D} (n : Nat), RpA K B vs ds → RpA K B (vs.drop n) (ds.drop n)
  | _, _, 0, r => r
  | _, _, _ + 1, .nil => .nil
  | _, _, n + 1, .cons _ r => RpA.drop n r
theorem RpA.set {B : Hp} {v : V} {d : D} (h : Rp K B v d) : ∀ {vs : List V} {ds : List D} (i : Nat), RpA K B vs ds → RpA K B (vs.set i v) (ds.set i d)
  | _, _, _, .nil => .nil
  | _, _, 0, .cons _ r => .cons h r
  | _, _, i + 1, .cons q r => .cons q (RpA.set h i r)
theorem RpF.lookup {B : Hp} {f : Str} : ∀ {vs : List (Str × V)} {ds : List (Str × D)} {d : D}, RpF K B vs ds → ds.lookup f = some d → ∃ v, vs.lookup f = some v ∧ Rp K B v d
  | _, _, _, .nil, e => by simp at e
  | _, _, d, .cons (k := k) h r, e => by
    by_cases hk : f = k
    · subst hk
      simp [List.lookup] at e
      subst e
      exact ⟨_, by simp [List.lookup], h⟩
    · have q : (f == k) = false := by simpa using hk
      simp only [List.lookup, q] at e ⊢
      exact RpF.lookup r e
theorem RpK.length {B : Hp} : ∀ {vs : List (Key × V)} {ds : List (Key × D)}, RpK K B vs ds → vs.length = ds.length
  | _, _, .nil => rfl
  | _, _, .cons _ r => by rw [List.length_cons, List.length_cons, RpK.length r]

/-- flat data: no object -/
def D.flat : D → Bool
  | .non => true | .bl _ => true | .int _ => true | .str _ => true | _ => false
theorem Rp.flatAny {B B' : Hp} {v : V} {d : D} (h : Rp K B v d) (f : d.flat = true) : Rp K B' v d := by
  cases h with
  | non => exact .non
  | bl b => exact .bl b
  | int i => exact .int i
  | str x => exact .str x
  | lst _ _ => cases f
  | tup _ _ => cases f
  | dic _ _ => cases f
  | obj _ _ => cases f
  | fro _ _ => cases f
  | nt _ _ _ => cases f

/-- what is known of a slot -/
inductive Sl where
  | any | dat (d : D) | val (v : V)
def RS (K : PySem.W.Frag) (B : Hp) (v : V) : Sl → Prop
  | .any => True
  | .dat d => Rp K B v d
  | .val w => v = w
theorem RS.mono {B B' : Hp} (e : Ex B B') {v : V} : ∀ {r : Sl}, RS K B v r → RS K B' v r
  | .any, _ => True.intro
  | .dat _, h => Rp.mono e h
  | .val _, h => h
def RSs (K : PySem.W.Frag) (B : Hp) : List V → List Sl → Prop
  | [], [] => True
  | v :: vs, r :: rs => RS K B v r ∧ RSs K B vs rs
  | _, _ => False
theorem RSs.mono {B B' : Hp} (e : Ex B B') : ∀ {vs : List V} {rs : List Sl}, RSs K B vs rs → RSs K B' vs rs
  | [], [], _ => True.intro
  | [], _ :: _, h => h
  | _ :: _, [], h => h
  | _ :: _, _ :: _, h => ⟨RS.mono e h.1, RSs.mono e h.2⟩
theorem RSs.length {B : Hp} : ∀ {vs : List V} {rs : List Sl}, RSs K B vs rs → vs.length = rs.length
  | [], [], _ => rfl
  | [], _ :: _, h => h.elim
  | _ :: _, [], h => h.elim
  | _ :: _, _ :: _, h => by rw [List.length_cons, List.length_cons, RSs.length h.2]

structure Slots (K : PySem.W.Frag) (B : Hp) (σ : L2.St) (ss : List Sl) : Prop where
  len : σ.length = ss.length
  get : ∀ (i : Nat) (r : Sl), ss[i]? = some r → r ≠ .any → ∃ v, σ[i]? = some (some v) ∧ RS K B v r
theorem Slots.mono {B B' : Hp} (e : Ex B B') {σ : L2.St} {ss : List Sl} (h : Slots K B σ ss) : Slots K B' σ ss :=
  ⟨h.len, fun i r a b => let ⟨v, h1, h2⟩ := h.get i r a b; ⟨v, h1, h2.mono e⟩⟩
theorem Slots.set {B : Hp} {σ : L2.St} {ss : List Sl} (h : Slots K B σ ss) {i : Nat} {v : V} {r : Sl} (hr : RS K B v r) : Slots K B (σ.set i (some v)) (ss.set i r) := by
  refine ⟨by rw [List.length_set, List.length_set, h.len], fun j q hq hn => ?_⟩
  rw [List.getElem?_set] at hq
  by_cases hj : i = j
  · subst hj
    rw [if_pos rfl] at hq
    by_cases hl : i < ss.length
    · rw [if_pos hl] at hq
      have e := Option.some.inj hq
      subst e
      refine ⟨v, ?_, hr⟩
      rw [List.getElem?_set, if_pos rfl, if_pos (by rw [h.len]; exact hl)]
    · rw [if_neg hl] at hq; cases hq
  · rw [if_neg hj] at hq
    obtain ⟨w, h1, h2⟩ := h.get j q hq hn
    exact ⟨w, by rw [List.getElem?_set, if_neg hj]; exact h1, h2⟩
/-- a slot is emptied -/
theorem Slots.clr {B : Hp} {σ : L2.St} {ss : List Sl} (h : Slots K B σ ss) (i : Nat) (o : Option V) : Slots K B (σ.set i o) (ss.set i .any) := by
  refine ⟨by rw [List.length_set, List.length_set, h.len], fun j q hq hn => ?_⟩
  rw [List.getElem?_set] at hq
  by_cases hj : i = j
  · subst hj
    rw [if_pos rfl] at hq
    by_cases hl : i < ss.length
    · rw [if_pos hl] at hq
      exact absurd (Option.some.inj hq).symm hn
    · rw [if_neg hl] at hq; cases hq
  · rw [if_neg hj] at hq
    obtain ⟨w, h1, h2⟩ := h.get j q hq hn
    exact ⟨w, by rw [List.getElem?_set, if_neg hj]; exact h1, h2⟩
/-- less is known -/
inductive Le : Sl → Sl → Prop
  | rfl (r : Sl) : Le r r
  | any (r : Sl) : Le r .any
def LeS : List Sl → List Sl → Prop
  | [], [] => True
  | r :: rs, q :: qs => Le r q ∧ LeS rs qs
  | _, _ => False
theorem LeS.get : ∀ {rs qs : List Sl} {i : Nat} {q : Sl}, LeS rs qs → qs[i]? = some q → ∃ r, rs[i]? = some r ∧ Le r q
  | [], [], i, q, _, h => by simp at h
  | [], _ :: _, _, _, h, _ => h.elim
  | _ :: _, [], _, _, h, _ => h.elim
  | r :: rs, q' :: qs, 0, q, h, e => by simp at e; subst e; exact ⟨r, rfl, h.1⟩
  | r :: rs, q' :: qs, i + 1, q, h, e => by
    obtain ⟨w, h1, h2⟩ := LeS.get (i := i) h.2 (by simpa using e)
    exact ⟨w, by simpa using h1, h2⟩
theorem LeS.length : ∀ {rs qs : List Sl}, LeS rs qs → rs.length = qs.length
  | [], [], _ => rfl
  | [], _ :: _, h => h.elim
  | _ :: _, [], h => h.elim
  | _ :: _, _ :: _, h => by rw [List.length_cons, List.length_cons, LeS.length h.2]
theorem Slots.le {B : Hp} {σ : L2.St} {ss tt : List Sl} (h : Slots K B σ ss) (l : LeS ss tt) : Slots K B σ tt := by
  refine ⟨h.len.trans l.length, fun i r a hn => ?_⟩
  obtain ⟨q, h1, h2⟩ := l.get a
  cases h2 with
  | rfl => exact h.get i r h1 hn
  | any => exact absurd rfl hn
theorem LeS.refl : ∀ (ss : List Sl), LeS ss ss
  | [] => True.intro
  | r :: rs => ⟨.rfl r, LeS.refl rs⟩

/-- the lists that may change -/
def Mu (K : PySem.W.Frag) (B H : Hp) : List Addr → List (List D) → Prop
  | [], [] => True
  | p :: P, ds :: cs => (∃ vs, H p = some (.lst vs) ∧ RpA K B vs ds) ∧ B p = none ∧ p ∉ P ∧ Mu K B H P cs
  | _, _ => False
theorem Mu.get {B H : Hp} : ∀ {P : List Addr} {cs : List (List D)} {j : Nat} {p : Addr} {ds : List D}, Mu K B H P cs → P[j]? = some p → cs[j]? = some ds → (∃ vs, H p = some (.lst vs) ∧ RpA K B vs ds) ∧ B p = none
  | [], [], _, _, _, _, h, _ => by simp at h
  | [], _ :: _, _, _, _, h, _, _ => h.elim
  | _ :: _, [], _, _, _, h, _, _ => h.elim
  | p :: P, ds :: cs, 0, q, es, h, h1, h2 => by
    simp at h1 h2; subst h1; subst h2
    exact ⟨h.1, h.2.1⟩
  | p :: P, ds :: cs, j + 1, q, es, h, h1, h2 => Mu.get (j := j) h.2.2.2 (by simpa using h1) (by simpa using h2)
theorem Mu.mem {B H : Hp} : ∀ {P : List Addr} {cs : List (List D)} {p : Addr}, Mu K B H P cs → p ∈ P → ∃ o, H p = some o ∧ B p = none
  | [], _, _, _, h => by simp at h
  | _ :: _, [], _, h, _ => h.elim
  | p :: P, ds :: cs, q, h, hm => by
    rcases List.mem_cons.mp hm with e | e
    · subst e
      obtain ⟨⟨vs, a, _⟩, b, _⟩ := h
      exact ⟨_, a, b⟩
    · exact Mu.mem h.2.2.2 e
/-- carried on: the base grows, the lists stand -/
theorem Mu.keep {B B' H H' : Hp} (e : Ex B B') : ∀ {P : List Addr} {cs : List (List D)}, Mu K B H P cs → (∀ p ∈ P, H' p = H p) → (∀ p ∈ P, B' p = none) → Mu K B' H' P cs
  | [], [], _, _, _ => True.intro
  | [], _ :: _, h, _, _ => h.elim
  | _ :: _, [], h, _, _ => h.elim
  | p :: P, ds :: cs, h, k, n => by
    obtain ⟨⟨vs, a, b⟩, c, d, m⟩ := h
    exact ⟨⟨vs, by rw [k p List.mem_cons_self]; exact a, b.mono e⟩, n p List.mem_cons_self, d, m.keep e (fun q hq => k q (List.mem_cons_of_mem _ hq)) fun q hq => n q (List.mem_cons_of_mem _ hq)⟩
/-- one of the lists is written -/
theorem Mu.put {B B' H H' : Hp} (e : Ex B B') {q : Addr} {ws : List V} {es : List D} (hw : H' q = some (.lst ws)) (hr : RpA K B' ws es) :
    ∀ {P : List Addr} {cs : List (List D)} {j : Nat}, Mu K B H P cs → P[j]? = some q → (∀ p ∈ P, p ≠ q → H' p = H p) → (∀ p ∈ P, B' p = none) → Mu K B' H' P (cs.set j es)
  | [], [], _, _, h, _, _ => by simp at h
  | [], _ :: _, _, h, _, _, _ => h.elim
  | _ :: _, [], _, h, _, _, _ => h.elim
  | p :: P, ds :: cs, 0, h, h1, k, n => by
    simp at h1; subst h1
    obtain ⟨_, c, d, m⟩ := h
    exact ⟨⟨ws, hw, hr⟩, n p List.mem_cons_self, d, m.keep e (fun x hx => k x (List.mem_cons_of_mem _ hx) fun z => d (z ▸ hx)) fun x hx => n x (List.mem_cons_of_mem _ hx)⟩
  | p :: P, ds :: cs, j + 1, h, h1, k, n => by
    obtain ⟨⟨vs, a, b⟩, c, d, m⟩ := h
    have hq : q ∈ P := List.mem_of_getElem? (i := j) (by simpa using h1)
    have hne : p ≠ q := fun z => d (z ▸ hq)
    exact ⟨⟨vs, by rw [k p List.mem_cons_self hne]; exact a, b.mono e⟩, n p List.mem_cons_self, d, Mu.put e hw hr (j := j) m (by simpa using h1) (fun x hx => k x (List.mem_cons_of_mem _ hx)) fun x hx => n x (List.mem_cons_of_mem _ hx)⟩

/-- a step: the base grows by new cells; what stood stands, but for the lists of P -/
structure Stp (P : List Addr) (B H B' H' : Hp) : Prop where
  ex : Ex B B'
  fr : ∀ b o, b ∉ P → H b = some o → H' b = some o
  nb : ∀ b o, H b = some o → B' b = B b
  dm : ∀ b o, H b = some o → ∃ o', H' b = some o'
theorem Stp.refl (P : List Addr) (B H : Hp) : Stp P B H B H := ⟨Ex.refl _, fun _ _ _ h => h, fun _ _ _ => rfl, fun _ o h => ⟨o, h⟩⟩
theorem Stp.trans {P : List Addr} {B H B1 H1 B2 H2 : Hp} (a : Stp P B H B1 H1) (b : Stp P B1 H1 B2 H2) : Stp P B H B2 H2 where
  ex := a.ex.trans b.ex
  fr := fun c o n h => b.fr c o n (a.fr c o n h)
  nb := fun c o h => by
    obtain ⟨o', h'⟩ := a.dm c o h
    rw [b.nb c o' h', a.nb c o h]
  dm := fun c o h => let ⟨o', h'⟩ := a.dm c o h; b.dm c o' h'
theorem Stp.mono {P P' : List Addr} {B H B' H' : Hp} (s : Stp P B H B' H') (h : ∀ p ∈ P, p ∈ P') : Stp P' B H B' H' := ⟨s.ex, fun b o n e => s.fr b o (fun z => n (h b z)) e, s.nb, s.dm⟩
theorem Stp.toEx {B H B' H' : Hp} (s : Stp [] B H B' H') : Ex H H' := fun a o e => s.fr a o (by simp) e
theorem Stp.ofNil {P : List Addr} {B H B' H' : Hp} (s : Stp [] B H B' H') : Stp P B H B' H' := s.mono fun _ h => absurd h (by simp)

structure Okk (K : PySem.W.Frag) (P : List Addr) (ss : List Sl) (cs : List (List D)) (B H : Hp) (σ : L2.St) : Prop where
  ex : Ex B H
  sl : Slots K B σ ss
  mu : Mu K B H P cs
theorem Okk.step0 {P : List Addr} {ss : List Sl} {cs : List (List D)} {B H B' H' : Hp} {σ : L2.St} (o : Okk K P ss cs B H σ) (s : Stp [] B H B' H') (e : Ex B' H') : Okk K P ss cs B' H' σ :=
  ⟨e, o.sl.mono s.ex, o.mu.keep s.ex (fun p hp => by
    obtain ⟨u, h1, _⟩ := o.mu.mem hp
    rw [h1, s.toEx p u h1]) fun p hp => by
    obtain ⟨u, h1, h2⟩ := o.mu.mem hp
    rw [s.nb p u h1, h2]⟩

/-- an expression: from the slots' data and the lists' to a value's data, and the lists' -/
def Ev (K : PySem.W.Frag) (P : List Addr) (ss : List Sl) (cs : List (List D)) (te : TE) (r : Sl) (cs' : List (List D)) : Prop :=
  ∀ B H σ, Okk K P ss cs B H σ → ∀ Q : VK, (∀ v B' H', Stp P B H B' H' → Okk K P ss cs' B' H' σ → RS K B' v r → Q v H') → te σ H Q
def EvT (K : PySem.W.Frag) (P : List Addr) (ss : List Sl) (cs : List (List D)) (tt : TT) (b : Bool) (cs' : List (List D)) : Prop :=
  ∀ B H σ, Okk K P ss cs B H σ → ∀ Q : Bool → Hp → Prop, (∀ B' H', Stp P B H B' H' → Okk K P ss cs' B' H' σ → Q b H') → tt σ H Q
def EvA (K : PySem.W.Frag) (P : List Addr) (ss : List Sl) (cs : List (List D)) (ta : TA) (rs : List Sl) (cs' : List (List D)) : Prop :=
  ∀ B H σ, Okk K P ss cs B H σ → ∀ Q : List V → Hp → Prop, (∀ vs B' H', Stp P B H B' H' → Okk K P ss cs' B' H' σ → RSs K B' vs rs → Q vs H') → ta σ H Q
/-- operations on values: they make new cells alone -/
def OpD (K : PySem.W.Frag) (f : R2) (r1 r2 r : Sl) : Prop := ∀ B H x y, Ex B H → RS K B x r1 → RS K B y r2 → ∀ Q : VK, (∀ v B' H', Stp [] B H B' H' → Ex B' H' → RS K B' v r → Q v H') → f x y H Q
def UnD (K : PySem.W.Frag) (f : V → Hp → VK → Prop) (r1 r : Sl) : Prop := ∀ B H x, Ex B H → RS K B x r1 → ∀ Q : VK, (∀ v B' H', Stp [] B H B' H' → Ex B' H' → RS K B' v r → Q v H') → f x H Q
def CbD (K : PySem.W.Frag) (f : List V → Hp → VK → Prop) (rs : List Sl) (r : Sl) : Prop := ∀ B H vs, Ex B H → RSs K B vs rs → ∀ Q : VK, (∀ v B' H', Stp [] B H B' H' → Ex B' H' → RS K B' v r → Q v H') → f vs H Q

section
variable {P : List Addr} {ss : List Sl} {cs cs1 cs2 cs3 : List (List D)} {ta tb tc te : TE} {t u : TT} {r r1 r2 r3 : Sl} {f : R2}
theorem ev_var {i : Nat} (h : ss[i]? = some r) (hn : r ≠ .any := by intro z; cases z) : Ev K P ss cs (tVar i) r cs := fun B H σ o Q q =>
  let ⟨v, h1, h2⟩ := o.sl.get i r h hn
  ⟨v, h1, q v B H (Stp.refl _ _ _) o h2⟩
theorem ev_c {v : V} {d : D} (h : ∀ B, Rp K B v d) : Ev K P ss cs (tC v) (.dat d) cs := fun B H σ o Q q => q v B H (Stp.refl _ _ _) o (h B)
theorem ev_int {i : Int} : Ev K P ss cs (tC (.int i)) (.dat (.int i)) cs := ev_c fun _ => .int i
theorem ev_str {x : Str} : Ev K P ss cs (tC (.str x)) (.dat (.str x)) cs := ev_c fun _ => .str x
theorem ev_bl {b : Bool} : Ev K P ss cs (tC (.bl b)) (.dat (.bl b)) cs := ev_c fun _ => .bl b
theorem ev_non : Ev K P ss cs (tC .non) (.dat .non) cs := ev_c fun _ => .non
theorem ev_val {v : V} : Ev K P ss cs (tC v) (.val v) cs := fun B H σ o Q q => q v B H (Stp.refl _ _ _) o rfl
theorem ev_op (ha : Ev K P ss cs ta r1 cs1) (hb : Ev K P ss cs1 tb r2 cs2) (hf : OpD K f r1 r2 r) : Ev K P ss cs (tOp f ta tb) r cs2 := fun B H σ o Q q =>
  ha B H σ o _ fun x B1 H1 s1 o1 x1 => hb B1 H1 σ o1 _ fun y B2 H2 s2 o2 y2 => hf B2 H2 x y o2.ex (x1.mono s2.ex) y2 Q fun v B3 H3 s3 e3 v3 =>
    q v B3 H3 ((s1.trans s2).trans s3.ofNil) (o2.step0 s3 e3) v3
theorem ev_un {f : V → Hp → VK → Prop} (ha : Ev K P ss cs ta r1 cs1) (hf : UnD K f r1 r) : Ev K P ss cs (tUn f ta) r cs1 := fun B H σ o Q q =>
  ha B H σ o _ fun x B1 H1 s1 o1 x1 => hf B1 H1 x o1.ex x1 Q fun v B3 H3 s3 e3 v3 => q v B3 H3 (s1.trans s3.ofNil) (o1.step0 s3 e3) v3
theorem ev_if {b : Bool} (h : EvT K P ss cs t b cs1) (h1 : b = true → Ev K P ss cs1 ta r cs2) (h2 : b = false → Ev K P ss cs1 tb r cs2) : Ev K P ss cs (tIf t ta tb) r cs2 := fun B H σ o Q q =>
  h B H σ o _ fun B1 H1 s1 o1 => by
    cases b with
    | true =>
      show ta σ H1 Q
      exact h1 rfl B1 H1 σ o1 Q fun v B2 H2 s2 o2 v2 => q v B2 H2 (s1.trans s2) o2 v2
    | false =>
      show tb σ H1 Q
      exact h2 rfl B1 H1 σ o1 Q fun v B2 H2 s2 o2 v2 => q v B2 H2 (s1.trans s2) o2 v2
theorem et_B {b : Bool} (h : Ev K P ss cs te (.dat (.bl b)) cs1) : EvT K P ss cs (tB te) b cs1 := fun B H σ o Q q =>
  h B H σ o _ fun v B1 H1 s1 o1 v1 => by
    have v1' : Rp K B1 v (.bl b) := v1
    cases v1'
    exact ⟨b, rfl, q B1 H1 s1 o1⟩
theorem et_test {b : Bool} (h : Ev K P ss cs te (.dat (.bl b)) cs1) : EvT K P ss cs (tTest te) b cs1 := fun B H σ o Q q =>
  h B H σ o _ fun v B1 H1 s1 o1 v1 => by
    have v1' : Rp K B1 v (.bl b) := v1
    cases v1'
    exact ⟨b, rfl, q B1 H1 s1 o1⟩
theorem et_not {b : Bool} (h : EvT K P ss cs t b cs1) : EvT K P ss cs (tNot t) (!b) cs1 := fun B H σ o Q q => h B H σ o _ fun B1 H1 s1 o1 => q B1 H1 s1 o1
theorem et_and {a b : Bool} (h1 : EvT K P ss cs t a cs) (h2 : a = true → EvT K P ss cs u b cs) : EvT K P ss cs (tAnd t u) (a && b) cs := fun B H σ o Q q => h1 B H σ o _ fun B1 H1 s1 o1 => by
  cases a with
  | true =>
    show u σ H1 Q
    exact h2 rfl B1 H1 σ o1 Q fun B2 H2 s2 o2 => q B2 H2 (s1.trans s2) o2
  | false =>
    show Q false H1
    exact q B1 H1 s1 o1
theorem et_or {a b : Bool} (h1 : EvT K P ss cs t a cs) (h2 : a = false → EvT K P ss cs u b cs) : EvT K P ss cs (tOr t u) (a || b) cs := fun B H σ o Q q => h1 B H σ o _ fun B1 H1 s1 o1 => by
  cases a with
  | true =>
    show Q true H1
    exact q B1 H1 s1 o1
  | false =>
    show u σ H1 Q
    exact h2 rfl B1 H1 σ o1 Q fun B2 H2 s2 o2 => q B2 H2 (s1.trans s2) o2
theorem ev_notV {b : Bool} (h : Ev K P ss cs ta (.dat (.bl b)) cs1) : Ev K P ss cs (tNotV ta) (.dat (.bl (!b))) cs1 := fun B H σ o Q q =>
  h B H σ o _ fun v B1 H1 s1 o1 v1 => by
    have v1' : Rp K B1 v (.bl b) := v1
    cases v1'
    exact ⟨b, rfl, q _ B1 H1 s1 o1 (Rp.bl _)⟩
theorem ev_andV {a b : Bool} (h1 : Ev K P ss cs ta (.dat (.bl a)) cs) (h2 : a = true → Ev K P ss cs tb (.dat (.bl b)) cs) : Ev K P ss cs (tAndV ta tb) (.dat (.bl (a && b))) cs := fun B H σ o Q q =>
  h1 B H σ o _ fun v B1 H1 s1 o1 v1 => by
    have v1' : Rp K B1 v (.bl a) := v1
    cases v1'
    refine ⟨a, rfl, ?_⟩
    cases a with
    | true =>
      show tb σ H1 Q
      exact h2 rfl B1 H1 σ o1 Q fun w B2 H2 s2 o2 w2 => q w B2 H2 (s1.trans s2) o2 w2
    | false =>
      show Q (.bl false) H1
      exact q _ B1 H1 s1 o1 (Rp.bl _)
theorem ev_orV {a b : Bool} (h1 : Ev K P ss cs ta (.dat (.bl a)) cs) (h2 : a = false → Ev K P ss cs tb (.dat (.bl b)) cs) : Ev K P ss cs (tOrV ta tb) (.dat (.bl (a || b))) cs := fun B H σ o Q q =>
  h1 B H σ o _ fun v B1 H1 s1 o1 v1 => by
    have v1' : Rp K B1 v (.bl a) := v1
    cases v1'
    refine ⟨a, rfl, ?_⟩
    cases a with
    | true =>
      show Q (.bl true) H1
      exact q _ B1 H1 s1 o1 (Rp.bl _)
    | false =>
      show tb σ H1 Q
      exact h2 rfl B1 H1 σ o1 Q fun w B2 H2 s2 o2 w2 => q w B2 H2 (s1.trans s2) o2 w2
theorem Ev.eq {d d' : D} (h : Ev K P ss cs te (.dat d) cs1) (e : d = d') : Ev K P ss cs te (.dat d') cs1 := e ▸ h
theorem EvT.eq {a b : Bool} (h : EvT K P ss cs t a cs1) (e : a = b) : EvT K P ss cs t b cs1 := e ▸ h
theorem ea_nil : EvA K P ss cs tNil [] cs := fun B H σ o Q q => q [] B H (Stp.refl _ _ _) o True.intro
theorem ea_cons {tr : TA} {rs : List Sl} (h : Ev K P ss cs te r cs1) (hr : EvA K P ss cs1 tr rs cs2) : EvA K P ss cs (tCons te tr) (r :: rs) cs2 := fun B H σ o Q q =>
  h B H σ o _ fun v B1 H1 s1 o1 v1 => hr B1 H1 σ o1 _ fun vs B2 H2 s2 o2 r2 => q _ B2 H2 (s1.trans s2) o2 ⟨v1.mono s2.ex, r2⟩
theorem ev_cb {rr : List V → Hp → VK → Prop} {tA : TA} {rs : List Sl} (h : EvA K P ss cs tA rs cs1) (hf : CbD K rr rs r) : Ev K P ss cs (tCB rr tA) r cs1 := fun B H σ o Q q =>
  h B H σ o _ fun vs B1 H1 s1 o1 r1 => hf B1 H1 vs o1.ex r1 Q fun v B2 H2 s2 e2 v2 => q v B2 H2 (s1.trans s2.ofNil) (o1.step0 s2 e2) v2

/-! ### new cells -/
theorem stp_new {B H : Hp} {p : Addr} {o : HO} (e : Ex B H) (hp : H p = none) : Stp [] B H (upd B p o) (upd H p o) :=
  ⟨Ex.new (e.free hp), fun b u _ h => Ex.new hp b u h, fun b u h => upd_ne (ne_of_none h hp), fun b u h => ⟨u, Ex.new hp b u h⟩⟩
theorem rsA : ∀ {B : Hp} {vs : List V} {ds : List D}, RSs K B vs (ds.map Sl.dat) → RpA K B vs ds
  | _, [], [], _ => .nil
  | _, [], _ :: _, h => h.elim
  | _, _ :: _, [], h => h.elim
  | _, _ :: _, _ :: _, h => .cons h.1 (rsA h.2)
theorem le_line {n : Nat} (h : n ≤ 1000000) : n ≤ sizeLine := Nat.le_trans h (by decide)
theorem lt_line {n : Nat} (h : n ≤ 1000000) : n < sizeLine := Nat.lt_of_le_of_lt h (by decide)
theorem ev_tup {tA : TA} {ds : List D} (h : EvA K P ss cs tA (ds.map Sl.dat) cs1) (hl : ds.length ≤ 1000000 := by decide) : Ev K P ss cs (tTup tA) (.dat (.tup ds)) cs1 := fun B H σ o Q q =>
  h B H σ o _ fun vs B1 H1 s1 o1 r1 => by
    have ra := rsA r1
    refine ⟨le_line (by rw [ra.length]; exact hl), fun p hp => ?_⟩
    have s2 := stp_new (o := .tup vs) o1.ex hp
    exact q _ _ _ (s1.trans s2.ofNil) (o1.step0 s2 o1.ex.updB) (Rp.tup (.inl upd_same) (ra.mono s2.ex))
theorem ev_lst {tA : TA} {ds : List D} (h : EvA K P ss cs tA (ds.map Sl.dat) cs1) (hl : ds.length ≤ 1000000 := by decide) : Ev K P ss cs (tLst tA) (.dat (.lst ds)) cs1 := fun B H σ o Q q =>
  h B H σ o _ fun vs B1 H1 s1 o1 r1 => by
    have ra := rsA r1
    refine ⟨le_line (by rw [ra.length]; exact hl), fun p hp => ?_⟩
    have s2 := stp_new (o := .lst vs) o1.ex hp
    exact q _ _ _ (s1.trans s2.ofNil) (o1.step0 s2 o1.ex.updB) (Rp.lst upd_same (ra.mono s2.ex))
end

/-! ### calls -/
/-- what a def promises: by a relation of the arguments' data, the lists', to the answer's and the lists' behind it -/
abbrev Pre := List Sl → List Addr → List (List D) → Sl → List (List D) → Prop
def spM (K : PySem.W.Frag) (pre : Pre) : Sp := fun vs H Q _ => ∃ B rs P cs r cs', pre rs P cs r cs' ∧ Ex B H ∧ RSs K B vs rs ∧ Mu K B H P cs ∧
  ∀ v B' H', Stp P B H B' H' → Ex B' H' → Mu K B' H' P cs' → RS K B' v r → Q v H'
section
variable {P : List Addr} {ss : List Sl} {cs cs1 cs2 : List (List D)} {tA : TA} {rs : List Sl} {r : Sl} {pre : Pre} {E : XK}
theorem ev_call0 (ha : EvA K P ss cs tA rs cs1) (hp : pre rs [] [] r []) : Ev K P ss cs (tCall (spM K pre) [] E tA) r cs1 := fun B H σ o Q q =>
  ha B H σ o _ fun vs B1 H1 s1 o1 r1 => by
    show spM K pre (vs ++ []) H1 Q E
    rw [List.append_nil]
    exact ⟨B1, rs, [], [], r, [], hp, o1.ex, r1, True.intro, fun v B2 H2 s2 e2 _ v2 => q v B2 H2 (s1.trans s2.ofNil) (o1.step0 s2 e2) v2⟩
theorem ev_call1 {j : Nat} {p : Addr} {ds ds' : List D} (ha : EvA K P ss cs tA rs cs1) (hP : P[j]? = some p) (hc : cs1[j]? = some ds) (hp : pre rs [p] [ds] r [ds']) : Ev K P ss cs (tCall (spM K pre) [] E tA) r (cs1.set j ds') := fun B H σ o Q q =>
  ha B H σ o _ fun vs B1 H1 s1 o1 r1 => by
    show spM K pre (vs ++ []) H1 Q E
    rw [List.append_nil]
    obtain ⟨hL, hB⟩ := o1.mu.get hP hc
    refine ⟨B1, rs, [p], [ds], r, [ds'], hp, o1.ex, r1, ⟨hL, hB, by simp, True.intro⟩, fun v B2 H2 s2 e2 m2 v2 => ?_⟩
    obtain ⟨⟨ws, hw, hr⟩, _⟩ := m2
    have sp : Stp P B1 H1 B2 H2 := s2.mono fun x hx => by
      have e : x = p := by simpa using hx
      subst e
      exact List.mem_of_getElem? hP
    refine q v B2 H2 (s1.trans sp) ⟨e2, o1.sl.mono s2.ex, o1.mu.put s2.ex hw hr hP (fun x hx hne => ?_) fun x hx => ?_⟩ v2
    · obtain ⟨u, h1, _⟩ := o1.mu.mem hx
      rw [h1, s2.fr x u (by simpa using hne) h1]
    · obtain ⟨u, h1, h2⟩ := o1.mu.mem hx
      rw [s2.nb x u h1, h2]
end

/-! ### statements -/
/-- within a def: (B0, H0) at its entry -/
def Sta (K : PySem.W.Frag) (P : List Addr) (B0 H0 : Hp) (ss : List Sl) (cs : List (List D)) (σ : L2.St) (H : Hp) : Prop := ∃ B, Stp P B0 H0 B H ∧ Okk K P ss cs B H σ
section
variable {P : List Addr} {B0 H0 H : Hp} {ss ss' : List Sl} {cs cs1 : List (List D)} {σ : L2.St} {D : Ends} {te : TE} {tt : TT} {t u : TS} {r : Sl}
theorem Sta.le {tt : List Sl} (h : Sta K P B0 H0 ss cs σ H) (l : LeS ss tt) : Sta K P B0 H0 tt cs σ H := let ⟨B, s, o⟩ := h; ⟨B, s, o.ex, o.sl.le l, o.mu⟩
theorem st_asg {i : Nat} (h : Sta K P B0 H0 ss cs σ H) (he : Ev K P ss cs te r cs1) (k : ∀ σ' H', Sta K P B0 H0 (ss.set i r) cs1 σ' H' → D.nx σ' H') : tAsg te (gName i) D σ H := by
  obtain ⟨B, s, o⟩ := h
  exact he B H σ o _ fun v B1 H1 s1 o1 v1 => k _ _ ⟨B1, s.trans s1, o1.ex, o1.sl.set v1, o1.mu⟩
theorem st_drop (h : Sta K P B0 H0 ss cs σ H) (he : Ev K P ss cs te r cs1) (k : ∀ H', Sta K P B0 H0 ss cs1 σ H' → D.nx σ H') : tDrop te D σ H := by
  obtain ⟨B, s, o⟩ := h
  exact he B H σ o _ fun v B1 H1 s1 o1 v1 => k _ ⟨B1, s.trans s1, o1⟩
/-- what a def's end wants -/
def Done (K : PySem.W.Frag) (P : List Addr) (B0 H0 : Hp) (r : Sl) (cs : List (List DV.D)) (Q : VK) : Prop := ∀ v B' H', Stp P B0 H0 B' H' → Ex B' H' → Mu K B' H' P cs → RS K B' v r → Q v H'
theorem st_ret (h : Sta K P B0 H0 ss cs σ H) (he : Ev K P ss cs te r cs1) (k : Done K P B0 H0 r cs1 D.rt) : tRet te D σ H := by
  obtain ⟨B, s, o⟩ := h
  exact he B H σ o _ fun v B1 H1 s1 o1 v1 => k v B1 H1 (s.trans s1) o1.ex o1.mu v1
theorem st_if {b : Bool} (h : Sta K P B0 H0 ss cs σ H) (he : EvT K P ss cs tt b cs1) (h1 : b = true → ∀ H', Sta K P B0 H0 ss cs1 σ H' → t D σ H') (h2 : b = false → ∀ H', Sta K P B0 H0 ss cs1 σ H' → u D σ H') : tIfS tt t u D σ H := by
  obtain ⟨B, s, o⟩ := h
  refine he B H σ o _ fun B1 H1 s1 o1 => ?_
  cases b with
  | true =>
    show t D σ H1
    exact h1 rfl H1 ⟨B1, s.trans s1, o1⟩
  | false =>
    show u D σ H1
    exact h2 rfl H1 ⟨B1, s.trans s1, o1⟩
/-- x = [] that will change -/
theorem st_new {i : Nat} (h : Sta K P B0 H0 ss cs σ H) (k : ∀ p σ' H', H0 p = none → p ∉ P → Sta K (p :: P) B0 H0 (ss.set i (.val (.ref p))) ([] :: cs) σ' H' → D.nx σ' H') : tAsg (tLst tNil) (gName i) D σ H := by
  obtain ⟨B, s, o⟩ := h
  refine ⟨Nat.zero_le _, fun p hp => ?_⟩
  have hp0 : H0 p = none := by
    cases e : H0 p with
    | none => rfl
    | some u =>
      obtain ⟨u', h'⟩ := s.dm p u e
      rw [hp] at h'; cases h'
  have hpP : p ∉ P := fun z => by
    obtain ⟨u, h1, _⟩ := o.mu.mem z
    rw [hp] at h1; cases h1
  have hpB : B p = none := o.ex.free hp
  refine k p _ _ hp0 hpP ⟨B, ⟨s.ex, fun b u n e => ?_, s.nb, fun b u e => ?_⟩, ⟨fun b u e => Ex.new hp b u (o.ex b u e), o.sl.set rfl, ⟨⟨[], upd_same, .nil⟩, hpB, hpP, o.mu.keep (Ex.refl _) (fun x hx => upd_ne fun z => hpP (z ▸ hx)) fun x hx => ?_⟩⟩⟩
  · rw [upd_ne (fun (z : b = p) => n (z ▸ List.mem_cons_self))]
    exact s.fr b u (fun z => n (List.mem_cons_of_mem _ z)) e
  · obtain ⟨u', h'⟩ := s.dm b u e
    exact ⟨u', Ex.new hp b u' h'⟩
  · exact (o.mu.mem hx).choose_spec.2
/-- a list that has changed is data from here on -/
theorem Sta.pub {i : Nat} {p : Addr} {ds : List DV.D} (h : Sta K (p :: P) B0 H0 ss (ds :: cs) σ H) (hp : H0 p = none) (hi : ss[i]? = some (.val (.ref p))) : Sta K P B0 H0 (ss.set i (.dat (.lst ds))) cs σ H := by
  obtain ⟨B, s, o⟩ := h
  obtain ⟨⟨vs, hv, rv⟩, hB, hn, mu⟩ := o.mu
  have eB : Ex B (upd B p (.lst vs)) := Ex.new hB
  obtain ⟨w, hw, ew⟩ := o.sl.get i _ hi (by intro z; cases z)
  have ew' : w = .ref p := ew
  subst ew'
  have hσ : σ.set i (some (.ref p)) = σ := by
    apply List.ext_getElem?
    intro j
    rw [List.getElem?_set]
    by_cases hj : i = j
    · subst hj
      have hl : i < σ.length := (List.getElem?_eq_some_iff.mp hw).1
      rw [if_pos rfl, if_pos hl, hw]
    · rw [if_neg hj]
  refine ⟨upd B p (.lst vs), ⟨s.ex.trans eB, fun b u n e => ?_, fun b u e => ?_, s.dm⟩, ⟨fun b u e => ?_, ?_, mu.keep eB (fun _ _ => rfl) fun x hx => ?_⟩⟩
  · exact s.fr b u (fun z => by
      rcases List.mem_cons.mp z with z | z
      · subst z; rw [hp] at e; cases e
      · exact n z) e
  · rw [upd_ne (ne_of_none e hp)]
    exact s.nb b u e
  · by_cases hb : b = p
    · subst hb; rw [upd_same] at e; cases e; exact hv
    · rw [upd_ne hb] at e; exact o.ex b u e
  · have q := (o.sl.mono eB).set (i := i) (v := .ref p) (r := .dat (.lst ds)) (Rp.lst upd_same (rv.mono eB))
    rw [hσ] at q
    exact q
  · obtain ⟨u, _, h2⟩ := mu.mem hx
    rw [upd_ne (fun (z : x = p) => hn (z ▸ hx))]
    exact h2
end

/-! ### targets -/
/-- the slots W alone are other ones -/
def Only (W : List Nat) (σ σ' : L2.St) : Prop := σ'.length = σ.length ∧ ∀ k, k ∉ W → σ'[k]? = σ[k]?
theorem Only.refl (W : List Nat) (σ : L2.St) : Only W σ σ := ⟨rfl, fun _ _ => rfl⟩
theorem Only.trans {W W' : List Nat} {σ σ1 σ2 : L2.St} (a : Only W σ σ1) (b : Only W' σ1 σ2) : Only (W ++ W') σ σ2 :=
  ⟨b.1.trans a.1, fun k n => (b.2 k fun h => n (List.mem_append_right _ h)).trans (a.2 k fun h => n (List.mem_append_left _ h))⟩
theorem Only.set (σ : L2.St) (i : Nat) (o : Option V) : Only [i] σ (σ.set i o) :=
  ⟨List.length_set, fun k n => by rw [List.getElem?_set, if_neg (fun e => n (by simp [e]))]⟩
theorem wipe_get (σ : L2.St) : ∀ (vs : List Nat) (k : Nat), (wipe σ vs)[k]? = if k ∈ vs then (if k < σ.length then some none else none) else σ[k]?
  | [], k => by simp [wipe]
  | v :: vs, k => by
    unfold wipe
    rw [List.getElem?_set, wipe_length]
    by_cases h : v = k
    · subst h
      rw [if_pos rfl, if_pos List.mem_cons_self]
    · rw [if_neg h, wipe_get σ vs k]
      by_cases hk : k ∈ vs
      · rw [if_pos hk, if_pos (List.mem_cons_of_mem _ hk)]
      · rw [if_neg hk, if_neg (fun z => by
          rcases List.mem_cons.mp z with z | z
          · exact h z.symm
          · exact hk z)]
theorem Only.wipe {W vs : List Nat} {σ σ' : L2.St} (o : Only W (L2.wipe σ vs) σ') (h : ∀ k ∈ W, k ∈ vs) : L2.wipe σ' vs = L2.wipe σ vs := by
  have hl : σ'.length = σ.length := o.1.trans (wipe_length σ vs)
  apply List.ext_getElem?
  intro k
  rw [wipe_get, wipe_get, hl]
  by_cases hk : k ∈ vs
  · rw [if_pos hk, if_pos hk]
  · rw [if_neg hk, if_neg hk, o.2 k (fun z => hk (h k z)), wipe_get, if_neg hk]
def wipeS (ss : List Sl) : List Nat → List Sl
  | [] => ss
  | v :: vs => (wipeS ss vs).set v .any
theorem Slots.wipe {B : Hp} {σ : L2.St} {ss : List Sl} (h : Slots K B σ ss) : ∀ vs : List Nat, Slots K B (L2.wipe σ vs) (wipeS ss vs)
  | [] => h
  | v :: vs => (Slots.wipe h vs).clr v none
def GR (K : PySem.W.Frag) (ss : List Sl) (g : TG) (d : D) (ss' : List Sl) (W : List Nat) : Prop := ∀ B H σ v, Ex B H → Slots K B σ ss → Rp K B v d → ∀ Q : L2.St → Hp → Prop, (∀ σ', Slots K B σ' ss' → Only W σ σ' → Q σ' H) → g v σ H Q
def GRs (K : PySem.W.Frag) (ss : List Sl) (g : TGs) (ds : List D) (ss' : List Sl) (W : List Nat) : Prop := ∀ B H σ vs, Ex B H → Slots K B σ ss → RpA K B vs ds → ∀ Q : L2.St → Hp → Prop, (∀ σ', Slots K B σ' ss' → Only W σ σ' → Q σ' H) → g vs σ H Q
section
variable {ss ss1 ss2 : List Sl} {d : D} {ds : List D} {W W' : List Nat}
theorem g_name {i : Nat} : GR K ss (gName i) d (ss.set i (.dat d)) [i] := fun B H σ v _ s r Q q => q _ (s.set r) (Only.set _ _ _)
theorem g_nil : GRs K ss gNil [] ss [] := fun B H σ vs _ s r Q q => by
  cases r
  exact ⟨rfl, q σ s (Only.refl _ _)⟩
theorem g_cons {g : TG} {gs : TGs} (h : GR K ss g d ss1 W) (hs : GRs K ss1 gs ds ss2 W') : GRs K ss (gCons g gs) (d :: ds) ss2 (W ++ W') := fun B H σ vs e s r Q q => by
  cases r with
  | cons r1 r2 => exact ⟨_, _, rfl, h B H σ _ e s r1 _ fun σ1 s1 o1 => hs B H σ1 _ e s1 r2 Q fun σ2 s2 o2 => q σ2 s2 (o1.trans o2)⟩
theorem g_tup {n : Nat} {gs : TGs} (hs : GRs K ss gs ds ss2 W) (hn : ds.length = n := by rfl) : GR K ss (gTup K n gs) (.tup ds) ss2 W := fun B H σ v e s r Q q => by
  cases r with
  | tup h ra => exact ⟨_, _, rfl, .inl (RdEx e h), by rw [ra.length]; exact hn, hs B H σ _ e s ra Q q⟩
end
end DV
/-! DV2: operations over plain data. -/
namespace DV
open PySem L2
variable {K : PySem.W.Frag}

/-! ### data as the library's data -/
mutual
def D.py : D → PyData
  | .non => .none
  | .bl b => .bool b
  | .int i => .int i
  | .str x => .str x
  | .lst ds => .list (D.pyA ds)
  | .tup ds => .tuple (D.pyA ds)
  | .fro ds => .list (D.pyA ds)
  | .nt _ => .none
  | .dic _ => .none
  | .obj _ _ => .none
def D.pyA : List D → List PyData
  | [] => []
  | d :: ds => d.py :: D.pyA ds
end
mutual
/-- no dict, no instance, no frozen list -/
def D.pl : D → Bool
  | .non => true
  | .bl _ => true
  | .int _ => true
  | .str _ => true
  | .lst ds => D.plA ds
  | .tup ds => D.plA ds
  | .fro _ => false
  | .nt _ => false
  | .dic _ => false
  | .obj _ _ => false
def D.plA : List D → Bool
  | [] => true
  | d :: ds => d.pl && D.plA ds
end
mutual
/-- .. and no bool -/
def D.nb : D → Bool
  | .non => true
  | .bl _ => false
  | .int _ => true
  | .str _ => true
  | .lst ds => D.nbA ds
  | .tup ds => D.nbA ds
  | .fro _ => false
  | .nt _ => false
  | .dic _ => false
  | .obj _ _ => false
def D.nbA : List D → Bool
  | [] => true
  | d :: ds => d.nb && D.nbA ds
end
mutual
theorem D.pl_of_nb : ∀ d : D, d.nb = true → d.pl = true
  | .non, _ => rfl
  | .bl _, _ => rfl
  | .int _, _ => rfl
  | .str _, _ => rfl
  | .lst ds, h => D.plA_of_nb ds (by simpa [D.nb] using h)
  | .tup ds, h => D.plA_of_nb ds (by simpa [D.nb] using h)
  | .fro _, h => by simp [D.nb] at h
  | .nt _, h => by simp [D.nb] at h
  | .dic _, h => by simp [D.nb] at h
  | .obj _ _, h => by simp [D.nb] at h
theorem D.plA_of_nb : ∀ ds : List D, D.nbA ds = true → D.plA ds = true
  | [], _ => rfl
  | d :: ds, h => by
    have h' : d.nb = true ∧ D.nbA ds = true := by simpa [D.nbA] using h
    simp [D.plA, D.pl_of_nb d h'.1, D.plA_of_nb ds h'.2]
end
mutual
theorem Rp.dp {B H : Hp} (e : Ex B H) : ∀ {v : V} {d : D}, Rp K B v d → d.pl = true → Dp K H v d.py
  | _, _, .non, _ => .non
  | _, _, .bl b, _ => .bl b
  | _, _, .int i, _ => .int i
  | _, _, .str x, _ => .str x
  | _, _, .lst h r, p => .lst (.inl (.inl (e _ _ h))) (RpA.dp e r (by simpa [D.pl] using p))
  | _, _, .tup h r, p => .tup (.inl (RdEx e h)) (RpA.dp e r (by simpa [D.pl] using p))
  | _, _, .fro _ _, p => by simp [D.pl] at p
  | _, _, .nt _ _ _, p => by simp [D.pl] at p
  | _, _, .dic _ _, p => by simp [D.pl] at p
  | _, _, .obj _ _, p => by simp [D.pl] at p
theorem RpA.dp {B H : Hp} (e : Ex B H) : ∀ {vs : List V} {ds : List D}, RpA K B vs ds → D.plA ds = true → DpAll K H vs (D.pyA ds)
  | _, _, .nil, _ => .nil
  | _, _, .cons h r, p => by
    have p' := p
    simp [D.plA] at p'
    exact .cons (Rp.dp e h p'.1) (RpA.dp e r p'.2)
end
/-! equal data -/
mutual
theorem D.eqv_iff : ∀ d e : D, d.nb = true → e.nb = true → (PyData.eqv d.py e.py = true ↔ d = e)
  | .non, e, _, he => by cases e <;> simp [D.py, PyData.eqv, D.nb] at he ⊢
  | .bl _, _, hd, _ => by simp [D.nb] at hd
  | .int i, e, _, he => by cases e <;> simp [D.py, PyData.eqv, D.nb] at he ⊢
  | .str x, e, _, he => by cases e <;> simp [D.py, PyData.eqv, D.nb] at he ⊢
  | .lst ds, e, hd, he => by
    cases e with
    | lst es =>
      have := D.eqvA_iff ds es (by simpa [D.nb] using hd) (by simpa [D.nb] using he)
      simp only [D.py, PyData.eqv, this, D.lst.injEq]
    | non => simp [D.py, PyData.eqv]
    | bl b => simp [D.nb] at he
    | int i => simp [D.py, PyData.eqv]
    | str x => simp [D.py, PyData.eqv]
    | tup x => simp [D.py, PyData.eqv]
    | dic x => simp [D.nb] at he
    | obj C x => simp [D.nb] at he
    | fro x => simp [D.nb] at he
    | nt x => simp [D.nb] at he
  | .tup ds, e, hd, he => by
    cases e with
    | tup es =>
      have := D.eqvA_iff ds es (by simpa [D.nb] using hd) (by simpa [D.nb] using he)
      simp only [D.py, PyData.eqv, this, D.tup.injEq]
    | non => simp [D.py, PyData.eqv]
    | bl b => simp [D.nb] at he
    | int i => simp [D.py, PyData.eqv]
    | str x => simp [D.py, PyData.eqv]
    | lst x => simp [D.py, PyData.eqv]
    | dic x => simp [D.nb] at he
    | obj C x => simp [D.nb] at he
    | fro x => simp [D.nb] at he
    | nt x => simp [D.nb] at he
  | .fro _, _, hd, _ => by simp [D.nb] at hd
  | .nt _, _, hd, _ => by simp [D.nb] at hd
  | .dic _, _, hd, _ => by simp [D.nb] at hd
  | .obj _ _, _, hd, _ => by simp [D.nb] at hd
theorem D.eqvA_iff : ∀ ds es : List D, D.nbA ds = true → D.nbA es = true → (PyData.eqvAll (D.pyA ds) (D.pyA es) = true ↔ ds = es)
  | [], [], _, _ => by simp [D.pyA, PyData.eqvAll]
  | [], e :: es, _, _ => by simp [D.pyA, PyData.eqvAll]
  | d :: ds, [], _, _ => by simp [D.pyA, PyData.eqvAll]
  | d :: ds, e :: es, hd, he => by
    have hd' : d.nb = true ∧ D.nbA ds = true := by simpa [D.nbA] using hd
    have he' : e.nb = true ∧ D.nbA es = true := by simpa [D.nbA] using he
    have i1 := D.eqv_iff d e hd'.1 he'.1
    have i2 := D.eqvA_iff ds es hd'.2 he'.2
    simp only [D.pyA, PyData.eqvAll, Bool.and_eq_true, i1, i2, List.cons.injEq]
end
mutual
/-- data that may be compared: texts of real signs, at most n deep -/
def D.sh : Nat → D → Bool
  | _, .non => true
  | _, .bl _ => true
  | _, .int _ => true
  | _, .str x => PyData.strOk x
  | 0, .lst _ => false
  | 0, .tup _ => false
  | n + 1, .lst ds => D.shA n ds
  | n + 1, .tup ds => D.shA n ds
  | _, .fro _ => false
  | _, .nt _ => false
  | _, .dic _ => false
  | _, .obj _ _ => false
def D.shA : Nat → List D → Bool
  | _, [] => true
  | n, d :: ds => D.sh n d && D.shA n ds
end
mutual
theorem D.sh_lay : ∀ (n : Nat) (d : D), D.sh n d = true → d.py.canLay0 = true ∧ d.py.depth ≤ n
  | _, .non, _ => by simp [D.py, PyData.canLay0, PyData.depth]
  | _, .bl _, _ => by simp [D.py, PyData.canLay0, PyData.depth]
  | _, .int _, _ => by simp [D.py, PyData.canLay0, PyData.depth]
  | n, .str x, h => by
    have h' : PyData.strOk x = true := by cases n <;> simpa [D.sh] using h
    simp [D.py, PyData.canLay0, PyData.depth, h']
  | 0, .lst _, h => by simp [D.sh] at h
  | 0, .tup _, h => by simp [D.sh] at h
  | n + 1, .lst ds, h => by
    have := D.shA_lay n ds (by simpa [D.sh] using h)
    simp [D.py, PyData.canLay0, PyData.depth, this.1, this.2]
  | n + 1, .tup ds, h => by
    have := D.shA_lay n ds (by simpa [D.sh] using h)
    simp [D.py, PyData.canLay0, PyData.depth, this.1, this.2]
  | n, .fro _, h => by cases n <;> simp [D.sh] at h
  | n, .nt _, h => by cases n <;> simp [D.sh] at h
  | n, .dic _, h => by cases n <;> simp [D.sh] at h
  | n, .obj _ _, h => by cases n <;> simp [D.sh] at h
theorem D.shA_lay : ∀ (n : Nat) (ds : List D), D.shA n ds = true → PyData.canLayAll0 (D.pyA ds) = true ∧ PyData.depthAll (D.pyA ds) ≤ n
  | _, [], _ => by simp [D.pyA, PyData.canLayAll0, PyData.depthAll]
  | n, d :: ds, h => by
    have h' : D.sh n d = true ∧ D.shA n ds = true := by simpa [D.shA] using h
    have i1 := D.sh_lay n d h'.1
    have i2 := D.shA_lay n ds h'.2
    simp [D.pyA, PyData.canLayAll0, PyData.depthAll, i1.1, i2.1]
    omega
end
mutual
theorem D.sh_pl : ∀ (n : Nat) (d : D), D.sh n d = true → d.pl = true
  | _, .non, _ => rfl
  | _, .bl _, _ => rfl
  | _, .int _, _ => rfl
  | _, .str _, _ => rfl
  | 0, .lst _, h => by simp [D.sh] at h
  | 0, .tup _, h => by simp [D.sh] at h
  | n + 1, .lst ds, h => D.shA_pl n ds (by simpa [D.sh] using h)
  | n + 1, .tup ds, h => D.shA_pl n ds (by simpa [D.sh] using h)
  | n, .fro _, h => by cases n <;> simp [D.sh] at h
  | n, .nt _, h => by cases n <;> simp [D.sh] at h
  | n, .dic _, h => by cases n <;> simp [D.sh] at h
  | n, .obj _ _, h => by cases n <;> simp [D.sh] at h
theorem D.shA_pl : ∀ (n : Nat) (ds : List D), D.shA n ds = true → D.plA ds = true
  | _, [], _ => rfl
  | n, d :: ds, h => by
    have h' : D.sh n d = true ∧ D.shA n ds = true := by simpa [D.shA] using h
    simp [D.plA, D.sh_pl n d h'.1, D.shA_pl n ds h'.2]
end
theorem D.shaped {d : D} {n : Nat} (h : D.sh n d = true) (hn : n ≤ 64 := by decide) : SeqAt.shaped d.py = true := by
  obtain ⟨h1, h2⟩ := D.sh_lay n d h
  unfold SeqAt.shaped
  simp [h1]
  omega
theorem D.shA_all {n : Nat} : ∀ {ds : List D}, (∀ d ∈ ds, D.sh n d = true) → D.shA n ds = true
  | [], _ => rfl
  | d :: ds, h => by simp [D.shA, h d List.mem_cons_self, D.shA_all fun e he => h e (List.mem_cons_of_mem _ he)]
theorem D.nbA_all : ∀ {ds : List D}, (∀ d ∈ ds, d.nb = true) → D.nbA ds = true
  | [], _ => rfl
  | d :: ds, h => by simp [D.nbA, h d List.mem_cons_self, D.nbA_all fun e he => h e (List.mem_cons_of_mem _ he)]

/-! ### operators -/
def rOr (f g : R2) : R2 := fun x y H Q => f x y H Q ∨ g x y H Q
theorem op_or {X : Cx} {F : Value → Value → Sem Value} {f g : R2} (hf : OpR X F f) (hg : OpR X F g) : OpR X F (rOr f g) := fun pins s σ H x y v u Q I rx ry h =>
  h.elim (hf pins s σ H x y v u Q I rx ry) (hg pins s σ H x y v u Q I rx ry)
section
variable {f g : R2} {r1 r2 r : Sl}
theorem od_l (h : OpD K f r1 r2 r) : OpD K (rOr f g) r1 r2 r := fun B H x y e a b Q q => .inl (h B H x y e a b Q q)
theorem od_r (h : OpD K g r1 r2 r) : OpD K (rOr f g) r1 r2 r := fun B H x y e a b Q q => .inr (h B H x y e a b Q q)
end
theorem od_I0 {g : Int → Int → V} {i j : Int} {d : D} (h : ∀ B, Rp K B (g i j) d) : OpD K (rI0 g) (.dat (.int i)) (.dat (.int j)) (.dat d) := fun B H x y e a b Q q => by
  have a' : Rp K B x (.int i) := a
  have b' : Rp K B y (.int j) := b
  cases a'; cases b'
  exact ⟨i, j, rfl, rfl, q _ B H (Stp.refl _ _ _) e (h B)⟩
theorem od_I {C : Int → Int → Prop} {g : Int → Int → V} {i j : Int} {d : D} (hc : C i j) (h : ∀ B, Rp K B (g i j) d) : OpD K (rI C g) (.dat (.int i)) (.dat (.int j)) (.dat d) := fun B H x y e a b Q q => by
  have a' : Rp K B x (.int i) := a
  have b' : Rp K B y (.int j) := b
  cases a'; cases b'
  exact ⟨i, j, rfl, rfl, hc, q _ B H (Stp.refl _ _ _) e (h B)⟩
def rAddS : R2 := fun x y H Q => ∃ i j, x = .str i ∧ y = .str j ∧ i.length + j.length ≤ sizeLine ∧ Q (.str (i ++ j)) H
def addA (K : PySem.W.Frag) : R2 := rOr (rI0 fun i j => .int (i + j)) (rOr rAddS (rOr rCat (rCatA K)))
theorem op_addA {X : Cx} : OpR X (binaryOp .Add) (addA X.K) := op_or op_add (op_or op_add_str (op_or op_cat op_catA))
theorem od_addI {i j : Int} : OpD K (addA K) (.dat (.int i)) (.dat (.int j)) (.dat (.int (i + j))) := od_l (od_I0 fun _ => .int _)
theorem od_subI {i j : Int} : OpD K (rI0 fun i j => .int (i - j)) (.dat (.int i)) (.dat (.int j)) (.dat (.int (i - j))) := od_I0 fun _ => .int _
theorem od_mulI {i j : Int} (h : CMul i j) : OpD K (rI CMul fun i j => .int (i * j)) (.dat (.int i)) (.dat (.int j)) (.dat (.int (i * j))) := od_I h fun _ => .int _
theorem od_addS {a b : Str} (hz : a.length + b.length ≤ 1000000) : OpD K (addA K) (.dat (.str a)) (.dat (.str b)) (.dat (.str (a ++ b))) := od_r (od_l fun B H x y e h1 h2 Q q => by
  have a' : Rp K B x (.str a) := h1
  have b' : Rp K B y (.str b) := h2
  cases a'; cases b'
  exact ⟨a, b, rfl, rfl, le_line hz, q _ B H (Stp.refl _ _ _) e (.str _)⟩)
theorem od_addL {as bs : List D} (hz : as.length + bs.length ≤ 1000000) : OpD K (addA K) (.dat (.lst as)) (.dat (.lst bs)) (.dat (.lst (as ++ bs))) := od_r (od_r (od_l fun B H x y e h1 h2 Q q => by
  have a' : Rp K B x (.lst as) := h1
  have b' : Rp K B y (.lst bs) := h2
  cases a' with
  | @lst _ xs _ ha ra => cases b' with
    | @lst _ ys _ hb rb =>
      refine ⟨_, _, _, _, rfl, rfl, e _ _ ha, e _ _ hb, le_line (by rw [ra.length, rb.length]; exact hz), fun p hp => ?_⟩
      have s := stp_new (o := .lst (xs ++ ys)) e hp
      exact q _ _ _ s e.updB (Rp.lst upd_same ((ra.append rb).mono s.ex))))
theorem od_addT {as bs : List D} (hz : as.length + bs.length ≤ 1000000) : OpD K (addA K) (.dat (.tup as)) (.dat (.tup bs)) (.dat (.tup (as ++ bs))) := od_r (od_r (od_r fun B H x y e h1 h2 Q q => by
  have a' : Rp K B x (.tup as) := h1
  have b' : Rp K B y (.tup bs) := h2
  cases a' with
  | @tup a xs _ ha ra => cases b' with
    | @tup b ys _ hb rb =>
      refine ⟨_, _, xs, ys, rfl, rfl, .inl (RdEx e ha), .inl (RdEx e hb), le_line (by rw [ra.length, rb.length]; exact hz), fun z => ?_, fun _ z => ?_, fun _ _ p hp => ?_⟩
      · subst z
        cases ra
        exact q _ B H (Stp.refl _ _ _) e (Rp.tup hb rb)
      · subst z
        cases rb
        rw [List.append_nil] at q
        exact q _ B H (Stp.refl _ _ _) e (Rp.tup ha ra)
      · have s := stp_new (o := .tup (xs ++ ys)) e hp
        exact q _ _ _ s e.updB (Rp.tup (.inl upd_same) ((ra.append rb).mono s.ex))))
/-- == and != -/
theorem od_eq {d e : D} {b : Bool} (n m : Nat) (hd : D.sh n d = true) (he : D.sh m e = true) (nd : d.nb = true) (ne : e.nb = true) (hb : b = true ↔ d = e) (hn : n ≤ 64 := by decide) (hm : m ≤ 64 := by decide) :
    OpD K (rEqD K) (.dat d) (.dat e) (.dat (.bl b)) := fun B H x y ex h1 h2 Q q => by
  refine ⟨d.py, e.py, Rp.dp ex h1 (D.sh_pl _ _ hd), Rp.dp ex h2 (D.sh_pl _ _ he), D.shaped hd hn, D.shaped he hm, ?_⟩
  have hq : PyData.eqv d.py e.py = b := Bool.eq_iff_iff.mpr ((D.eqv_iff d e nd ne).trans hb.symm)
  rw [hq]
  exact q _ B H (Stp.refl _ _ _) ex (.bl b)
theorem od_ne {d e : D} {b : Bool} (n m : Nat) (hd : D.sh n d = true) (he : D.sh m e = true) (nd : d.nb = true) (ne : e.nb = true) (hb : b = true ↔ d = e) (hn : n ≤ 64 := by decide) (hm : m ≤ 64 := by decide) :
    OpD K (rNeD K) (.dat d) (.dat e) (.dat (.bl (!b))) := fun B H x y ex h1 h2 Q q => by
  refine ⟨d.py, e.py, Rp.dp ex h1 (D.sh_pl _ _ hd), Rp.dp ex h2 (D.sh_pl _ _ he), D.shaped hd hn, D.shaped he hm, ?_⟩
  have hq : PyData.eqv d.py e.py = b := Bool.eq_iff_iff.mpr ((D.eqv_iff d e nd ne).trans hb.symm)
  rw [hq]
  exact q _ B H (Stp.refl _ _ _) ex (.bl _)
/-- two ints, two texts, two bools: by the operators for flat values -/
def eqA (K : PySem.W.Frag) : R2 := rOr rEq (rEqD K)
def neA (K : PySem.W.Frag) : R2 := rOr rNe (rNeD K)
theorem op_eqA {X : Cx} (hu : X.A.units + 64 < cLine) : OpR X (compareOp .Eq) (eqA X.K) := op_or op_eq (op_eqD hu)
theorem op_neA {X : Cx} (hu : X.A.units + 64 < cLine) : OpR X (compareOp .NotEq) (neA X.K) := op_or op_ne (op_neD hu)
theorem od_eqI {i j : Int} : OpD K (eqA K) (.dat (.int i)) (.dat (.int j)) (.dat (.bl (decide (i = j)))) := od_l fun B H x y e h1 h2 Q q => by
  have a' : Rp K B x (.int i) := h1
  have b' : Rp K B y (.int j) := h2
  cases a'; cases b'
  have z : decide (V.int i = V.int j) = decide (i = j) := by simp
  exact ⟨rfl, by rw [z]; exact q _ B H (Stp.refl _ _ _) e (.bl _)⟩
theorem od_neI {i j : Int} : OpD K (neA K) (.dat (.int i)) (.dat (.int j)) (.dat (.bl (!decide (i = j)))) := od_l fun B H x y e h1 h2 Q q => by
  have a' : Rp K B x (.int i) := h1
  have b' : Rp K B y (.int j) := h2
  cases a'; cases b'
  have z : decide (V.int i = V.int j) = decide (i = j) := by simp
  exact ⟨rfl, by rw [z]; exact q _ B H (Stp.refl _ _ _) e (.bl _)⟩
theorem od_eqS {i j : Str} : OpD K (eqA K) (.dat (.str i)) (.dat (.str j)) (.dat (.bl (decide (i = j)))) := od_l fun B H x y e h1 h2 Q q => by
  have a' : Rp K B x (.str i) := h1
  have b' : Rp K B y (.str j) := h2
  cases a'; cases b'
  have z : decide (V.str i = V.str j) = decide (i = j) := by simp
  exact ⟨rfl, by rw [z]; exact q _ B H (Stp.refl _ _ _) e (.bl _)⟩
theorem od_neS {i j : Str} : OpD K (neA K) (.dat (.str i)) (.dat (.str j)) (.dat (.bl (!decide (i = j)))) := od_l fun B H x y e h1 h2 Q q => by
  have a' : Rp K B x (.str i) := h1
  have b' : Rp K B y (.str j) := h2
  cases a'; cases b'
  have z : decide (V.str i = V.str j) = decide (i = j) := by simp
  exact ⟨rfl, by rw [z]; exact q _ B H (Stp.refl _ _ _) e (.bl _)⟩
theorem od_eqB {i j : Bool} : OpD K (eqA K) (.dat (.bl i)) (.dat (.bl j)) (.dat (.bl (decide (i = j)))) := od_l fun B H x y e h1 h2 Q q => by
  have a' : Rp K B x (.bl i) := h1
  have b' : Rp K B y (.bl j) := h2
  cases a'; cases b'
  have z : decide (V.bl i = V.bl j) = decide (i = j) := by simp
  exact ⟨rfl, by rw [z]; exact q _ B H (Stp.refl _ _ _) e (.bl _)⟩
theorem od_neB {i j : Bool} : OpD K (neA K) (.dat (.bl i)) (.dat (.bl j)) (.dat (.bl (!decide (i = j)))) := od_l fun B H x y e h1 h2 Q q => by
  have a' : Rp K B x (.bl i) := h1
  have b' : Rp K B y (.bl j) := h2
  cases a'; cases b'
  have z : decide (V.bl i = V.bl j) = decide (i = j) := by simp
  exact ⟨rfl, by rw [z]; exact q _ B H (Stp.refl _ _ _) e (.bl _)⟩
/-- x is None -/
def D.isN : D → Bool
  | .non => true | _ => false
theorem Rp.isN {B : Hp} {v : V} {d : D} (h : Rp K B v d) : decide (v = .non) = d.isN := by
  cases h <;> simp [D.isN]
def rIsN : R2 := fun x y H Q => y = .non ∧ Q (.bl (decide (x = .non))) H
def rNotN : R2 := fun x y H Q => y = .non ∧ Q (.bl (!decide (x = .non))) H
theorem op_isN' {X : Cx} : OpR X (compareOp .Is) rIsN := op_isN
theorem op_notN' {X : Cx} : OpR X (compareOp .IsNot) rNotN := op_notN
theorem od_isN {d : D} : OpD K rIsN (.dat d) (.dat .non) (.dat (.bl d.isN)) := fun B H x y e h1 h2 Q q => by
  have b' : Rp K B y .non := h2
  cases b'
  exact ⟨rfl, by rw [Rp.isN (K := K) (B := B) (d := d) h1]; exact q _ B H (Stp.refl _ _ _) e (.bl _)⟩
theorem od_notN {d : D} : OpD K rNotN (.dat d) (.dat .non) (.dat (.bl (!d.isN))) := fun B H x y e h1 h2 Q q => by
  have b' : Rp K B y .non := h2
  cases b'
  exact ⟨rfl, by rw [Rp.isN (K := K) (B := B) (d := d) h1]; exact q _ B H (Stp.refl _ _ _) e (.bl _)⟩
/-- a text in a list of texts -/
theorem RpA.strs {B : Hp} : ∀ {vs : List V} {ss : List Str}, RpA K B vs (ss.map D.str) → vs = ss.map V.str
  | [], [], _ => rfl
  | _ :: _, [], h => by cases h
  | [], _ :: _, h => by cases h
  | _ :: _, _ :: _, .cons h r => by
    cases h
    rw [RpA.strs r]
    rfl
theorem RpA.ofStrs {B : Hp} : ∀ {ss : List Str}, RpA K B (ss.map V.str) (ss.map D.str)
  | [] => .nil
  | _ :: _ => .cons (.str _) RpA.ofStrs
theorem RpA.ofInts {B : Hp} : ∀ {ss : List Int}, RpA K B (ss.map V.int) (ss.map D.int)
  | [] => .nil
  | _ :: _ => .cons (.int _) RpA.ofInts
theorem RpA.ints {B : Hp} : ∀ {vs : List V} {ss : List Int}, RpA K B vs (ss.map D.int) → vs = ss.map V.int
  | [], [], _ => rfl
  | _ :: _, [], h => by cases h
  | [], _ :: _, h => by cases h
  | _ :: _, _ :: _, .cons h r => by
    cases h
    rw [RpA.ints r]
    rfl
theorem RpA.bools {B : Hp} : ∀ {vs : List V} {ss : List Bool}, RpA K B vs (ss.map D.bl) → vs = ss.map V.bl
  | [], [], _ => rfl
  | _ :: _, [], h => by cases h
  | [], _ :: _, h => by cases h
  | _ :: _, _ :: _, .cons h r => by
    cases h
    rw [RpA.bools r]
    rfl
theorem inV_strs (x : Str) (ss : List Str) : inV (.str x) (ss.map V.str) = decide (x ∈ ss) := by
  rw [Bool.eq_iff_iff]
  unfold inV
  rw [List.any_eq_true, decide_eq_true_eq]
  constructor
  · rintro ⟨y, hy, e⟩
    obtain ⟨z, hz, rfl⟩ := List.mem_map.mp hy
    have e' : (z == x) = true := e
    rw [← beq_iff_eq.mp e']
    exact hz
  · intro h
    exact ⟨.str x, List.mem_map.mpr ⟨x, h, rfl⟩, (show (x == x) = true from beq_iff_eq.mpr rfl)⟩
theorem flat_strs : ∀ ss : List Str, (ss.map V.str).all flatV = true
  | [] => rfl
  | _ :: ss => by rw [List.map_cons, List.all_cons, flat_strs ss]; rfl
theorem od_inS {x : Str} {ss : List Str} : OpD K (rIn K false) (.dat (.str x)) (.dat (.lst (ss.map D.str))) (.dat (.bl (decide (x ∈ ss)))) := fun B H v y e h1 h2 Q q => by
  have a' : Rp K B v (.str x) := h1
  have b' : Rp K B y (.lst (ss.map D.str)) := h2
  cases a'
  cases b' with
  | lst h r =>
    have z := RpA.strs r
    subst z
    refine ⟨_, _, rfl, .inl (.inl (.inl (e _ _ h))), rfl, flat_strs ss, ?_⟩
    rw [if_neg Bool.false_ne_true, inV_strs]
    exact q _ B H (Stp.refl _ _ _) e (.bl _)
theorem od_niS {x : Str} {ss : List Str} : OpD K (rIn K true) (.dat (.str x)) (.dat (.lst (ss.map D.str))) (.dat (.bl (!decide (x ∈ ss)))) := fun B H v y e h1 h2 Q q => by
  have a' : Rp K B v (.str x) := h1
  have b' : Rp K B y (.lst (ss.map D.str)) := h2
  cases a'
  cases b' with
  | lst h r =>
    have z := RpA.strs r
    subst z
    refine ⟨_, _, rfl, .inl (.inl (.inl (e _ _ h))), rfl, flat_strs ss, ?_⟩
    rw [if_pos rfl, inV_strs]
    exact q _ B H (Stp.refl _ _ _) e (.bl _)

/-! ### subscripts, slices -/
theorem RpA.atI {B : Hp} {vs : List V} {ds : List D} {i : Int} {d : D} (r : RpA K B vs ds) (h : L2.atI ds i = some d) : ∃ v, L2.atI vs i = some v ∧ Rp K B v d := by
  unfold L2.atI at h ⊢
  rw [r.length]
  cases e : ixN ds.length i with
  | none => rw [e] at h; cases h
  | some j =>
    rw [e] at h
    exact r.get h
theorem od_ixL {ds : List D} {i : Int} {d : D} (h : atI ds i = some d) : OpD K (rIx K) (.dat (.lst ds)) (.dat (.int i)) (.dat d) := fun B H x y e h1 h2 Q q => by
  have a' : Rp K B x (.lst ds) := h1
  have b' : Rp K B y (.int i) := h2
  cases b'
  cases a' with
  | lst h r =>
    obtain ⟨v, h3, h4⟩ := r.atI ‹L2.atI ds i = some d›
    exact .inl ⟨_, _, i, v, rfl, rfl, .inl (.inl (e _ _ h)), h3, q v B H (Stp.refl _ _ _) e h4⟩
theorem od_ixT {ds : List D} {i : Int} {d : D} (h : atI ds i = some d) : OpD K (rIx K) (.dat (.tup ds)) (.dat (.int i)) (.dat d) := fun B H x y e h1 h2 Q q => by
  have a' : Rp K B x (.tup ds) := h1
  have b' : Rp K B y (.int i) := h2
  cases b'
  cases a' with
  | tup h r =>
    obtain ⟨v, h3, h4⟩ := r.atI ‹L2.atI ds i = some d›
    exact .inr (.inl ⟨_, _, i, v, rfl, rfl, .inl (RdEx e h), h3, q v B H (Stp.refl _ _ _) e h4⟩)
theorem SqL.ex {B H : Hp} {a : Addr} {xs : List V} (e : Ex B H) (h : SqL K B a xs) : SqL K H a xs := h.elim (fun h => .inl (h.elim (fun h => .inl (e _ _ h)) fun ⟨o, h⟩ => .inr ⟨o, e _ _ h⟩)) .inr
theorem od_ixF {ds : List D} {i : Int} {d : D} (h : atI ds i = some d) : OpD K (rIx K) (.dat (.fro ds)) (.dat (.int i)) (.dat d) := fun B H x y e h1 h2 Q q => by
  have a' : Rp K B x (.fro ds) := h1
  have b' : Rp K B y (.int i) := h2
  cases b'
  cases a' with
  | fro h r =>
    obtain ⟨v, h3, h4⟩ := r.atI ‹L2.atI ds i = some d›
    exact .inl ⟨_, _, i, v, rfl, rfl, SqL.ex e h, h3, q v B H (Stp.refl _ _ _) e h4⟩
def cutD (xs : List D) (lo hi : Option Int) : List D := (xs.drop (HT.sIx xs.length 0 lo)).take (HT.sIx xs.length xs.length hi - HT.sIx xs.length 0 lo)
theorem RpA.cut {B : Hp} {vs : List V} {ds : List D} (r : RpA K B vs ds) (lo hi : Option Int) : RpA K B (cutV vs lo hi) (cutD ds lo hi) := by
  unfold cutV cutD
  rw [r.length]
  exact (r.drop _).take _
def EvO (K : PySem.W.Frag) (P : List Addr) (ss : List Sl) (cs : List (List D)) (to : TO) (o : Option Int) (cs' : List (List D)) : Prop :=
  ∀ B H σ, Okk K P ss cs B H σ → ∀ Q : Option Int → Hp → Prop, (∀ B' H', Stp P B H B' H' → Okk K P ss cs' B' H' σ → Q o H') → to σ H Q
def SlD (K : PySem.W.Frag) (f : V → Option Int → Option Int → Hp → VK → Prop) (r1 : Sl) (lo hi : Option Int) (r : Sl) : Prop :=
  ∀ B H x, Ex B H → RS K B x r1 → ∀ Q : VK, (∀ v B' H', Stp [] B H B' H' → Ex B' H' → RS K B' v r → Q v H') → f x lo hi H Q
section
variable {P : List Addr} {ss : List Sl} {cs cs1 cs2 cs3 : List (List D)} {te : TE} {r r1 : Sl}
theorem eo_none : EvO K P ss cs tNoPart none cs := fun B H σ o Q q => q B H (Stp.refl _ _ _) o
theorem eo_some {i : Int} (h : Ev K P ss cs te (.dat (.int i)) cs1) : EvO K P ss cs (tPart te) (some i) cs1 := fun B H σ o Q q =>
  h B H σ o _ fun v B1 H1 s1 o1 v1 => by
    have a' : Rp K B1 v (.int i) := v1
    cases a'
    exact ⟨i, rfl, q B1 H1 s1 o1⟩
theorem ev_sl {f : V → Option Int → Option Int → Hp → VK → Prop} {tl th : TO} {lo hi : Option Int} (h : Ev K P ss cs te r1 cs1) (hl : EvO K P ss cs1 tl lo cs2) (hh : EvO K P ss cs2 th hi cs3) (hf : SlD K f r1 lo hi r) :
    Ev K P ss cs (tSl f te tl th) r cs3 := fun B H σ o Q q =>
  h B H σ o _ fun x B1 H1 s1 o1 x1 => hl B1 H1 σ o1 _ fun B2 H2 s2 o2 => hh B2 H2 σ o2 _ fun B3 H3 s3 o3 => hf B3 H3 x o3.ex (x1.mono (s2.ex.trans s3.ex)) Q fun v B4 H4 s4 e4 v4 =>
    q v B4 H4 (((s1.trans s2).trans s3).trans s4.ofNil) (o3.step0 s4 e4) v4
end
def rSl3 (K : PySem.W.Frag) : V → Option Int → Option Int → Hp → VK → Prop := fun x lo hi H Q => rSlL K x lo hi H Q ∨ rSlA K x lo hi H Q ∨ rSlS x lo hi H Q
theorem sl_3 {X : Cx} : SlR X (rSl3 X.K) := by
  intro pins s σ H x v vl vu lo hi sl Q I rx hs pl pu h
  rcases h with h | h | h
  · exact sl_list pins s σ H x v vl vu lo hi sl Q I rx hs pl pu h
  · exact sl_tupA pins s σ H x v vl vu lo hi sl Q I rx hs pl pu h
  · exact sl_str pins s σ H x v vl vu lo hi sl Q I rx hs pl pu h
theorem sd_L {ds : List D} {lo hi : Option Int} : SlD K (rSl3 K) (.dat (.lst ds)) lo hi (.dat (.lst (cutD ds lo hi))) := fun B H x e h1 Q q => by
  have a' : Rp K B x (.lst ds) := h1
  cases a' with
  | @lst _ xs _ h r =>
    refine .inl ⟨_, _, rfl, .inl (.inl (e _ _ h)), fun p hp => ?_⟩
    have s := stp_new (o := .lst (cutV xs lo hi)) e hp
    exact q _ _ _ s e.updB (Rp.lst upd_same ((r.cut lo hi).mono s.ex))
theorem sd_T {ds : List D} {lo hi : Option Int} : SlD K (rSl3 K) (.dat (.tup ds)) lo hi (.dat (.tup (cutD ds lo hi))) := fun B H x e h1 Q q => by
  have a' : Rp K B x (.tup ds) := h1
  cases a' with
  | @tup a xs _ h r =>
    refine .inr (.inl ⟨_, xs, rfl, .inl (RdEx e h), fun w => ?_, fun _ p hp => ?_⟩)
    · have z : cutD ds lo hi = ds := by
        unfold cutD
        rw [r.length] at w
        rw [w.1, w.2, Nat.sub_zero, List.drop_zero, List.take_length]
      rw [z] at q
      exact q _ B H (Stp.refl _ _ _) e (Rp.tup h r)
    · have s := stp_new (o := .tup (cutV xs lo hi)) e hp
      exact q _ _ _ s e.updB (Rp.tup (.inl upd_same) ((r.cut lo hi).mono s.ex))
theorem sd_S {z : Str} {lo hi : Option Int} (hz : z.length ≤ 1000000) : SlD K (rSl3 K) (.dat (.str z)) lo hi (.dat (.str (cutS z lo hi))) := fun B H x e h1 Q q => by
  have a' : Rp K B x (.str z) := h1
  cases a'
  exact .inr (.inr ⟨z, rfl, le_line hz, q _ B H (Stp.refl _ _ _) e (.str _)⟩)

/-! ### calls of built-ins -/
def rLen1 (K : PySem.W.Frag) : List V → Hp → VK → Prop := fun xs H Q => ∃ x n, xs = [x] ∧ LenV K x H n ∧ Q (.int n) H
theorem call_len1 {X : Cx} : CallR X (.builtin "len") (rLen1 X.K) := call_len
theorem rs1 {B : Hp} {vs : List V} {r : Sl} (h : RSs K B vs [r]) : ∃ v, vs = [v] ∧ RS K B v r := by
  match vs, h with
  | [v], h => exact ⟨v, rfl, h.1⟩
theorem rs2 {B : Hp} {vs : List V} {r r' : Sl} (h : RSs K B vs [r, r']) : ∃ v v', vs = [v, v'] ∧ RS K B v r ∧ RS K B v' r' := by
  match vs, h with
  | [v, v'], h => exact ⟨v, v', rfl, h.1, h.2.1⟩
theorem cb_lenL {ds : List D} : CbD K (rLen1 K) [.dat (.lst ds)] (.dat (.int (ds.length : Int))) := fun B H vs e h Q q => by
  obtain ⟨v, rfl, h1⟩ := rs1 h
  have a' : Rp K B v (.lst ds) := h1
  cases a' with
  | lst h5 r => exact ⟨_, ds.length, rfl, .inl ⟨_, .inl (.inl (e _ _ h5)), r.length.symm⟩, q _ B H (Stp.refl _ _ _) e (.int _)⟩
theorem cb_lenT {ds : List D} : CbD K (rLen1 K) [.dat (.tup ds)] (.dat (.int (ds.length : Int))) := fun B H vs e h Q q => by
  obtain ⟨v, rfl, h1⟩ := rs1 h
  have a' : Rp K B v (.tup ds) := h1
  cases a' with
  | tup h5 r => exact ⟨_, ds.length, rfl, .inr ⟨_, .inl (RdEx e h5), r.length.symm⟩, q _ B H (Stp.refl _ _ _) e (.int _)⟩
theorem cb_lenF {ds : List D} : CbD K (rLen1 K) [.dat (.fro ds)] (.dat (.int (ds.length : Int))) := fun B H vs e h Q q => by
  obtain ⟨v, rfl, h1⟩ := rs1 h
  have a' : Rp K B v (.fro ds) := h1
  cases a' with
  | fro h5 r => exact ⟨_, ds.length, rfl, .inl ⟨_, SqL.ex e h5, r.length.symm⟩, q _ B H (Stp.refl _ _ _) e (.int _)⟩
theorem cb_lenS {z : Str} (hz : z.length ≤ 1000000) : CbD K (rLen1 K) [.dat (.str z)] (.dat (.int (z.length : Int))) := fun B H vs e h Q q => by
  obtain ⟨v, rfl, h1⟩ := rs1 h
  have a' : Rp K B v (.str z) := h1
  cases a'
  exact ⟨_, z.length, rfl, ⟨le_line hz, rfl⟩, q _ B H (Stp.refl _ _ _) e (.int _)⟩
def rTuple1 (K : PySem.W.Frag) : List V → Hp → VK → Prop := fun xs H Q => ∃ p ys, xs = [.ref p] ∧ ((SqL K H p ys ∧ ∀ l, H l = none → Q (.ref l) (upd H l (.tup ys))) ∨ (SqT K H p ys ∧ Q (.ref p) H))
theorem call_tuple1 {X : Cx} : CallR X (.type "tuple") (rTuple1 X.K) := call_tuple_of
theorem cb_tupleL {ds : List D} : CbD K (rTuple1 K) [.dat (.lst ds)] (.dat (.tup ds)) := fun B H vs e h Q q => by
  obtain ⟨v, rfl, h1⟩ := rs1 h
  have a' : Rp K B v (.lst ds) := h1
  cases a' with
  | @lst _ xs _ h5 r =>
    refine ⟨_, _, rfl, .inl ⟨.inl (.inl (e _ _ h5)), fun p hp => ?_⟩⟩
    have s := stp_new (o := .tup xs) e hp
    exact q _ _ _ s e.updB (Rp.tup (.inl upd_same) (r.mono s.ex))
def rList1 (K : PySem.W.Frag) : List V → Hp → VK → Prop := fun xs H Q => ∃ p ys, xs = [.ref p] ∧ (SqL K H p ys ∨ SqT K H p ys) ∧ ∀ l, H l = none → Q (.ref l) (upd H l (.lst ys))
theorem call_list1 {X : Cx} : CallR X (.type "list") (rList1 X.K) := call_list_of
/-- tuple(list), and no dict at it -/
def rTupleF (K : PySem.W.Frag) : List V → Hp → VK → Prop := fun xs H Q => ∃ p ys, xs = [.ref p] ∧ SqL K H p ys ∧ ∀ l o, H l = none → o.dict = none → Q (.ref l) (upd H l (.frz o (.tup ys)))
open PySem.Spec PyProof.Rows in
theorem call_tupleF {X : Cx} : CallR X (.type "tuple") (rTupleF X.K) := by
  intro pins s σ H xs us Q I r h
  obtain ⟨p, ys, rfl, hq, q⟩ := h
  obtain ⟨u, rfl, rx⟩ := vals1 r
  cases rx
  obtain ⟨its, r', pl, hz⟩ := I.list hq
  have hlen := r'.length
  refine call_tuple_list pl.isList (fun h' kp => ?_) (by simp only [List.size_toArray] <;> omega)
  have I1 : Inv X pins σ H { s with heap := h' } := I.kept (t' := s.toks) kp
  have I2 : Inv X pins σ (upd H h'.objs.size (.frz { cls := .type "tuple", data := .seq its.toArray } (.tup ys))) { s with heap := h'.push { cls := .type "tuple", data := .seq its.toArray } } :=
    I1.laid (t' := s.toks) (fun b o e => Heap.get?_push_of_some _ e) (Nat.le_refl _) (show ObjOk X.prog X.w _ _ _ (.frz _ (.tup ys)) from ⟨Heap.get?_push_size _ rfl, hz, its, r', IsTup.new _ _⟩)
  exact ⟨.ref h'.objs.size, _, I2, rfl, q _ _ (I1.hok.fresh (Nat.le_refl _)) rfl⟩
theorem cb_tupleF {ds : List D} : CbD K (rTupleF K) [.dat (.lst ds)] (.dat (.nt ds)) := fun B H vs e h Q q => by
  obtain ⟨v, rfl, h1⟩ := rs1 h
  have a' : Rp K B v (.lst ds) := h1
  cases a' with
  | @lst _ xs _ h5 r =>
    refine ⟨_, _, rfl, .inl (.inl (e _ _ h5)), fun p o hp ho => ?_⟩
    have s := stp_new (o := .frz o (.tup xs)) e hp
    exact q _ _ _ s e.updB (Rp.nt upd_same ho (r.mono s.ex))
theorem Rp.ntT {B : Hp} {v : V} {ds : List D} (h : Rp K B v (.nt ds)) : Rp K B v (.tup ds) := by
  cases h with
  | nt h n r => exact .tup (.inr ⟨_, h⟩) r
theorem ev_nt {P : List Addr} {ss : List Sl} {cs cs1 : List (List D)} {te : TE} {ds : List D} (h : Ev K P ss cs te (.dat (.nt ds)) cs1) : Ev K P ss cs te (.dat (.tup ds)) cs1 := fun B H σ o Q q =>
  h B H σ o Q fun v B1 H1 s1 o1 v1 => q v B1 H1 s1 o1 (Rp.ntT v1)
theorem cb_listT {ds : List D} : CbD K (rList1 K) [.dat (.tup ds)] (.dat (.lst ds)) := fun B H vs e h Q q => by
  obtain ⟨v, rfl, h1⟩ := rs1 h
  have a' : Rp K B v (.tup ds) := h1
  cases a' with
  | @tup _ xs _ h5 r =>
    refine ⟨_, _, rfl, .inr (.inl (RdEx e h5)), fun p hp => ?_⟩
    have s := stp_new (o := .lst xs) e hp
    exact q _ _ _ s e.updB (Rp.lst upd_same (r.mono s.ex))
theorem cb_listL {ds : List D} : CbD K (rList1 K) [.dat (.lst ds)] (.dat (.lst ds)) := fun B H vs e h Q q => by
  obtain ⟨v, rfl, h1⟩ := rs1 h
  have a' : Rp K B v (.lst ds) := h1
  cases a' with
  | @lst _ xs _ h5 r =>
    refine ⟨_, _, rfl, .inl (.inl (.inl (e _ _ h5))), fun p hp => ?_⟩
    have s := stp_new (o := .lst xs) e hp
    exact q _ _ _ s e.updB (Rp.lst upd_same (r.mono s.ex))
theorem cb_sum {ns : List Int} : CbD K (rSum K) [.dat (.lst (ns.map D.int))] (.dat (.int ns.sum)) := fun B H vs e h Q q => by
  obtain ⟨v, rfl, h1⟩ := rs1 h
  have a' : Rp K B v (.lst (ns.map D.int)) := h1
  cases a' with
  | lst h5 r =>
    have z := RpA.ints r
    subst z
    exact ⟨_, ns, rfl, .inl (.inl (e _ _ h5)), q _ B H (Stp.refl _ _ _) e (.int _)⟩
theorem cb_all {bs : List Bool} : CbD K (rAll K) [.dat (.lst (bs.map D.bl))] (.dat (.bl (bs.all id))) := fun B H vs e h Q q => by
  obtain ⟨v, rfl, h1⟩ := rs1 h
  have a' : Rp K B v (.lst (bs.map D.bl)) := h1
  cases a' with
  | lst h5 r =>
    have z := RpA.bools r
    subst z
    exact ⟨_, bs, rfl, .inl (.inl (e _ _ h5)), q _ B H (Stp.refl _ _ _) e (.bl _)⟩
def rAbs1 : List V → Hp → VK → Prop := fun xs H Q => ∃ i, xs = [.int i] ∧ Q (.int (if i < 0 then -i else i)) H
theorem call_abs1 {X : Cx} : CallR X (.builtin "abs") rAbs1 := call_abs
theorem cb_abs {i : Int} : CbD K rAbs1 [.dat (.int i)] (.dat (.int (if i < 0 then -i else i))) := fun B H vs e h Q q => by
  obtain ⟨v, rfl, h1⟩ := rs1 h
  have a' : Rp K B v (.int i) := h1
  cases a'
  exact ⟨i, rfl, q _ B H (Stp.refl _ _ _) e (.int _)⟩
def rMax2' : List V → Hp → VK → Prop := fun xs H Q => ∃ i j, xs = [.int i, .int j] ∧ Q (.int (if j > i then j else i)) H
def rMin2' : List V → Hp → VK → Prop := fun xs H Q => ∃ i j, xs = [.int i, .int j] ∧ Q (.int (if j < i then j else i)) H
theorem call_max2' {X : Cx} (hc : X.calm = true) : CallR X (.builtin "max") rMax2' := call_max2 hc
theorem call_min2' {X : Cx} (hc : X.calm = true) : CallR X (.builtin "min") rMin2' := call_min2 hc
theorem cb_max2 {i j : Int} : CbD K rMax2' [.dat (.int i), .dat (.int j)] (.dat (.int (if j > i then j else i))) := fun B H vs e h Q q => by
  obtain ⟨v, v', rfl, h1, h2⟩ := rs2 h
  have a' : Rp K B v (.int i) := h1
  have b' : Rp K B v' (.int j) := h2
  cases a'; cases b'
  exact ⟨i, j, rfl, q _ B H (Stp.refl _ _ _) e (.int _)⟩
theorem cb_min2 {i j : Int} : CbD K rMin2' [.dat (.int i), .dat (.int j)] (.dat (.int (if j < i then j else i))) := fun B H vs e h Q q => by
  obtain ⟨v, v', rfl, h1, h2⟩ := rs2 h
  have a' : Rp K B v (.int i) := h1
  have b' : Rp K B v' (.int j) := h2
  cases a'; cases b'
  exact ⟨i, j, rfl, q _ B H (Stp.refl _ _ _) e (.int _)⟩
def rInt1 : List V → Hp → VK → Prop := fun xs H Q => (∃ i, xs = [.int i] ∧ Q (.int i) H) ∨ ∃ k, xs = [.bl k] ∧ Q (.int (if k then 1 else 0)) H
theorem call_int1' {X : Cx} : CallR X (.type "int") rInt1 := call_int1
theorem cb_int {i : Int} : CbD K rInt1 [.dat (.int i)] (.dat (.int i)) := fun B H vs e h Q q => by
  obtain ⟨v, rfl, h1⟩ := rs1 h
  have a' : Rp K B v (.int i) := h1
  cases a'
  exact .inl ⟨i, rfl, q _ B H (Stp.refl _ _ _) e (.int _)⟩
theorem cb_intB {k : Bool} : CbD K rInt1 [.dat (.bl k)] (.dat (.int (if k then 1 else 0))) := fun B H vs e h Q q => by
  obtain ⟨v, rfl, h1⟩ := rs1 h
  have a' : Rp K B v (.bl k) := h1
  cases a'
  exact .inr ⟨k, rfl, q _ B H (Stp.refl _ _ _) e (.int _)⟩
end DV
/-! DV3: walks, loops, comprehensions over plain data. -/
namespace DV
open PySem L2
variable {K : PySem.W.Frag}

/-! ### what is walked -/
/-- J yields values that read as the items of ds, one by one -/
def Walks (K : PySem.W.Frag) (B1 : Hp) (J : It) (ds : List D) : Prop := ∀ (i : Nat) B H, Ex B1 B → Ex B H →
  (∀ d, ds[i]? = some d → J.go i H ∧ ∀ x H', J.yld i H x H' → ∃ B', Stp [] B H B' H' ∧ Ex B' H' ∧ Rp K B' x d) ∧ (ds.length ≤ i → J.stop i H)
def WD (K : PySem.W.Frag) (P : List Addr) (ss : List Sl) (cs : List (List D)) (wi : TI) (ds : List D) (cs' : List (List D)) : Prop :=
  ∀ B H σ, Okk K P ss cs B H σ → ∀ R : It → Hp → Prop, (∀ J B1 H1, Stp P B H B1 H1 → Okk K P ss cs' B1 H1 σ → Walks K B1 J ds → R J H1) → wi σ H R
section
variable {P : List Addr} {ss : List Sl} {cs cs1 : List (List D)} {te : TE} {ta : TA} {ds es : List D}
theorem wk_seqL {B1 : Hp} {a : Addr} {xs : List V} (h : ∀ H, Ex B1 H → SqL K H a xs) (r : RpA K B1 xs ds) : Walks K B1 (Itl K a) ds := fun i B H e1 e2 => by
  have q := h H (e1.trans e2)
  refine ⟨fun d hd => ?_, fun hl => ⟨xs, q, by rw [r.length]; exact hl⟩⟩
  obtain ⟨v, h1, h2⟩ := r.get hd
  refine ⟨⟨xs, v, q, h1⟩, fun x H' y => ?_⟩
  obtain ⟨rfl, f⟩ := y
  have e := f xs q
  rw [h1] at e
  cases e
  exact ⟨B, Stp.refl _ _ _, e2, h2.mono e1⟩
theorem wd_lst (h : Ev K P ss cs te (.dat (.lst ds)) cs1) : WD K P ss cs (iList K te) ds cs1 := fun B H σ o R q =>
  h B H σ o _ fun v B1 H1 s1 o1 v1 => by
    have a' : Rp K B1 v (.lst ds) := v1
    cases a' with
    | lst h5 r => exact ⟨_, rfl, ⟨_, .inl (.inl (o1.ex _ _ h5))⟩, q _ B1 H1 s1 o1 (wk_seqL (fun H e => .inl (.inl (e _ _ h5))) r)⟩
theorem wd_tup (h : Ev K P ss cs te (.dat (.tup ds)) cs1) : WD K P ss cs (iTup K te) ds cs1 := fun B H σ o R q =>
  h B H σ o _ fun v B1 H1 s1 o1 v1 => by
    have a' : Rp K B1 v (.tup ds) := v1
    cases a' with
    | @tup a xs _ h5 r =>
      refine ⟨_, rfl, ⟨_, .inl (RdEx o1.ex h5)⟩, q _ B1 H1 s1 o1 fun i B2 H2 e1 e2 => ?_⟩
      have z : SqT K H2 a xs := .inl (RdEx e2 (RdEx e1 h5))
      refine ⟨fun d hd => ?_, fun hl => ⟨xs, z, by rw [r.length]; exact hl⟩⟩
      obtain ⟨v, h1, h2⟩ := r.get hd
      refine ⟨⟨xs, v, z, h1⟩, fun x H' y => ?_⟩
      obtain ⟨rfl, f⟩ := y
      have e := f xs z
      rw [h1] at e
      cases e
      exact ⟨B2, Stp.refl _ _ _, e2, h2.mono e1⟩
def rangeD (lo : Int) (n : Nat) : List D := (List.range n).map fun i => D.int (lo + (i : Nat))
theorem rangeD_get {lo : Int} {n i : Nat} {d : D} (h : (rangeD lo n)[i]? = some d) : i < n ∧ d = .int (lo + (i : Nat)) := by
  unfold rangeD at h
  rw [List.getElem?_map] at h
  by_cases hi : i < n
  · rw [List.getElem?_range hi] at h
    exact ⟨hi, (Option.some.inj h).symm⟩
  · rw [List.getElem?_eq_none (by rw [List.length_range]; omega)] at h
    cases h
theorem rangeD_len {lo : Int} {n : Nat} : (rangeD lo n).length = n := by simp [rangeD]
theorem wk_rng {B1 : Hp} {lo : Int} {n : Nat} : Walks K B1 (Itr lo n) (rangeD lo n) := fun i B H e1 e2 => by
  refine ⟨fun d hd => ?_, fun hl => by rw [rangeD_len] at hl; exact hl⟩
  obtain ⟨hi, rfl⟩ := rangeD_get hd
  refine ⟨hi, fun x H' y => ?_⟩
  obtain ⟨rfl, rfl⟩ := y
  exact ⟨B, Stp.refl _ _ _, e2, .int _⟩
theorem wd_rng1 {n : Int} (h : EvA K P ss cs ta [.dat (.int n)] cs1) (hn : n ≤ 1000000 ∧ -1000000 ≤ n) : WD K P ss cs (iRng1 ta) (rangeD 0 n.toNat) cs1 := fun B H σ o R q =>
  h B H σ o _ fun vs B1 H1 s1 o1 r1 => by
    obtain ⟨v, rfl, h1⟩ := rs1 r1
    have a' : Rp K B1 v (.int n) := h1
    cases a'
    exact ⟨n, rfl, by omega, by omega, q _ B1 H1 s1 o1 wk_rng⟩
theorem wd_rng2 {m n : Int} (h : EvA K P ss cs ta [.dat (.int m), .dat (.int n)] cs1) (hn : n ≤ 1000000 ∧ -1000000 ≤ n) (hm : m ≤ 1000000 ∧ -1000000 ≤ m) : WD K P ss cs (iRng2 ta) (rangeD m (n - m).toNat) cs1 := fun B H σ o R q =>
  h B H σ o _ fun vs B1 H1 s1 o1 r1 => by
    obtain ⟨v, v', rfl, h1, h2⟩ := rs2 r1
    have a' : Rp K B1 v (.int m) := h1
    have b' : Rp K B1 v' (.int n) := h2
    cases a'; cases b'
    exact ⟨m, n, rfl, ⟨by omega, by omega, by omega, by omega⟩, q _ B1 H1 s1 o1 wk_rng⟩
def enumD (ds : List D) : List D := (ds.zipIdx 0).map fun p => D.tup [.int (p.2 : Nat), p.1]
theorem enumD_get {i : Nat} {d : D} (h : (enumD ds)[i]? = some d) : ∃ e, ds[i]? = some e ∧ d = .tup [.int (i : Nat), e] := by
  unfold enumD at h
  rw [List.getElem?_map, List.getElem?_zipIdx] at h
  cases e : ds[i]? with
  | none => rw [e] at h; cases h
  | some x =>
    rw [e] at h
    refine ⟨x, rfl, ?_⟩
    have h' := Option.some.inj h
    rw [← h']
    simp
theorem enumD_len : (enumD ds).length = ds.length := by simp [enumD]
theorem wd_enum (h : EvA K P ss cs ta [.dat (.lst ds)] cs1) : WD K P ss cs (iEnum K ta) (enumD ds) cs1 := fun B H σ o R q =>
  h B H σ o _ fun vs B1 H1 s1 o1 r1 => by
    obtain ⟨v, rfl, h1⟩ := rs1 r1
    have a' : Rp K B1 v (.lst ds) := h1
    cases a' with
    | @lst a xs _ h5 r =>
      refine ⟨_, xs, rfl, .inl (.inl (o1.ex _ _ h5)), q _ B1 H1 s1 o1 fun i B2 H2 e1 e2 => ?_⟩
      have z : SqL K H2 a xs := .inl (.inl (e2 _ _ (e1 _ _ h5)))
      refine ⟨fun d hd => ?_, fun hl => ⟨xs, z, by rw [r.length]; rw [enumD_len] at hl; exact hl⟩⟩
      obtain ⟨e, he, rfl⟩ := enumD_get hd
      obtain ⟨v, h1, h2⟩ := r.get he
      refine ⟨⟨xs, v, z, h1⟩, fun x H' y => ?_⟩
      obtain ⟨T, x', rfl, hT, rfl, f⟩ := y
      have e := f xs z
      rw [h1] at e
      cases e
      have s := stp_new (o := .tup [.int (i : Nat), v]) e2 hT
      exact ⟨_, s, e2.updB, .tup (.inl upd_same) (.cons (.int _) (.cons (h2.mono (e1.trans s.ex)) .nil))⟩
def zipD (ds es : List D) : List D := List.zipWith (fun d e => D.tup [d, e]) ds es
theorem zipD_get {i : Nat} {d : D} (h : (zipD ds es)[i]? = some d) : ∃ x y, ds[i]? = some x ∧ es[i]? = some y ∧ d = .tup [x, y] := by
  unfold zipD at h
  rw [List.getElem?_zipWith] at h
  cases e1 : ds[i]? with
  | none => rw [e1] at h; simp at h
  | some x =>
    cases e2 : es[i]? with
    | none => rw [e1, e2] at h; simp at h
    | some y =>
      rw [e1, e2] at h
      exact ⟨x, y, rfl, rfl, (Option.some.inj h).symm⟩
theorem wd_zipLL (h : EvA K P ss cs ta [.dat (.lst ds), .dat (.lst es)] cs1) : WD K P ss cs (RZ.iZipA K ta) (zipD ds es) cs1 := fun B H σ o R q =>
  h B H σ o _ fun vs B1 H1 s1 o1 r1 => by
    obtain ⟨v, v', rfl, h1, h2⟩ := rs2 r1
    have a' : Rp K B1 v (.lst ds) := h1
    have b' : Rp K B1 v' (.lst es) := h2
    cases a' with
    | @lst a xs _ h5 r => cases b' with
      | @lst b ys _ h6 r' =>
        refine ⟨_, _, xs, ys, rfl, .inl ⟨.inl (.inl (o1.ex _ _ h5)), .inl (.inl (o1.ex _ _ h6)), q _ B1 H1 s1 o1 fun i B2 H2 e1 e2 => ?_⟩⟩
        have z : SqL K H2 a xs := .inl (.inl (e2 _ _ (e1 _ _ h5)))
        have z' : SqL K H2 b ys := .inl (.inl (e2 _ _ (e1 _ _ h6)))
        refine ⟨fun d hd => ?_, fun hl => ⟨xs, ys, z, z', ?_⟩⟩
        · obtain ⟨e, e', he, he', rfl⟩ := zipD_get hd
          obtain ⟨v, h1, h2⟩ := r.get he
          obtain ⟨v', h1', h2'⟩ := r'.get he'
          refine ⟨⟨xs, ys, v, v', z, z', h1, h1'⟩, fun x H' y => ?_⟩
          obtain ⟨T, x', y', rfl, hT, rfl, f, f'⟩ := y
          have q1 := f xs z
          have q2 := f' ys z'
          rw [h1] at q1; rw [h1'] at q2
          cases q1; cases q2
          have s := stp_new (o := .tup [v, v']) e2 hT
          exact ⟨_, s, e2.updB, .tup (.inl upd_same) (.cons (h2.mono (e1.trans s.ex)) (.cons (h2'.mono (e1.trans s.ex)) .nil))⟩
        · rw [r.length, r'.length]
          have : (zipD ds es).length = min ds.length es.length := by simp [zipD]
          rw [this] at hl
          omega
theorem wd_zipTT (h : EvA K P ss cs ta [.dat (.tup ds), .dat (.tup es)] cs1) : WD K P ss cs (RZ.iZipA K ta) (zipD ds es) cs1 := fun B H σ o R q =>
  h B H σ o _ fun vs B1 H1 s1 o1 r1 => by
    obtain ⟨v, v', rfl, h1, h2⟩ := rs2 r1
    have a' : Rp K B1 v (.tup ds) := h1
    have b' : Rp K B1 v' (.tup es) := h2
    cases a' with
    | @tup a xs _ h5 r => cases b' with
      | @tup b ys _ h6 r' =>
        refine ⟨_, _, xs, ys, rfl, .inr ⟨.inl (RdEx o1.ex h5), .inl (RdEx o1.ex h6), q _ B1 H1 s1 o1 fun i B2 H2 e1 e2 => ?_⟩⟩
        have z : SqT K H2 a xs := .inl (RdEx e2 (RdEx e1 h5))
        have z' : SqT K H2 b ys := .inl (RdEx e2 (RdEx e1 h6))
        refine ⟨fun d hd => ?_, fun hl => ⟨xs, ys, z, z', ?_⟩⟩
        · obtain ⟨e, e', he, he', rfl⟩ := zipD_get hd
          obtain ⟨v, h1, h2⟩ := r.get he
          obtain ⟨v', h1', h2'⟩ := r'.get he'
          refine ⟨⟨xs, ys, v, v', z, z', h1, h1'⟩, fun x H' y => ?_⟩
          obtain ⟨T, x', y', rfl, hT, rfl, f, f'⟩ := y
          have q1 := f xs z
          have q2 := f' ys z'
          rw [h1] at q1; rw [h1'] at q2
          cases q1; cases q2
          have s := stp_new (o := .tup [v, v']) e2 hT
          exact ⟨_, s, e2.updB, .tup (.inl upd_same) (.cons (h2.mono (e1.trans s.ex)) (.cons (h2'.mono (e1.trans s.ex)) .nil))⟩
        · rw [r.length, r'.length]
          have : (zipD ds es).length = min ds.length es.length := by simp [zipD]
          rw [this] at hl
          omega
end

/-! ### for -/
theorem Sta.base {P : List Addr} {B0 H0 B1 H1 H : Hp} {ss : List Sl} {cs : List (List D)} {σ : L2.St} (h : Sta K P B1 H1 ss cs σ H) (s : Stp P B0 H0 B1 H1) : Sta K P B0 H0 ss cs σ H := by
  obtain ⟨B, s1, o⟩ := h
  exact ⟨B, s.trans s1, o⟩
theorem Done.base {P : List Addr} {B0 H0 B1 H1 : Hp} {r : Sl} {cs : List (List D)} {Q : VK} (h : Done K P B0 H0 r cs Q) (s : Stp P B0 H0 B1 H1) : Done K P B1 H1 r cs Q := fun v B' H' s1 e m x => h v B' H' (s.trans s1) e m x
/-- what holds between two turns: z is what the loop has gathered -/
def Turn' (K : PySem.W.Frag) {α : Type} (P : List Addr) (B1 H1 : Hp) (J : Nat → α → Prop) (S : Nat → α → List Sl) (C : Nat → α → List (List D)) (i : Nat) (σ : L2.St) (H : Hp) : Prop := ∃ z, J i z ∧ Sta K P B1 H1 (S i z) (C i z) σ H
theorem st_for {α : Type} {P : List Addr} {B0 H0 H : Hp} {ss : List Sl} {cs cs1 : List (List D)} {σ : L2.St} {D : Ends} {wi : TI} {g : TG} {tb : TS} {ds : List DV.D} (h : Sta K P B0 H0 ss cs σ H) (hw : WD K P ss cs wi ds cs1)
    (J : Nat → α → Prop) (S : Nat → α → List Sl) (C : Nat → α → List (List DV.D)) (z0 : α) (j0 : J 0 z0) (l0 : LeS ss (S 0 z0)) (c0 : cs1 = C 0 z0)
    (hs : ∀ B1 H1, Stp P B0 H0 B1 H1 → ∀ i d z, ds[i]? = some d → J i z → ∃ G W, GR K (S i z) g d G W ∧
      ∀ σ' H', Sta K P B1 H1 G (C i z) σ' H' → tb { D with nx := Turn' K P B1 H1 J S C (i + 1), ct := Turn' K P B1 H1 J S C (i + 1), bk := D.nx } σ' H')
    (hd : ∀ z σ' H', J ds.length z → Sta K P B0 H0 (S ds.length z) (C ds.length z) σ' H' → D.nx σ' H') : tFor wi g tb D σ H := by
  obtain ⟨B, s, o⟩ := h
  refine hw B H σ o _ fun It B1 H1 s1 o1 wk => ?_
  have sB : Stp P B0 H0 B1 H1 := s.trans s1
  refine ⟨fun i m σ H => m = ds.length - i ∧ i ≤ ds.length ∧ Turn' K P B1 H1 J S C i σ H, ⟨ds.length, by simp, Nat.zero_le _, z0, j0, B1, Stp.refl _ _ _, ?_⟩, ?_⟩
  · rw [← c0]
    exact ⟨o1.ex, o1.sl.le l0, o1.mu⟩
  rintro i m σ' H' ⟨rfl, hi, z, jz, hst⟩
  obtain ⟨B2, s2, o2⟩ := id hst
  obtain ⟨w1, w2⟩ := wk i B2 H' s2.ex o2.ex
  by_cases hlt : i < ds.length
  · have hd' : ds[i]? = some ds[i] := List.getElem?_eq_getElem hlt
    obtain ⟨go, yl⟩ := w1 _ hd'
    obtain ⟨G, W, hg, body⟩ := hs B1 H1 sB i _ z hd' jz
    refine .inr ⟨go, Turn' K P B1 H1 J S C (i + 1), fun σ3 H3 q => ⟨ds.length - (i + 1), by omega, rfl, hlt, q⟩, fun x H3 y => ?_⟩
    obtain ⟨B3, s3, e3, x3⟩ := yl x H3 y
    have o3 := o2.step0 s3 e3
    exact hg B3 H3 σ' x o3.ex o3.sl x3 _ fun σ4 s4 _ => body σ4 H3 ⟨B3, s2.trans s3.ofNil, o3.ex, s4, o3.mu⟩
  · have e : i = ds.length := by omega
    subst e
    exact .inl ⟨w2 (Nat.le_refl _), hd z σ' H' jz (hst.base sB)⟩

/-! ### comprehensions -/
/-- a new list, and nothing else holds it -/
def EvF (K : PySem.W.Frag) (P : List Addr) (ss : List Sl) (cs : List (List D)) (te : TE) (ds : List D) (cs' : List (List D)) : Prop :=
  ∀ B H σ, Okk K P ss cs B H σ → ∀ Q : VK, (∀ p vs B' H', H p = none → Stp P B H B' H' → Okk K P ss cs' B' H' σ → H' p = some (.lst vs) → B' p = none → RpA K B' vs ds → Q (.ref p) H') → te σ H Q
section
variable {P : List Addr} {ss : List Sl} {cs cs1 : List (List D)} {te : TE} {ds : List D}
theorem EvF.ev (h : EvF K P ss cs te ds cs1) : Ev K P ss cs te (.dat (.lst ds)) cs1 := fun B H σ o Q q =>
  h B H σ o Q fun p vs B1 H1 hp s1 o1 hv hB r => by
    have eB : Ex B1 (upd B1 p (.lst vs)) := Ex.new hB
    refine q _ (upd B1 p (.lst vs)) H1 ⟨s1.ex.trans eB, s1.fr, fun b u e => ?_, s1.dm⟩ ⟨fun b u e => ?_, o1.sl.mono eB, o1.mu.keep eB (fun _ _ => rfl) fun x hx => ?_⟩ (Rp.lst upd_same (r.mono eB))
    · rw [upd_ne (ne_of_none e hp)]
      exact s1.nb b u e
    · by_cases hb : b = p
      · subst hb; rw [upd_same] at e; cases e; exact hv
      · rw [upd_ne hb] at e; exact o1.ex b u e
    · obtain ⟨u, h1, h2⟩ := o.mu.mem hx
      have hne : x ≠ p := fun z => by rw [z, hp] at h1; cases h1
      rw [upd_ne hne]
      exact (o1.mu.mem hx).choose_spec.2
/-- x = [..], x will change -/
theorem st_asgF {B0 H0 H : Hp} {σ : L2.St} {D : Ends} {i : Nat} (h : Sta K P B0 H0 ss cs σ H) (he : EvF K P ss cs te ds cs1) (k : ∀ p σ' H', H0 p = none → p ∉ P → Sta K (p :: P) B0 H0 (ss.set i (.val (.ref p))) (ds :: cs1) σ' H' → D.nx σ' H') :
    tAsg te (gName i) D σ H := by
  obtain ⟨B, s, o⟩ := h
  refine he B H σ o _ fun p vs B1 H1 hp s1 o1 hv hB r => ?_
  have hp0 : H0 p = none := by
    cases e : H0 p with
    | none => rfl
    | some u =>
      obtain ⟨u', h'⟩ := s.dm p u e
      rw [hp] at h'; cases h'
  have hpP : p ∉ P := fun z => by
    obtain ⟨u, h1, _⟩ := o.mu.mem z
    rw [hp] at h1; cases h1
  have s2 := s.trans s1
  exact k p _ _ hp0 hpP ⟨B1, s2.mono fun x hx => List.mem_cons_of_mem _ hx, o1.ex, o1.sl.set rfl, ⟨⟨vs, hv, r⟩, hB, hpP, o1.mu⟩⟩
/-- the comprehension: out i what is made behind i items, C i the other lists -/
theorem ef_lc {wi : TI} {g : TG} {tt : TT} {vs : List Nat} {es : List D} (hw : WD K P ss cs wi es cs1) (out : Nat → List D) (C : Nat → List (List D)) (o0 : out 0 = []) (c0 : C 0 = cs1) (hz : es.length ≤ 1000000)
    (hs : ∀ p i d, p ∉ P → es[i]? = some d → (out i).length ≤ i ∧ ∃ G W b, GR K (wipeS ss vs) g d G W ∧ (∀ k ∈ W, k ∈ vs) ∧ EvT K (p :: P) G (out i :: C i) tt b (out i :: C i) ∧
      (b = true → ∃ e, Ev K (p :: P) G (out i :: C i) te (.dat e) (out i :: C (i + 1)) ∧ out (i + 1) = out i ++ [e]) ∧ (b = false → out (i + 1) = out i ∧ C (i + 1) = C i)) :
    EvF K P ss cs (tLc wi g tt te vs) (out es.length) (C es.length) := fun B H σ o Q q => by
  refine hw B H σ o _ fun It B1 H1 s1 o1 wk Dp hDp => ?_
  have hDP : Dp ∉ P := fun z => by
    obtain ⟨u, h1, _⟩ := o1.mu.mem z
    rw [hDp] at h1; cases h1
  have hD0 : H Dp = none := by
    cases e : H Dp with
    | none => rfl
    | some u =>
      obtain ⟨u', h'⟩ := s1.dm Dp u e
      rw [hDp] at h'; cases h'
  -- between two turns
  let I : Nat → Hp → Prop := fun i H' => ∃ B', Stp (Dp :: P) B1 H1 B' H' ∧ Okk K (Dp :: P) ss (out i :: C i) B' H' σ
  have i0 : I 0 (upd H1 Dp (.lst [])) := by
    refine ⟨B1, ⟨Ex.refl _, fun b u n e => ?_, fun _ _ _ => rfl, fun b u e => ⟨u, Ex.new hDp b u e⟩⟩, fun b u e => Ex.new hDp b u (o1.ex b u e), o1.sl, ⟨⟨[], upd_same, by rw [o0]; exact .nil⟩, o1.ex.free hDp, hDP, ?_⟩⟩
    · rw [upd_ne (fun (z : b = Dp) => n (z ▸ List.mem_cons_self))]; exact e
    · rw [c0]
      exact o1.mu.keep (Ex.refl _) (fun x hx => upd_ne fun (z : x = Dp) => hDP (z ▸ hx)) fun x hx => (o1.mu.mem hx).choose_spec.2
  refine ⟨fun i m H' => m = es.length - i ∧ i ≤ es.length ∧ I i H', ⟨es.length, by simp, Nat.zero_le _, i0⟩, ?_⟩
  rintro i m H' ⟨rfl, hi, B2, s2, o2⟩
  obtain ⟨w1, w2⟩ := wk i B2 H' s2.ex o2.ex
  by_cases hlt : i < es.length
  · have hd' : es[i]? = some es[i] := List.getElem?_eq_getElem hlt
    obtain ⟨go, yl⟩ := w1 _ hd'
    obtain ⟨hol, G, W, b, hg, hW, htt, hyes, hno⟩ := hs Dp i _ hDP hd'
    refine .inr ⟨go, I (i + 1), fun H3 q => ⟨es.length - (i + 1), by omega, rfl, hlt, q⟩, fun x H3 y => ?_⟩
    obtain ⟨B3, s3, e3, x3⟩ := yl x H3 y
    have o3 := o2.step0 s3 e3
    refine hg B3 H3 (wipe σ vs) x o3.ex (o3.sl.wipe vs) x3 _ fun σ4 s4 on => ⟨on.wipe hW, ?_⟩
    refine htt B3 H3 σ4 ⟨o3.ex, s4, o3.mu⟩ _ fun B5 H5 s5 o5 => ?_
    have s35 : Stp (Dp :: P) B2 H' B5 H5 := s3.ofNil.trans s5
    have s15 := s2.trans s35
    cases b with
    | true =>
      obtain ⟨e, hev, ho⟩ := hyes rfl
      show te σ4 H5 _
      refine hev B5 H5 σ4 o5 _ fun v B6 H6 s6 o6 v6 => ?_
      obtain ⟨⟨ws, hw6, r6⟩, hB6, hn6, m6⟩ := o6.mu
      have s16 := s15.trans s6
      refine ⟨ws, hw6, lt_line (by rw [r6.length]; omega), B6, ⟨s16.ex, fun c u n ec => ?_, s16.nb, fun c u ec => ?_⟩, fun c u ec => ?_, ?_, ⟨⟨ws ++ [v], upd_same, by rw [ho]; exact r6.append (.cons v6 .nil)⟩, hB6, hn6, ?_⟩⟩
      · rw [upd_ne (fun (z : c = Dp) => n (z ▸ List.mem_cons_self))]
        exact s16.fr c u n ec
      · obtain ⟨u', h'⟩ := s16.dm c u ec
        by_cases hc : c = Dp
        · subst hc; exact ⟨_, upd_same⟩
        · exact ⟨u', by rw [upd_ne hc]; exact h'⟩
      · rw [upd_ne (fun (z : c = Dp) => by rw [z, hB6] at ec; cases ec)]
        exact o6.ex c u ec
      · exact o2.sl.mono (s35.trans s6).ex
      · exact m6.keep (Ex.refl _) (fun x hx => upd_ne fun (z : x = Dp) => hn6 (z ▸ hx)) fun x hx => (m6.mem hx).choose_spec.2
    | false =>
      obtain ⟨ho, hc⟩ := hno rfl
      show I (i + 1) H5
      refine ⟨B5, s15, o5.ex, o2.sl.mono s35.ex, ?_⟩
      rw [ho, hc]
      exact o5.mu
  · have e : i = es.length := by omega
    subst e
    obtain ⟨⟨ws, hw2, r2⟩, hB2, hn2, m2⟩ := o2.mu
    refine .inl ⟨w2 (Nat.le_refl _), q Dp ws B2 H' hD0 (s1.trans ⟨s2.ex, fun b u n eb => ?_, s2.nb, s2.dm⟩) ⟨o2.ex, o2.sl, m2⟩ hw2 hB2 r2⟩
    exact s2.fr b u (fun z => by
      rcases List.mem_cons.mp z with z | z
      · rw [z, hDp] at eb; cases eb
      · exact n z) eb
/-- [f(x) for x in ..] -/
theorem ef_map {wi : TI} {g : TG} {vs : List Nat} {es : List D} (hw : WD K P ss cs wi es cs1) (f : D → D) (hz : es.length ≤ 1000000)
    (hs : ∀ (p : Addr) (i : Nat) (d : D) (acc : List D), es[i]? = some d → ∃ G W, GR K (wipeS ss vs) g d G W ∧ (∀ k ∈ W, k ∈ vs) ∧ Ev K (p :: P) G (acc :: cs1) te (.dat (f d)) (acc :: cs1)) :
    EvF K P ss cs (tLc wi g tYes te vs) (es.map f) cs1 := by
  have h := ef_lc (tt := tYes) (te := te) (g := g) (vs := vs) hw (fun i => (es.take i).map f) (fun _ => cs1) rfl rfl hz (fun p i d hp hd => by
    obtain ⟨G, W, hg, hW, he⟩ := hs p i d ((es.take i).map f) hd
    have hi : i < es.length := (List.getElem?_eq_some_iff.mp hd).1
    refine ⟨by rw [List.length_map, List.length_take]; omega, G, W, true, hg, hW, fun B H σ o Q q => q B H (Stp.refl _ _ _) o, fun _ => ⟨f d, he, ?_⟩, fun z => by cases z⟩
    show (es.take (i + 1)).map f = (es.take i).map f ++ [f d]
    rw [List.take_add_one, hd, List.map_append]
    rfl)
  rw [List.take_length] at h
  exact h
/-- [f(x) for x in .. if t(x)] -/
theorem ef_filter {wi : TI} {g : TG} {tt : TT} {vs : List Nat} {es : List D} (hw : WD K P ss cs wi es cs1) (f : D → D) (t : D → Bool) (hz : es.length ≤ 1000000)
    (hs : ∀ (p : Addr) (i : Nat) (d : D) (acc : List D), es[i]? = some d → ∃ G W, GR K (wipeS ss vs) g d G W ∧ (∀ k ∈ W, k ∈ vs) ∧ EvT K (p :: P) G (acc :: cs1) tt (t d) (acc :: cs1) ∧ (t d = true → Ev K (p :: P) G (acc :: cs1) te (.dat (f d)) (acc :: cs1))) :
    EvF K P ss cs (tLc wi g tt te vs) ((es.filter t).map f) cs1 := by
  have h := ef_lc (tt := tt) (te := te) (g := g) (vs := vs) hw (fun i => ((es.take i).filter t).map f) (fun _ => cs1) rfl rfl hz (fun p i d hp hd => by
    obtain ⟨G, W, hg, hW, ht, he⟩ := hs p i d (((es.take i).filter t).map f) hd
    have hi : i < es.length := (List.getElem?_eq_some_iff.mp hd).1
    refine ⟨by
      rw [List.length_map]
      refine Nat.le_trans (List.length_filter_le _ _) ?_
      rw [List.length_take]; omega, G, W, t d, hg, hW, ht, fun z => ⟨f d, he z, ?_⟩, fun z => ⟨?_, rfl⟩⟩
    · show ((es.take (i + 1)).filter t).map f = ((es.take i).filter t).map f ++ [f d]
      rw [List.take_add_one, hd, List.filter_append, List.map_append]
      simp [z]
    · show ((es.take (i + 1)).filter t).map f = ((es.take i).filter t).map f
      rw [List.take_add_one, hd, List.filter_append]
      simp [z])
  rw [List.take_length] at h
  exact h
/-- the same over a list that is told otherwise -/
theorem ef_mapE {β : Type} {wi : TI} {g : TG} {vs : List Nat} {l : List β} {enc : β → D} (hw : WD K P ss cs wi (l.map enc) cs1) (f : β → D) (hz : l.length ≤ 1000000)
    (hs : ∀ (p : Addr) (i : Nat) (x : β) (acc : List D), l[i]? = some x → ∃ G W, GR K (wipeS ss vs) g (enc x) G W ∧ (∀ k ∈ W, k ∈ vs) ∧ Ev K (p :: P) G (acc :: cs1) te (.dat (f x)) (acc :: cs1)) :
    EvF K P ss cs (tLc wi g tYes te vs) (l.map f) cs1 := by
  have h := ef_lc (tt := tYes) (te := te) (g := g) (vs := vs) hw (fun i => (l.take i).map f) (fun _ => cs1) rfl rfl (by rw [List.length_map]; exact hz) (fun p i d hp hd => by
    rw [List.getElem?_map] at hd
    cases hx : l[i]? with
    | none => rw [hx] at hd; cases hd
    | some x =>
      rw [hx] at hd
      have e : enc x = d := Option.some.inj hd
      subst e
      obtain ⟨G, W, hg, hW, he⟩ := hs p i x ((l.take i).map f) hx
      have hi : i < l.length := (List.getElem?_eq_some_iff.mp hx).1
      refine ⟨by rw [List.length_map, List.length_take]; omega, G, W, true, hg, hW, fun B H σ o Q q => q B H (Stp.refl _ _ _) o, fun _ => ⟨f x, he, ?_⟩, fun z => by cases z⟩
      show (l.take (i + 1)).map f = (l.take i).map f ++ [f x]
      rw [List.take_add_one, hx, List.map_append]
      rfl)
  simp only [List.length_map, List.take_length] at h
  exact h
theorem ef_filterE {β : Type} {wi : TI} {g : TG} {tt : TT} {vs : List Nat} {l : List β} {enc : β → D} (hw : WD K P ss cs wi (l.map enc) cs1) (f : β → D) (t : β → Bool) (hz : l.length ≤ 1000000)
    (hs : ∀ (p : Addr) (i : Nat) (x : β) (acc : List D), l[i]? = some x → ∃ G W, GR K (wipeS ss vs) g (enc x) G W ∧ (∀ k ∈ W, k ∈ vs) ∧ EvT K (p :: P) G (acc :: cs1) tt (t x) (acc :: cs1) ∧ (t x = true → Ev K (p :: P) G (acc :: cs1) te (.dat (f x)) (acc :: cs1))) :
    EvF K P ss cs (tLc wi g tt te vs) ((l.filter t).map f) cs1 := by
  have h := ef_lc (tt := tt) (te := te) (g := g) (vs := vs) hw (fun i => ((l.take i).filter t).map f) (fun _ => cs1) rfl rfl (by rw [List.length_map]; exact hz) (fun p i d hp hd => by
    rw [List.getElem?_map] at hd
    cases hx : l[i]? with
    | none => rw [hx] at hd; cases hd
    | some x =>
      rw [hx] at hd
      have e : enc x = d := Option.some.inj hd
      subst e
      obtain ⟨G, W, hg, hW, ht, he⟩ := hs p i x (((l.take i).filter t).map f) hx
      refine ⟨by
        rw [List.length_map]
        refine Nat.le_trans (List.length_filter_le _ _) ?_
        rw [List.length_take]; omega, G, W, t x, hg, hW, ht, fun z => ⟨f x, he z, ?_⟩, fun z => ⟨?_, rfl⟩⟩
      · show ((l.take (i + 1)).filter t).map f = ((l.take i).filter t).map f ++ [f x]
        rw [List.take_add_one, hx, List.filter_append, List.map_append]
        simp [z]
      · show ((l.take (i + 1)).filter t).map f = ((l.take i).filter t).map f
        rw [List.take_add_one, hx, List.filter_append]
        simp [z])
  simp only [List.length_map, List.take_length] at h
  exact h
end

/-! ### append, extend -/
section
variable {P : List Addr} {B0 H0 H : Hp} {ss : List Sl} {cs cs1 : List (List D)} {σ : L2.St} {D : Ends} {te : TE}
theorem Okk.putL {P : List Addr} {ss : List Sl} {cs : List (List DV.D)} {B H : Hp} {σ : L2.St} {j : Nat} {p : Addr} {ws : List V} {es : List DV.D} (o : Okk K P ss cs B H σ) (hP : P[j]? = some p) (hB : B p = none) (hr : RpA K B ws es) :
    Okk K P ss (cs.set j es) B (upd H p (.lst ws)) σ ∧ Stp P B H B (upd H p (.lst ws)) := by
  have hm : p ∈ P := List.mem_of_getElem? hP
  refine ⟨⟨fun b u e => ?_, o.sl, o.mu.put (Ex.refl _) upd_same hr hP (fun x _ hne => upd_ne hne) fun x hx => (o.mu.mem hx).choose_spec.2⟩, ⟨Ex.refl _, fun b u n e => ?_, fun _ _ _ => rfl, fun b u e => ?_⟩⟩
  · rw [upd_ne (fun (z : b = p) => by rw [z, hB] at e; cases e)]
    exact o.ex b u e
  · rw [upd_ne (fun (z : b = p) => n (z ▸ hm))]
    exact e
  · by_cases hb : b = p
    · subst hb; exact ⟨_, upd_same⟩
    · exact ⟨u, by rw [upd_ne hb]; exact e⟩
theorem st_app {i j : Nat} {p : Addr} {ds : List DV.D} {d : DV.D} (h : Sta K P B0 H0 ss cs σ H) (hi : ss[i]? = some (.val (.ref p))) (he : Ev K P ss cs te (.dat d) cs1) (hP : P[j]? = some p) (hc0 : ∃ ds0, cs[j]? = some ds0) (hc : cs1[j]? = some ds)
    (hz : ds.length ≤ 1000000) (k : ∀ H', Sta K P B0 H0 ss (cs1.set j (ds ++ [d])) σ H' → D.nx σ H') : tDrop (tBM K "list" rAppend (tVar i) (tCons te tNil)) D σ H := by
  obtain ⟨B, s, o⟩ := h
  obtain ⟨ds0, hc0⟩ := hc0
  obtain ⟨⟨vs0, hv0, _⟩, _⟩ := o.mu.get hP hc0
  obtain ⟨w, hw, ew⟩ := o.sl.get i _ hi (by intro z; cases z)
  have ew' : w = .ref p := ew
  subst ew'
  refine ⟨.ref p, hw, .inl ⟨rfl, vs0, .inl (.inl hv0)⟩, ?_⟩
  refine he B H σ o _ fun v B1 H1 s1 o1 v1 => ?_
  obtain ⟨⟨vs, hv, rv⟩, hB⟩ := o1.mu.get hP hc
  obtain ⟨o2, s2⟩ := o1.putL hP hB (rv.append (.cons v1 .nil))
  exact ⟨p, vs, v, rfl, rfl, hv, lt_line (by rw [rv.length]; exact hz), k _ ⟨B1, (s.trans s1).trans s2, o2⟩⟩
theorem st_ext {i j : Nat} {p : Addr} {ds es : List DV.D} (h : Sta K P B0 H0 ss cs σ H) (hi : ss[i]? = some (.val (.ref p))) (he : Ev K P ss cs te (.dat (.lst es)) cs1) (hP : P[j]? = some p) (hc0 : ∃ ds0, cs[j]? = some ds0) (hc : cs1[j]? = some ds)
    (hz : ds.length + es.length ≤ 1000000) (k : ∀ H', Sta K P B0 H0 ss (cs1.set j (ds ++ es)) σ H' → D.nx σ H') : tDrop (tBM K "list" rExtend (tVar i) (tCons te tNil)) D σ H := by
  obtain ⟨B, s, o⟩ := h
  obtain ⟨ds0, hc0⟩ := hc0
  obtain ⟨⟨vs0, hv0, _⟩, _⟩ := o.mu.get hP hc0
  obtain ⟨w, hw, ew⟩ := o.sl.get i _ hi (by intro z; cases z)
  have ew' : w = .ref p := ew
  subst ew'
  refine ⟨.ref p, hw, .inl ⟨rfl, vs0, .inl (.inl hv0)⟩, ?_⟩
  refine he B H σ o _ fun v B1 H1 s1 o1 v1 => ?_
  have a' : Rp K B1 v (.lst es) := v1
  cases a' with
  | @lst b xs _ h5 r =>
    obtain ⟨⟨vs, hv, rv⟩, hB⟩ := o1.mu.get hP hc
    obtain ⟨o2, s2⟩ := o1.putL hP hB (rv.append r)
    exact ⟨p, b, vs, xs, rfl, rfl, hv, o1.ex _ _ h5, le_line (by rw [rv.length, r.length]; exact hz), k _ ⟨B1, (s.trans s1).trans s2, o2⟩⟩
/-- xs[k] = e -/
theorem st_setL {i j m : Nat} {p : Addr} {ds : List DV.D} {d : DV.D} {cs2 : List (List DV.D)} {ti : TE} (h : Sta K P B0 H0 ss cs σ H) (hi : ss[i]? = some (.val (.ref p))) (he : Ev K P ss cs te (.dat d) cs1) (hix : Ev K P ss cs1 ti (.dat (.int (m : Nat))) cs2) (hP : P[j]? = some p) (hc : cs2[j]? = some ds)
    (hm : m < ds.length) (k : ∀ H', Sta K P B0 H0 ss (cs2.set j (ds.set m d)) σ H' → D.nx σ H') : tAsg te (gSub (tVar i) ti rSetL) D σ H := by
  obtain ⟨B, s, o⟩ := h
  refine he B H σ o _ fun v B1 H1 s1 o1 v1 => ?_
  obtain ⟨w, hw, ew⟩ := o1.sl.get i _ hi (by intro z; cases z)
  have ew' : w = .ref p := ew
  subst ew'
  refine ⟨.ref p, hw, ?_⟩
  refine hix B1 H1 σ o1 _ fun u B2 H2 s2 o2 u2 => ?_
  have b' : Rp K B2 u (.int (m : Nat)) := u2
  cases b'
  obtain ⟨⟨vs, hv, rv⟩, hB⟩ := o2.mu.get hP hc
  obtain ⟨o3, s3⟩ := o2.putL hP hB (rv.set (v1.mono s2.ex) m)
  refine ⟨p, vs, _, m, rfl, rfl, hv, ?_, k _ ⟨B2, ((s.trans s1).trans s2).trans s3, o3⟩⟩
  unfold ixN
  rw [rv.length, if_pos (by omega), if_pos (by omega)]
  simp
end

/-! ### a list that may change, read -/
section
variable {P : List Addr} {ss : List Sl} {cs cs1 : List (List D)} {te : TE}
theorem ev_ixM {i j : Nat} {p : Addr} {ds : List D} {m : Int} {d : D} (hi : ss[i]? = some (.val (.ref p))) (he : Ev K P ss cs te (.dat (.int m)) cs1) (hP : P[j]? = some p) (hc : cs1[j]? = some ds) (hm : atI ds m = some d) :
    Ev K P ss cs (tOp (rIx K) (tVar i) te) (.dat d) cs1 := fun B H σ o Q q => by
  obtain ⟨w, hw, ew⟩ := o.sl.get i _ hi (by intro z; cases z)
  have ew' : w = .ref p := ew
  subst ew'
  refine ⟨.ref p, hw, he B H σ o _ fun u B2 H2 s2 o2 u2 => ?_⟩
  have b' : Rp K B2 u (.int m) := u2
  cases b'
  obtain ⟨⟨vs, hv, rv⟩, hB⟩ := o2.mu.get hP hc
  obtain ⟨v, h1, h2⟩ := rv.atI hm
  exact .inl ⟨p, vs, m, v, rfl, rfl, .inl (.inl hv), h1, q v B2 H2 s2 o2 h2⟩
theorem ev_lenM {i j : Nat} {p : Addr} {ds : List D} (hi : ss[i]? = some (.val (.ref p))) (hP : P[j]? = some p) (hc : cs[j]? = some ds) : Ev K P ss cs (tCB (rLen1 K) (tCons (tVar i) tNil)) (.dat (.int (ds.length : Int))) cs := fun B H σ o Q q => by
  obtain ⟨w, hw, ew⟩ := o.sl.get i _ hi (by intro z; cases z)
  have ew' : w = .ref p := ew
  subst ew'
  obtain ⟨⟨vs, hv, rv⟩, hB⟩ := o.mu.get hP hc
  exact ⟨.ref p, hw, .ref p, ds.length, rfl, .inl ⟨vs, .inl (.inl hv), rv.length.symm⟩, q _ B H (Stp.refl _ _ _) o (.int _)⟩
end

/-! ### fields, methods of texts, dicts, f-strings, truth -/
section
variable {P : List Addr} {ss : List Sl} {cs cs1 cs2 : List (List D)} {te tk : TE}
theorem ev_fld {C : Addr} {fs : List (Str × D)} {f : Str} {d : D} (h : Ev K P ss cs te (.dat (.obj C fs)) cs1) (hc : Cls K C) (hn : NoAttr K C f) (hl : fs.lookup f = some d) : Ev K P ss cs (tFld K te f) (.dat d) cs1 := fun B H σ o Q q =>
  h B H σ o _ fun v B1 H1 s1 o1 v1 => by
    have a' : Rp K B1 v (.obj C fs) := v1
    cases a' with
    | obj h5 r =>
      obtain ⟨w, h1, h2⟩ := r.lookup hl
      exact ⟨_, C, _, _, w, rfl, o1.ex _ _ h5, hc, hn, h1, q w B1 H1 s1 o1 h2⟩
theorem ev_m0 {rr : V → List V → Hp → VK → Prop} {a : Str} {d : D} (h : Ev K P ss cs te (.dat (.str a)) cs1) (hr : ∀ H (Q : VK), (∀ v, Rp K (fun _ => none) v d → Q v H) → rr (.str a) [] H Q) (hd : d.flat = true := by rfl) : Ev K P ss cs (tM0 rr te) (.dat d) cs1 := fun B H σ o Q q =>
  h B H σ o _ fun v B1 H1 s1 o1 v1 => by
    have a' : Rp K B1 v (.str a) := v1
    cases a'
    exact ⟨⟨a, rfl⟩, hr H1 Q fun w hw => q w B1 H1 s1 o1 (hw.flatAny hd)⟩
/-- x.split(sep) -/
theorem ev_split {a b : Str} (h : Ev K P ss cs te (.dat (.str a)) cs1) (hk : Ev K P ss cs1 tk (.dat (.str b)) cs2) (hb : (b.length == 0) = false) (ha : a.length + 2 ≤ 1000000) :
    EvF K P ss cs (tM1 (fun x xs H Q => ∃ a b, x = .str a ∧ xs = [.str b] ∧ (b.length == 0) = false ∧ a.length + 2 ≤ sizeLine ∧ rNewStrs (Txt.split a b) H Q) te tk) ((Txt.split a b).map D.str) cs2 := fun B H σ o Q q =>
  h B H σ o _ fun v B1 H1 s1 o1 v1 => by
    have a' : Rp K B1 v (.str a) := v1
    cases a'
    refine ⟨⟨a, rfl⟩, hk B1 H1 σ o1 _ fun u B2 H2 s2 o2 u2 => ?_⟩
    have b' : Rp K B2 u (.str b) := u2
    cases b'
    refine ⟨a, b, rfl, rfl, hb, le_line ha, fun p hp => ?_⟩
    have s12 := s1.trans s2
    have hp0 : H p = none := by
      cases e : H p with
      | none => rfl
      | some u => obtain ⟨u', h'⟩ := s12.dm p u e; rw [hp] at h'; cases h'
    have hpP : p ∉ P := fun z => by obtain ⟨u, h1, _⟩ := o2.mu.mem z; rw [hp] at h1; cases h1
    refine q p _ B2 _ hp0 (s12.trans ⟨Ex.refl _, fun b u _ e => Ex.new hp b u e, fun _ _ _ => rfl, fun b u e => ⟨u, Ex.new hp b u e⟩⟩) ⟨fun b u e => Ex.new hp b u (o2.ex b u e), o2.sl, o2.mu.keep (Ex.refl _) (fun x hx => upd_ne fun (z : x = p) => hpP (z ▸ hx)) fun x hx => (o2.mu.mem hx).choose_spec.2⟩ upd_same (o2.ex.free hp) RpA.ofStrs
theorem ev_join {a : Str} {ys : List Str} (h : Ev K P ss cs te (.dat (.str a)) cs1) (hk : Ev K P ss cs1 tk (.dat (.lst (ys.map D.str))) cs2) (hz : (ys.map (·.length)).sum + ys.length * a.length ≤ 1000000) :
    Ev K P ss cs (tM1 (fun x xs H Q => ∃ a p, ∃ ys : List Str, x = .str a ∧ xs = [.ref p] ∧ (SqL K H p (ys.map V.str) ∨ SqT K H p (ys.map V.str)) ∧ (ys.map (·.length)).sum + ys.length * a.length ≤ 16777216 ∧ Q (.str (Txt.join a ys)) H) te tk) (.dat (.str (Txt.join a ys))) cs2 := fun B H σ o Q q =>
  h B H σ o _ fun v B1 H1 s1 o1 v1 => by
    have a' : Rp K B1 v (.str a) := v1
    cases a'
    refine ⟨⟨a, rfl⟩, hk B1 H1 σ o1 _ fun u B2 H2 s2 o2 u2 => ?_⟩
    have b' : Rp K B2 u (.lst (ys.map D.str)) := u2
    cases b' with
    | lst h5 r =>
      have z := RpA.strs r
      subst z
      exact ⟨a, _, ys, rfl, rfl, .inl (.inl (.inl (o2.ex _ _ h5))), by omega, q _ B2 H2 (s1.trans s2) o2 (.str _)⟩
def valD (ks : List (Key × D)) (k : Key) : Option D := (ks.find? fun kv => decide (kv.1 = k)).map (·.2)
theorem RpK.val {B : Hp} {k : Key} : ∀ {vs : List (Key × V)} {ds : List (Key × D)} {d : D}, RpK K B vs ds → valD ds k = some d → ∃ v, valV vs k = some v ∧ Rp K B v d
  | _, _, _, .nil, e => by simp [valD] at e
  | _, _ :: ds, d, .cons (k := k') h r, e => by
    by_cases hk : k' = k
    · subst hk
      simp [valD] at e
      subst e
      exact ⟨_, by simp [valV], h⟩
    · have e' : valD ds k = some d := by simpa [valD, List.find?_cons, hk] using e
      obtain ⟨v, h1, h2⟩ := RpK.val r e'
      exact ⟨v, by simpa [valV, List.find?_cons, hk] using h1, h2⟩
theorem ev_dgetS {ks : List (Key × D)} {s : Str} {d : D} (h : Ev K P ss cs te (.dat (.dic ks)) cs1) (hk : Ev K P ss cs1 tk (.dat (.str s)) cs2) (hv : valD ks (.inr s) = some d) : Ev K P ss cs (tDGet te tk) (.dat d) cs2 := fun B H σ o Q q =>
  h B H σ o _ fun v B1 H1 s1 o1 v1 => hk B1 H1 σ o1 _ fun u B2 H2 s2 o2 u2 => by
    have a' : Rp K B2 v (.dic ks) := Rp.mono s2.ex v1
    have b' : Rp K B2 u (.str s) := u2
    cases b'
    cases a' with
    | @dic a kvs _ h5 r =>
      obtain ⟨w, h1, h2⟩ := r.val hv
      exact ⟨_, w, rfl, .inl ⟨kvs, .inr s, .inl (o2.ex _ _ h5), rfl, h1.symm⟩, q w B2 H2 (s1.trans s2) o2 h2⟩
/-- f-strings -/
def EvJ (K : PySem.W.Frag) (P : List Addr) (ss : List Sl) (cs : List (List D)) (ts : List TE) (acc out : Str) : Prop :=
  ∀ B H σ, Okk K P ss cs B H σ → ∀ Q : Str → Hp → Prop, (∀ B' H', Stp P B H B' H' → Okk K P ss cs B' H' σ → Q out H') → tJs ts acc σ H Q
theorem ej_nil {acc : Str} : EvJ K P ss cs [] acc acc := fun B H σ o Q q => q B H (Stp.refl _ _ _) o
theorem ej_cons {ts : List TE} {acc y out : Str} (h : Ev K P ss cs te (.dat (.str y)) cs) (hz : (acc ++ y).length ≤ 1000000) (hr : EvJ K P ss cs ts (acc ++ y) out) : EvJ K P ss cs (te :: ts) acc out := fun B H σ o Q q =>
  h B H σ o _ fun v B1 H1 s1 o1 v1 => by
    have a' : Rp K B1 v (.str y) := v1
    cases a'
    exact ⟨y, rfl, le_line hz, hr B1 H1 σ o1 Q fun B2 H2 s2 o2 => q B2 H2 (s1.trans s2) o2⟩
theorem ev_joined {ts : List TE} {out : Str} (h : EvJ K P ss cs ts Str.empty out) : Ev K P ss cs (fun σ H Q => tJs ts Str.empty σ H fun out H1 => Q (.str out) H1) (.dat (.str out)) cs := fun B H σ o Q q =>
  h B H σ o _ fun B1 H1 s1 o1 => q _ B1 H1 s1 o1 (Rp.str out)
theorem ev_fmt {y : Str} (h : Ev K P ss cs te (.dat (.str y)) cs1) (hz : y.length ≤ 1000000) : Ev K P ss cs (tFmt te) (.dat (.str y)) cs1 := fun B H σ o Q q =>
  h B H σ o _ fun v B1 H1 s1 o1 v1 => by
    have a' : Rp K B1 v (.str y) := v1
    cases a'
    exact .inl ⟨y, rfl, le_line hz, q _ B1 H1 s1 o1 (Rp.str y)⟩
theorem et_truL {ds : List D} (h : Ev K P ss cs te (.dat (.lst ds)) cs1) : EvT K P ss cs (fun σ H Q => te σ H fun x H' => ∃ k, TruV K x H' k ∧ Q k H') (!ds.isEmpty) cs1 := fun B H σ o Q q =>
  h B H σ o _ fun v B1 H1 s1 o1 v1 => by
    have a' : Rp K B1 v (.lst ds) := v1
    cases a' with
    | @lst a xs _ h5 r =>
      refine ⟨!ds.isEmpty, .inl ⟨xs, .inl (.inl (o1.ex _ _ h5)), ?_⟩, q B1 H1 s1 o1⟩
      cases r <;> rfl
/-- a < b < c over ints -/
theorem ev_chain {p p' : Int → Int → Bool} {i j k : Int} {ta tb tc : TE} {cs3 : List (List D)} (ha : Ev K P ss cs ta (.dat (.int i)) cs) (hb : Ev K P ss cs tb (.dat (.int j)) cs) (hc : p i j = true → Ev K P ss cs tc (.dat (.int k)) cs) :
    Ev K P ss cs (tChain (rI0 fun i j => .bl (p i j)) (rI0 fun i j => .bl (p' i j)) ta tb tc) (.dat (.bl (p i j && p' j k))) cs := fun B H σ o Q q =>
  ha B H σ o _ fun x B1 H1 s1 o1 x1 => hb B1 H1 σ o1 _ fun y B2 H2 s2 o2 y2 => by
    have a' : Rp K B1 x (.int i) := x1
    have b' : Rp K B2 y (.int j) := y2
    cases a'; cases b'
    refine ⟨i, j, rfl, rfl, p i j, rfl, ?_⟩
    cases hp : p i j with
    | false =>
      rw [hp] at q
      rw [if_neg Bool.false_ne_true]
      exact q _ B2 H2 (s1.trans s2) o2 (Rp.bl _)
    | true =>
      rw [hp] at q
      rw [if_pos rfl]
      refine hc hp B2 H2 σ o2 _ fun z B3 H3 s3 o3 z3 => ?_
      have c' : Rp K B3 z (.int k) := z3
      cases c'
      exact ⟨j, k, rfl, rfl, q _ B3 H3 ((s1.trans s2).trans s3) o3 (Rp.bl _)⟩
end

/-! ### a def's body -/
theorem sta_start {B H : Hp} {vs : List V} {rs : List Sl} {P : List Addr} {cs : List (List D)} {N : List Str} (e : Ex B H) (r : RSs K B vs rs) (m : Mu K B H P cs) : Sta K P B H (rs ++ List.replicate (N.length - rs.length) .any) cs (L2.start N vs) H := by
  refine ⟨B, Stp.refl _ _ _, e, ⟨?_, fun i q hq hn => ?_⟩, m⟩
  · unfold L2.start
    rw [List.length_append, List.length_append, List.length_map, List.length_replicate, List.length_replicate, r.length]
  · by_cases hi : i < rs.length
    · rw [List.getElem?_append_left hi] at hq
      have hv : i < vs.length := by rw [r.length]; exact hi
      have gen : ∀ (vs : List V) (rs : List Sl) (i : Nat), RSs K B vs rs → rs[i]? = some q → ∃ v, vs[i]? = some v ∧ RS K B v q := by
        intro vs
        induction vs with
        | nil => intro rs i h hq; cases rs with | nil => simp at hq | cons _ _ => exact h.elim
        | cons v vs ih =>
          intro rs i h hq
          cases rs with
          | nil => exact h.elim
          | cons r rs =>
            cases i with
            | zero => simp at hq; subst hq; exact ⟨v, rfl, h.1⟩
            | succ i => exact ih rs i h.2 (by simpa using hq)
      obtain ⟨v, h1, h2⟩ := gen vs rs i r hq
      refine ⟨v, ?_, h2⟩
      unfold L2.start
      rw [List.getElem?_append_left (by rw [List.length_map]; exact hv), List.getElem?_map, h1]
      rfl
    · rw [List.getElem?_append_right (by omega)] at hq
      rw [List.getElem?_replicate] at hq
      split at hq
      · exact absurd (Option.some.inj hq).symm hn
      · cases hq
end DV
/-! DV4: defs by their relation. -/
namespace DV
open PySem L2
/-- a def of the module, and what it promises -/
structure Def (P : Program) (w : World) (K : PySem.W.Frag) (mg : Str → Option Value) (base : Heap) (k : Nat) (x : Str) (f : Addr) (fd : FuncData) (ps : List Str) (sp : Sp) : Prop where
  ok : FnOk P w K mg base CX0 k f fd ps sp
  g : mg x = some (.ref f)
  kp : PySem.W.keepIn K (.ref f) = true
  b : Binds K fd ps []
theorem pe_def {X : Cx} {k j : Nat} {x : Str} {f : Addr} {fd : FuncData} {ps : List Str} {sp : Sp} {p pos : Pos} {e : Expr} {es : List Expr} {t : TA} (d : Def X.prog X.w X.K X.mg X.base k x f fd ps sp) (hr : Room j X.A) (hk : k ≤ j) (hg : Gl X x) (ha : PA X (e :: es) t)
    (hdb : (x == ("__debug__" : Str)) = false := by decide) (he : starEach (e :: es) X.env = (false, eval e X.env) :: starEach es X.env := by rfl) (hpl : (backTo pos (starEach es X.env)).any (·.1) = false := by rfl) :
    PE X (.Call (.Name x p) (e :: es) [] pos) (tCall sp [] E0 t) := pe_call d.ok (hr.mono hk) hg d.g d.kp d.b .nil pass0 ha hdb he hpl
/-- a def's body, by the slots' data -/
theorem spM_len {pre : Pre} {n : Nat} {K : PySem.W.Frag} (h : ∀ rs P cs r cs', pre rs P cs r cs' → rs.length = n) : ∀ vs H Q E, spM K pre vs H Q E → vs.length = n := fun vs H Q E z => by
  obtain ⟨B, rs, P, cs, r, cs', hp, _, hr, _⟩ := z
  rw [hr.length]
  exact h _ _ _ _ _ hp
theorem ok_body {P : Program} {w : World} {K : PySem.W.Frag} {mg : Str → Option Value} {base : Heap} {x qual : Str} {st : Stmt} {f : Addr} {fd : FuncData} {N ps : List Str} {k : Nat} {pre : Pre} (F : Fun K x qual st f fd) (S : FnScope N ps (defScope st))
    (len : ∀ rs P cs r cs', pre rs P cs r cs' → rs.length = ps.length)
    (hb : ∀ X : Cx, ∀ (hX : ∃ (cdv : Value) (A : Around) (outer : List Env) (s : Shared) (H : Hp) (E : XK), X = (cxOf CX0 P w K mg base N qual (defScope st) f cdv A outer s H E).nox), Room k X.A → ∃ t, PSs X (defBody st) t ∧
      ∀ rs Pl cs r cs', pre rs Pl cs r cs' → ∀ B0 H0 σ (D : Ends), Sta K Pl B0 H0 (rs ++ List.replicate (N.length - rs.length) .any) cs σ H0 → (∀ p ∈ Pl, ∃ o, H0 p = some o) → Done K Pl B0 H0 r cs' D.rt → (r = .dat .non → ∀ ss σ' H', Sta K Pl B0 H0 ss cs' σ' H' → D.nx σ' H') → t D σ H0) :
    FnOk P w K mg base CX0 (k + 1) f fd ps (spM K pre) := by
  refine F.ok S (spM_len len) (fun cdv A outer s H vs Q E hr h => ?_)
  obtain ⟨t, h1, h2⟩ := hb _ ⟨cdv, A, outer, s, H, E, rfl⟩ hr
  obtain ⟨B, rs, Pl, cs, r, cs', hp, e, hrs, mu, q⟩ := h
  refine ⟨t, h1, h2 rs Pl cs r cs' hp B H _ _ (sta_start e hrs mu) (fun p hm => (mu.mem hm).imp fun _ z => z.1) q (fun hr' ss' σ' H' st => ?_)⟩
  obtain ⟨B', s', o'⟩ := st
  subst hr'
  exact q .non B' H' s' o'.ex o'.mu .non
theorem st_next {D : Ends} {σ : L2.St} {H : Hp} (h : D.nx σ H) : tNext D σ H := h
theorem st_seq {D : Ends} {t u : TS} {σ : L2.St} {H : Hp} (h : t { D with nx := u D } σ H) : tSeq t u D σ H := h
theorem st_ns {D : Ends} {t u : TS} {σ : L2.St} {H : Hp} (h : t { D with nx := u D } σ H) : tNext { D with nx := tSeq t u D } σ H := h
theorem for_of {wi : TI} {g : TG} {tb : TS} {D : Ends} {σ : L2.St} {H : Hp} (h : wi σ H fun J H1 => ∃ W : Nat → Nat → L2.St → Hp → Prop, (∃ m, W 0 m σ H1) ∧ ∀ i m σ H, W i m σ H →
    (J.stop i H ∧ D.nx σ H) ∨ (J.go i H ∧ ∃ N : L2.St → Hp → Prop, (∀ σ' H', N σ' H' → ∃ m', m' < m ∧ W (i + 1) m' σ' H') ∧ ∀ x H', J.yld i H x H' → g x σ H' fun σ2 H2 => tb { D with nx := N, ct := N, bk := D.nx } σ2 H2)) : tFor wi g tb D σ H := h
theorem st_raw0 {D : Ends} {i : Nat} {σ : L2.St} {H : Hp} (k : ∀ p, H p = none → D.nx (σ.set i (some (.ref p))) (upd H p (.lst []))) : tAsg (tLst tNil) (gName i) D σ H := ⟨Nat.zero_le _, fun p hp => k p hp⟩
end DV
/-! PM: texts of schemas, in plain Lean. -/
namespace PM
open PySem L2
abbrev Col := Str × Option Str
abbrev Tab := Str × List Col

/-! ### signs -/
abbrev nl : Str := "\n"
abbrev sp : Str := " "
theorem nl_is : nl = ⟨#[10]⟩ := by decide +kernel
theorem sp_is : sp = ⟨#[32]⟩ := by decide +kernel
def free (c : Nat) (x : Str) : Prop := c ∉ x.cps.toList
instance (c : Nat) (x : Str) : Decidable (free c x) := inferInstanceAs (Decidable (¬ c ∈ x.cps.toList))
def fineB (w : Str) : Bool := decide (1 ≤ w.length) && decide (w.length ≤ 8) && w.cps.toList.all fun c => decide (97 ≤ c) && decide (c ≤ 122)

/-! ### joining and splitting -/
theorem join_nil (c : Str) : Txt.join c [] = Str.empty := rfl
theorem join_one (c x : Str) : Txt.join c [x] = x := rfl
theorem join_cons (c x y : Str) (r : List Str) : Txt.join c (x :: y :: r) = x ++ c ++ Txt.join c (y :: r) := by
  show Builtin.Str.glued c (x :: y :: r) = x ++ c ++ Builtin.Str.glued c (y :: r)
  rw [StrLaws.glued_eq_join, StrLaws.glued_eq_join]
  rfl
theorem lst_eq {a b : Str} (h : a.cps.toList = b.cps.toList) : a = b := Str.ext' (Array.toList_inj.mp h)
theorem app_list (a b : Str) : (a ++ b).cps.toList = a.cps.toList ++ b.cps.toList := by rw [Str.cps_append, Array.toList_append]
/-- what stands between two cuts is told -/
theorem cut_uniq {α : Type} [DecidableEq α] (c : α) : ∀ {a a' b b' : List α}, c ∉ a → c ∉ a' → a ++ c :: b = a' ++ c :: b' → a = a' ∧ b = b'
  | [], [], b, b', _, _, h => ⟨rfl, by simpa using h⟩
  | [], x :: a', _, _, _, h', h => by
    have e : c = x := by simpa using (List.cons.inj h).1
    exact absurd (by rw [e]; exact List.mem_cons_self) h'
  | x :: a, [], _, _, h', _, h => by
    have e : x = c := by simpa using (List.cons.inj h).1
    exact absurd (by rw [e]; exact List.mem_cons_self) h'
  | x :: a, y :: a', b, b', h1, h2, h => by
    obtain ⟨e1, e2⟩ := List.cons.inj h
    obtain ⟨e3, e4⟩ := cut_uniq c (fun z => h1 (List.mem_cons_of_mem _ z)) (fun z => h2 (List.mem_cons_of_mem _ z)) e2
    exact ⟨by rw [e1, e3], e4⟩
theorem join_list (k : Nat) (x y : Str) (r : List Str) : (Txt.join ⟨#[k]⟩ (x :: y :: r)).cps.toList = x.cps.toList ++ k :: (Txt.join ⟨#[k]⟩ (y :: r)).cps.toList := by
  rw [join_cons, app_list, app_list]
  simp
theorem free_join (k : Nat) : ∀ {ls : List Str} {x : Str}, x.cps.toList = (Txt.join ⟨#[k]⟩ ls).cps.toList → free k x → (∀ l ∈ ls, free k l) → ls.length ≤ 1
  | [], _, _, _, _ => Nat.zero_le _
  | [_], _, _, _, _ => Nat.le_refl _
  | y :: z :: r, x, h, hx, _ => by
    rw [join_list] at h
    exact absurd (by rw [h]; simp) hx
theorem join_inj (k : Nat) : ∀ {ls ms : List Str}, ls ≠ [] → ms ≠ [] → (∀ l ∈ ls, free k l) → (∀ l ∈ ms, free k l) → Txt.join ⟨#[k]⟩ ls = Txt.join ⟨#[k]⟩ ms → ls = ms
  | [], _, h, _, _, _, _ => absurd rfl h
  | _, [], _, h, _, _, _ => absurd rfl h
  | [x], [y], _, _, _, _, h => by
    have e : x = y := h
    rw [e]
  | [x], y :: z :: r, _, _, hx, _, h => by
    have e : x.cps.toList = (Txt.join ⟨#[k]⟩ (y :: z :: r)).cps.toList := by rw [← h]; rfl
    rw [join_list] at e
    exact absurd (by rw [e]; simp) (hx x List.mem_cons_self)
  | x :: w :: r, [y], _, _, _, hy, h => by
    have e : y.cps.toList = (Txt.join ⟨#[k]⟩ (x :: w :: r)).cps.toList := by rw [h]; rfl
    rw [join_list] at e
    exact absurd (by rw [e]; simp) (hy y List.mem_cons_self)
  | x :: w :: r, y :: z :: r', _, _, hx, hy, h => by
    have e : (Txt.join ⟨#[k]⟩ (x :: w :: r)).cps.toList = (Txt.join ⟨#[k]⟩ (y :: z :: r')).cps.toList := by rw [h]
    rw [join_list, join_list] at e
    obtain ⟨e1, e2⟩ := cut_uniq k (hx x List.mem_cons_self) (hy y List.mem_cons_self) e
    have i := join_inj k (List.cons_ne_nil w r) (List.cons_ne_nil z r') (fun l hl => hx l (List.mem_cons_of_mem _ hl)) (fun l hl => hy l (List.mem_cons_of_mem _ hl)) (lst_eq e2)
    rw [lst_eq e1, i]
theorem split_join (k : Nat) {ls : List Str} (h : ls ≠ []) (hf : ∀ l ∈ ls, free k l) : Txt.split (Txt.join ⟨#[k]⟩ ls) ⟨#[k]⟩ = ls := by
  refine join_inj k (fun z => ?_) h (StrLaws.split_free _ k) hf (by
    have e := StrLaws.join_split (Txt.join ⟨#[k]⟩ ls) ⟨#[k]⟩
    rw [← StrLaws.glued_eq_join] at e
    exact e)
  have := PyProof.Rows.split_pos (Txt.join ⟨#[k]⟩ ls) ⟨#[k]⟩
  rw [z] at this
  exact absurd this (by decide)

/-! ### names -/
def isName (w : Str) : Bool := decide ((w.length : Int) ≤ 8) && (Txt.isascii w && (Txt.isalpha w && Txt.islower w))
theorem low_alpha : ∀ c : Fin 128, (97 ≤ c.val ∧ c.val ≤ 122) → Unicode.isAlpha c.val = true ∧ Unicode.isLower c.val = true ∧ Unicode.isUpper c.val = false ∧ Unicode.isTitle c.val = false := by decide +kernel
theorem alpha_low : ∀ c : Fin 128, Unicode.isAlpha c.val = true → Unicode.isUpper c.val = false → (97 ≤ c.val ∧ c.val ≤ 122) := by decide +kernel
theorem fine_sign {w : Str} (h : fineB w = true) : ∀ c ∈ w.cps.toList, 97 ≤ c ∧ c ≤ 122 := by
  unfold fineB at h
  simp only [Bool.and_eq_true, List.all_eq_true, decide_eq_true_eq] at h
  exact h.2
theorem fine_len {w : Str} (h : fineB w = true) : 1 ≤ w.length ∧ w.length ≤ 8 := by
  unfold fineB at h
  simp only [Bool.and_eq_true, decide_eq_true_eq] at h
  exact h.1
theorem all_list (a : Array Nat) (p : Nat → Bool) : a.all p = a.toList.all p := by rw [Array.all_toList]
theorem any_list (a : Array Nat) (p : Nat → Bool) : a.any p = a.toList.any p := by rw [Array.any_toList]
theorem isName_fine {w : Str} (h : fineB w = true) : isName w = true := by
  have hs := fine_sign h
  obtain ⟨h1, h2⟩ := fine_len h
  have hc : ∀ c ∈ w.cps.toList, Unicode.isAlpha c = true ∧ Unicode.isLower c = true ∧ Unicode.isUpper c = false ∧ Unicode.isTitle c = false := fun c hc => low_alpha ⟨c, by have := hs c hc; omega⟩ (hs c hc)
  unfold isName Txt.isascii Txt.isalpha Txt.islower
  rw [all_list, all_list, any_list, any_list]
  have e1 : (w.cps.toList.all fun x => decide (x < 128)) = true := List.all_eq_true.mpr fun c hc' => decide_eq_true (by have := hs c hc'; omega)
  have e2 : (w.cps.toList.all Unicode.isAlpha) = true := List.all_eq_true.mpr fun c hc' => (hc c hc').1
  have e3 : (w.cps.toList.any Unicode.isLower) = true := by
    have hl : 0 < w.cps.toList.length := h1
    exact List.any_eq_true.mpr ⟨w.cps.toList[0], List.getElem_mem hl, (hc _ (List.getElem_mem hl)).2.1⟩
  have e4 : (w.cps.toList.any fun c => Unicode.isUpper c || Unicode.isTitle c) = false := by
    rw [List.any_eq_false]
    intro c hc'
    rw [(hc c hc').2.2.1, (hc c hc').2.2.2]
    decide
  rw [e1, e2, e3, e4]
  have e5 : decide ((w.length : Int) ≤ 8) = true := decide_eq_true (by omega)
  have e6 : decide (w.length > 0) = true := decide_eq_true (by omega)
  rw [e5, e6]
  rfl
theorem fine_free {w : Str} (h : fineB w = true) {k : Nat} (hk : k < 97) : free k w := fun z => by
  have := fine_sign h k z
  omega
theorem fine_ok {w : Str} (h : fineB w = true) : PyData.strOk w = true := by
  unfold PyData.strOk
  rw [all_list]
  exact List.all_eq_true.mpr fun c hc => decide_eq_true (by have := fine_sign h c hc; omega)

/-! ### reading rows of words -/
def refsN (cs : List Col) : Nat := (cs.filter fun c => c.2.isSome).length
def sumRefs (T : List Tab) : Nat := (T.map fun t => refsN t.2).sum
def isNew (w : Str) (ns : List Str) : Bool := isName w && !decide (w ∈ ns)
def beginsT (T : List Tab) (ws : List Str) : Bool := match ws with
  | [a, b] => decide (a = "table") && (decide ((T.length : Int) < 3) && isNew b (T.map Prod.fst))
  | _ => false
def addsP (T : List Tab) (ws : List Str) : Bool := match ws, T.getLast? with
  | [a, b, c, d], some t => decide ([a, b, c] = (["", "", "plain"] : List Str)) && (!(decide (0 < (refsN t.2 : Int)) || decide ((t.2.length : Int) = 2)) && isNew d (t.2.map Prod.fst))
  | _, _ => false
def addsR (T : List Tab) (ws : List Str) : Bool := match ws, T.getLast? with
  | [a, b, c, d, e], some t => decide ([a, b, c] = (["", "", "ref"] : List Str)) && (!decide ((refsN t.2 : Int) = 2) && (!decide ((sumRefs T : Int) = 3) && (isNew d (t.2.map Prod.fst) && decide (e ∈ T.dropLast.map Prod.fst))))
  | _, _ => false
def addCol (T : List Tab) (c : Col) : List Tab := match T.getLast? with
  | some t => T.dropLast ++ [(t.1, t.2 ++ [c])]
  | none => T
def step (T : List Tab) (ws : List Str) : Option (List Tab) :=
  if beginsT T ws then some (T ++ [(ws.getD 1 "", [])]) else if addsP T ws then some (addCol T (ws.getD 3 "", none)) else if addsR T ws then some (addCol T (ws.getD 3 "", some (ws.getD 4 ""))) else none
def readFrom (T : List Tab) : List (List Str) → Option (List Tab)
  | [] => some T
  | ws :: r => (step T ws).bind fun T' => readFrom T' r
theorem readFrom_append : ∀ (T : List Tab) (a b : List (List Str)), readFrom T (a ++ b) = (readFrom T a).bind fun T' => readFrom T' b
  | T, [], b => rfl
  | T, ws :: a, b => by
    show (step T ws).bind (fun T' => readFrom T' (a ++ b)) = ((step T ws).bind fun T' => readFrom T' a).bind fun T' => readFrom T' b
    cases e : step T ws with
    | none => rfl
    | some T' => exact readFrom_append T' a b
def colWords : Col → List Str
  | (n, none) => ["", "", "plain", n]
  | (n, some t) => ["", "", "ref", n, t]
def tabWords (t : Tab) : List (List Str) := ["table", t.1] :: t.2.map colWords
def words (T : List Tab) : List (List Str) := T.flatMap tabWords
def rowOf (ws : List Str) : Str := Txt.join sp ws
def textOf (T : List Tab) : Str := Txt.join nl ((words T).map rowOf)
theorem last_snoc (T : List Tab) (t : Tab) : (T ++ [t]).getLast? = some t := by simp
theorem drop_snoc (T : List Tab) (t : Tab) : (T ++ [t]).dropLast = T := by simp
/-- the next column may stand there -/
def okCol (T : List Tab) (done : List Col) : Col → Prop
  | (m, none) => refsN done = 0 ∧ done.length < 2 ∧ fineB m = true ∧ m ∉ done.map Prod.fst
  | (m, some e) => refsN done < 2 ∧ sumRefs T + refsN done < 3 ∧ fineB m = true ∧ m ∉ done.map Prod.fst ∧ e ∈ T.map Prod.fst
def okCols (T : List Tab) (done : List Col) : List Col → Prop
  | [] => True
  | c :: r => okCol T done c ∧ okCols T (done ++ [c]) r
theorem sumRefs_snoc (T : List Tab) (n : Str) (cs : List Col) : sumRefs (T ++ [(n, cs)]) = sumRefs T + refsN cs := by simp [sumRefs]
theorem step_col (T : List Tab) (n : Str) (done : List Col) (c : Col) (h : okCol T done c) : step (T ++ [(n, done)]) (colWords c) = some (T ++ [(n, done ++ [c])]) := by
  obtain ⟨m, e⟩ := c
  cases e with
  | none =>
    obtain ⟨h1, h2, h3, h4⟩ := h
    have ha : addsP (T ++ [(n, done)]) ["", "", "plain", m] = true := by
      unfold addsP
      rw [last_snoc]
      simp only [isNew, isName_fine h3, decide_eq_false h4, h1]
      have e2 : decide ((done.length : Int) = 2) = false := decide_eq_false (by omega)
      rw [e2]
      decide
    unfold step
    have hb : beginsT (T ++ [(n, done)]) (colWords (m, none)) = false := rfl
    rw [hb, show addsP (T ++ [(n, done)]) (colWords (m, none)) = true from ha]
    simp only [Bool.false_eq_true, if_false, if_true]
    unfold addCol
    rw [last_snoc, drop_snoc]
    rfl
  | some e =>
    obtain ⟨h1, h2, h3, h4, h5⟩ := h
    have ha : addsR (T ++ [(n, done)]) ["", "", "ref", m, e] = true := by
      unfold addsR
      rw [last_snoc, drop_snoc, sumRefs_snoc]
      simp only [isNew, isName_fine h3, decide_eq_false h4, decide_eq_true h5]
      have e2 : decide ((refsN done : Int) = 2) = false := decide_eq_false (by omega)
      have e3 : decide (((sumRefs T + refsN done : Nat) : Int) = 3) = false := decide_eq_false (by omega)
      rw [e2, e3]
      decide
    unfold step
    have hb : beginsT (T ++ [(n, done)]) (colWords (m, some e)) = false := rfl
    have hp : addsP (T ++ [(n, done)]) (colWords (m, some e)) = false := rfl
    rw [hb, hp, show addsR (T ++ [(n, done)]) (colWords (m, some e)) = true from ha]
    simp only [Bool.false_eq_true, if_false, if_true]
    unfold addCol
    rw [last_snoc, drop_snoc]
    rfl
theorem read_cols (T : List Tab) (n : Str) : ∀ (rest done : List Col), okCols T done rest → readFrom (T ++ [(n, done)]) (rest.map colWords) = some (T ++ [(n, done ++ rest)])
  | [], done, _ => by simp [readFrom]
  | c :: r, done, h => by
    show (step (T ++ [(n, done)]) (colWords c)).bind (fun T' => readFrom T' (r.map colWords)) = _
    rw [step_col T n done c h.1]
    have := read_cols T n r (done ++ [c]) h.2
    rw [List.append_assoc] at this
    exact this
def okTab (T : List Tab) (t : Tab) : Prop := fineB t.1 = true ∧ t.1 ∉ T.map Prod.fst ∧ T.length < 3 ∧ okCols T [] t.2
theorem read_tab (T : List Tab) (t : Tab) (h : okTab T t) : readFrom T (tabWords t) = some (T ++ [t]) := by
  obtain ⟨h1, h2, h3, h4⟩ := h
  have hb : beginsT T ["table", t.1] = true := by
    unfold beginsT
    simp only [isNew, isName_fine h1, decide_eq_false h2]
    have e2 : decide ((T.length : Int) < 3) = true := decide_eq_true (by omega)
    rw [e2]
    decide
  show (step T ["table", t.1]).bind (fun T' => readFrom T' (t.2.map colWords)) = _
  unfold step
  rw [if_pos hb]
  exact read_cols T t.1 t.2 [] h4
def okTabs (T : List Tab) : List Tab → Prop
  | [] => True
  | t :: r => okTab T t ∧ okTabs (T ++ [t]) r
theorem read_tabs : ∀ (r T : List Tab), okTabs T r → readFrom T (words r) = some (T ++ r)
  | [], T, _ => by simp [words, readFrom]
  | t :: r, T, h => by
    show readFrom T (tabWords t ++ words r) = _
    rw [readFrom_append, read_tab T t h.1]
    have := read_tabs r (T ++ [t]) h.2
    rw [List.append_assoc] at this
    exact this
theorem okTabs_snoc : ∀ (r T : List Tab) (t : Tab), okTabs T r → okTab (T ++ r) t → okTabs T (r ++ [t])
  | [], T, t, _, h => ⟨by simpa using h, True.intro⟩
  | x :: r, T, t, h, ht => ⟨h.1, okTabs_snoc r (T ++ [x]) t h.2 (by simpa using ht)⟩
/-! ### the words of drawn tables -/
def wordOk (w : Str) : Prop := free 10 w ∧ free 32 w ∧ w.length ≤ 8 ∧ PyData.strOk w = true
theorem wordOk_fine {w : Str} (h : fineB w = true) : wordOk w := ⟨fine_free h (by decide), fine_free h (by decide), (fine_len h).2, fine_ok h⟩
theorem wordOk_empty : wordOk "" := ⟨by decide +kernel, by decide +kernel, by decide +kernel, by decide +kernel⟩
theorem wordOk_table : wordOk "table" := ⟨by decide +kernel, by decide +kernel, by decide +kernel, by decide +kernel⟩
theorem wordOk_plain : wordOk "plain" := ⟨by decide +kernel, by decide +kernel, by decide +kernel, by decide +kernel⟩
theorem wordOk_ref : wordOk "ref" := ⟨by decide +kernel, by decide +kernel, by decide +kernel, by decide +kernel⟩
end PM
/-! SP: what the defs of the program promise, over plain data. -/
namespace SP
open PySem L2 DV PM
def encC : Col → D
  | (n, none) => .tup [.str n, .non]
  | (n, some t) => .tup [.str n, .str t]
def encT (t : Tab) : D := .tup [.str t.1, .lst (t.2.map encC)]
def encTs (T : List Tab) : D := .lst (T.map encT)
theorem map_get {α β : Type} {f : α → β} {l : List α} {i : Nat} {y : β} (h : (l.map f)[i]? = some y) : ∃ x, l[i]? = some x ∧ y = f x := by
  rw [List.getElem?_map] at h
  cases e : l[i]? with
  | none => rw [e] at h; cases h
  | some x => rw [e] at h; exact ⟨x, rfl, (Option.some.inj h).symm⟩
/-- one digit: it, the feed behind it -/
def takeN (g m size : Int) : Int × Int × Int :=
  if 0 < g then (g.fmod size, g.fdiv size, m) else (((m * 742938285 + 1013904223).fmod 2305843009213693951).fdiv 16777216 |>.fmod size, g, (m * 742938285 + 1013904223).fmod 2305843009213693951)
theorem takeN_lt {g m size : Int} (h : 0 < size) : 0 ≤ (takeN g m size).1 ∧ (takeN g m size).1 < size := by
  unfold takeN
  split
  · exact ⟨Int.fmod_nonneg_of_pos _ h, Int.fmod_lt_of_pos _ h⟩
  · exact ⟨Int.fmod_nonneg_of_pos _ h, Int.fmod_lt_of_pos _ h⟩
abbrev Fd := Int × Int
def fdD (s : Fd) : List D := [.int s.1, .int s.2]
def fdT (s : Fd) (n : Nat) : Fd := ((takeN s.1 s.2 n).2.1, (takeN s.1 s.2 n).2.2)
def fdI (s : Fd) (n : Nat) : Nat := (takeN s.1 s.2 n).1.toNat
theorem fdI_lt {s : Fd} {n : Nat} (h : 0 < n) : fdI s n < n := by
  have := takeN_lt (g := s.1) (m := s.2) (size := (n : Int)) (by omega)
  unfold fdI
  omega
theorem fdI_eq {s : Fd} {n : Nat} (h : 0 < n) : (takeN s.1 s.2 n).1 = (fdI s n : Int) := by
  have := takeN_lt (g := s.1) (m := s.2) (size := (n : Int)) (by omega)
  unfold fdI
  omega
def preTake : Pre := fun rs Pl cs r cs' => ∃ p s n, rs = [.val (.ref p), .dat (.int (n : Nat))] ∧ Pl = [p] ∧ cs = [fdD s] ∧ 0 < n ∧ n ≤ 100000 ∧ r = .dat (.int (fdI s n : Nat)) ∧ cs' = [fdD (fdT s n)]
def prePick : Pre := fun rs Pl cs r cs' => ∃ p s ds d, rs = [.val (.ref p), .dat (.lst ds)] ∧ Pl = [p] ∧ cs = [fdD s] ∧ 0 < ds.length ∧ ds.length ≤ 100000 ∧ ds[fdI s ds.length]? = some d ∧ r = .dat d ∧ cs' = [fdD (fdT s ds.length)]
def preFeed : Pre := fun rs Pl cs r cs' => ∃ ns i s, rs = [.dat (.fro (ns.map D.int)), .dat (.int (i : Nat))] ∧ ns.length ≤ 63 ∧ i < 60 ∧ Pl = [] ∧ cs = [] ∧ r = .dat (.lst (fdD s)) ∧ cs' = [] ∧
  s = feedOf ns i
where feedOf (ns : List Int) (i : Nat) : Fd :=
  let cell := if i < ns.length then ns.getD i 0 else 59 * (i : Int) + 23
  let great := (if cell < 0 then -cell else cell) - 10 ^ 18
  (if great > 0 then great else 0, (cell * 2862933555777941757 + 3935559000370003845 * ((i : Int) + 1)).fmod 2305843009213693951)
/-! the program's own -/
def preCount : Pre := fun rs Pl cs r cs' => ∃ cols : List Col, rs = [.dat (.lst (cols.map encC))] ∧ cols.length ≤ 1000 ∧ Pl = [] ∧ cs = [] ∧ r = .dat (.int (refsN cols : Nat)) ∧ cs' = []
def colOk (c : Col) : Prop := wordOk c.1 ∧ ∀ t, c.2 = some t → wordOk t
def preColRow : Pre := fun rs Pl cs r cs' => ∃ c d, rs = [.dat (.str c.1), .dat d] ∧ d = (match c.2 with | none => D.non | some t => .str t) ∧ colOk c ∧ Pl = [] ∧ cs = [] ∧ r = .dat (.str (rowOf (colWords c))) ∧ cs' = []
theorem emp_cps : (Str.ofString "").cps = #[] := by decide +kernel
theorem lit1 : ("  plain " : Str) = rowOf ["", "", "plain", ""] := by decide +kernel
theorem lit2 : ("  ref " : Str) = rowOf ["", "", "ref", ""] := by decide +kernel
theorem lit3 : ("table " : Str) = rowOf ["table", ""] := by decide +kernel
theorem row_table (n : Str) : Str.empty ++ ("table " : Str) ++ n = rowOf ["table", n] := by
  rw [Str.empty_append, lit3]
  unfold rowOf
  rw [join_cons, join_one, join_cons, join_one]
  apply lst_eq
  simp [app_list, emp_cps]
theorem row_plain (n : Str) : Str.empty ++ ("  plain " : Str) ++ n = rowOf (colWords (n, none)) := by
  rw [Str.empty_append, lit1]
  show _ = rowOf ["", "", "plain", n]
  unfold rowOf
  rw [join_cons, join_cons, join_cons, join_one, join_cons, join_cons, join_cons, join_one]
  apply lst_eq
  simp [app_list, emp_cps]
theorem row_ref (n t : Str) : Str.empty ++ ("  ref " : Str) ++ n ++ (" " : Str) ++ t = rowOf (colWords (n, some t)) := by
  rw [Str.empty_append, lit2]
  show _ = rowOf ["", "", "ref", n, t]
  unfold rowOf
  rw [join_cons, join_cons, join_cons, join_one, join_cons, join_cons, join_cons, join_cons, join_one]
  apply lst_eq
  simp [app_list, emp_cps]
theorem len_app (a b : Str) : (a ++ b).length = a.length + b.length := Str.length_append a b
theorem row_len_col {c : Col} (h : colOk c) : (rowOf (colWords c)).length ≤ 30 := by
  obtain ⟨n, t⟩ := c
  obtain ⟨h1, h2⟩ := h
  have hn : n.length ≤ 8 := h1.2.2.1
  cases t with
  | none =>
    rw [← row_plain, len_app, len_app]
    have : (Str.empty).length = 0 := rfl
    have : ("  plain " : Str).length = 8 := by decide +kernel
    omega
  | some t =>
    have ht : t.length ≤ 8 := (h2 t rfl).2.2.1
    rw [← row_ref, len_app, len_app, len_app, len_app]
    have : (Str.empty).length = 0 := rfl
    have : ("  ref " : Str).length = 6 := by decide +kernel
    have : (" " : Str).length = 1 := by decide +kernel
    omega
theorem row_len_tab {n : Str} (h : n.length ≤ 8) : (rowOf ["table", n]).length ≤ 30 := by
  rw [← row_table, len_app, len_app]
  have : (Str.empty).length = 0 := rfl
  have : ("table " : Str).length = 6 := by decide +kernel
  omega
def tabsOk (T : List Tab) : Prop := T.length ≤ 3 ∧ ∀ t ∈ T, wordOk t.1 ∧ t.2.length ≤ 4 ∧ ∀ c ∈ t.2, colOk c
def rowsOf (T : List Tab) : List Str := (words T).map rowOf
def preRows : Pre := fun rs Pl cs r cs' => ∃ T, rs = [.dat (encTs T)] ∧ tabsOk T ∧ Pl = [] ∧ cs = [] ∧ r = .dat (.lst ((rowsOf T).map D.str)) ∧ cs' = []
def preIsName : Pre := fun rs Pl cs r cs' => ∃ w : Str, rs = [.dat (.str w)] ∧ w.length ≤ 1000000 ∧ Pl = [] ∧ cs = [] ∧ r = .dat (.bl (isName w)) ∧ cs' = []
def fstD : D → D
  | .tup (d :: _) => d
  | _ => .non
def isTup1 : D → Prop
  | .tup (_ :: _) => True
  | _ => False
def preIsNew : Pre := fun rs Pl cs r cs' => ∃ (w : Str) (ds : List D) (ns : List Str), rs = [.dat (.str w), .dat (.lst ds)] ∧ w.length ≤ 1000000 ∧ ds.length ≤ 1000 ∧ ds.map fstD = ns.map D.str ∧ (∀ d ∈ ds, isTup1 d) ∧ Pl = [] ∧ cs = [] ∧ r = .dat (.bl (isNew w ns)) ∧ cs' = []
def wordsIn (ws : List Str) : Prop := ws.length ≤ 1000000 ∧ ∀ w ∈ ws, w.length ≤ 1000000 ∧ PyData.strOk w = true
def preBegins : Pre := fun rs Pl cs r cs' => ∃ T ws, rs = [.dat (encTs T), .dat (.lst (ws.map D.str))] ∧ T.length ≤ 1000 ∧ wordsIn ws ∧ Pl = [] ∧ cs = [] ∧ r = .dat (.bl (beginsT T ws)) ∧ cs' = []
def tabsIn (T : List Tab) : Prop := T.length ≤ 1000 ∧ ∀ t ∈ T, t.2.length ≤ 1000
def prePlain : Pre := fun rs Pl cs r cs' => ∃ T ws, rs = [.dat (encTs T), .dat (.lst (ws.map D.str))] ∧ tabsIn T ∧ wordsIn ws ∧ Pl = [] ∧ cs = [] ∧ r = .dat (.bl (addsP T ws)) ∧ cs' = []
def preRef : Pre := fun rs Pl cs r cs' => ∃ T ws, rs = [.dat (encTs T), .dat (.lst (ws.map D.str))] ∧ tabsIn T ∧ wordsIn ws ∧ Pl = [] ∧ cs = [] ∧ r = .dat (.bl (addsR T ws)) ∧ cs' = []
theorem fst_encT (T : List Tab) : (T.map encT).map fstD = (T.map Prod.fst).map D.str := by
  rw [List.map_map, List.map_map]; rfl
theorem fst_encC (T : List Col) : (T.map encC).map fstD = (T.map Prod.fst).map D.str := by
  rw [List.map_map, List.map_map]
  exact List.map_congr_left fun c _ => by obtain ⟨n, t⟩ := c; cases t <;> rfl
theorem tup_encT (T : List Tab) : ∀ d ∈ T.map encT, isTup1 d := fun d h => by
  obtain ⟨t, _, rfl⟩ := List.mem_map.mp h
  exact True.intro
theorem tup_encC (T : List Col) : ∀ d ∈ T.map encC, isTup1 d := fun d h => by
  obtain ⟨⟨n, t⟩, _, rfl⟩ := List.mem_map.mp h
  cases t <;> exact True.intro
end SP
/-! RT: the list of tables while it is read: a list of tuples that hold lists that grow. -/
namespace SP
open PySem L2 DV PM
variable {K : PySem.W.Frag}
/-- one entry: the tuple at e.1, its list at e.2.1, which holds e.2.2 -/
structure EntAt (K : PySem.W.Frag) (H0 B H : Hp) (e : Addr × Addr × List V) (t : Tab) : Prop where
  tu : H e.1 = some (.tup [.str t.1, .ref e.2.1])
  ls : H e.2.1 = some (.lst e.2.2)
  co : RpA K B e.2.2 (t.2.map encC)
  bt : B e.1 = none
  bl : B e.2.1 = none
  ft : H0 e.1 = none
  fl : H0 e.2.1 = none
structure TabsAt (K : PySem.W.Frag) (H0 B H : Hp) (p : Addr) (T : List Tab) : Prop where
  ex : ∃ es : List (Addr × Addr × List V), H p = some (.lst (es.map fun e => .ref e.1)) ∧ Paired (EntAt K H0 B H) es T ∧ (es.map (·.2.1)).Nodup ∧ p ∉ es.map (·.2.1)
  bp : B p = none
  fp : H0 p = none
theorem Paired.imp {α β : Type} {F G : α → β → Prop} : ∀ {l : List α} {m : List β}, Paired F l m → (∀ a ∈ l, ∀ b, F a b → G a b) → Paired G l m
  | _, _, .nil, _ => .nil
  | _, _, .cons h r, f => .cons (f _ List.mem_cons_self _ h) (Paired.imp r fun a ha b => f a (List.mem_cons_of_mem _ ha) b)
theorem Paired.snoc' {α β : Type} {F : α → β → Prop} {a : α} {b : β} : ∀ {l : List α} {m : List β}, Paired F l m → F a b → Paired F (l ++ [a]) (m ++ [b])
  | _, _, .nil, h => .cons h .nil
  | _, _, .cons h r, g => .cons h (Paired.snoc' r g)
theorem Paired.unsnoc {α β : Type} {F : α → β → Prop} : ∀ {l : List α} {m : List β} {b : β}, Paired F l (m ++ [b]) → ∃ l' a, l = l' ++ [a] ∧ Paired F l' m ∧ F a b
  | [], [], _, h => by cases h
  | [], _ :: _, _, h => by cases h
  | [a], [], b, .cons h .nil => ⟨[], a, rfl, .nil, h⟩
  | a :: a' :: l, [], b, .cons h r => by cases r
  | a :: l, x :: m, b, .cons h r => by
    obtain ⟨l', c, e, q, f⟩ := Paired.unsnoc r
    exact ⟨a :: l', c, by rw [e]; rfl, .cons h q, f⟩
theorem EntAt.mono {H0 B B' H H' : Hp} {e : Addr × Addr × List V} {t : Tab} (h : EntAt K H0 B H e t) (eB : Ex B B') (kt : H' e.1 = H e.1) (kl : H' e.2.1 = H e.2.1) (nt : B' e.1 = none) (nl : B' e.2.1 = none) : EntAt K H0 B' H' e t :=
  ⟨kt.trans h.tu, kl.trans h.ls, h.co.mono eB, nt, nl, h.ft, h.fl⟩
/-- a pure step leaves it -/
theorem TabsAt.step {H0 B B' H H' : Hp} {p : Addr} {T : List Tab} (h : TabsAt K H0 B H p T) (s : Stp [] B H B' H') : TabsAt K H0 B' H' p T := by
  obtain ⟨⟨es, h1, h2, h3, h4⟩, h5, h6⟩ := h
  refine ⟨⟨es, s.toEx _ _ h1, Paired.imp h2 fun e _ t q => q.mono s.ex ?_ ?_ ?_ ?_, h3, h4⟩, by rw [s.nb _ _ h1]; exact h5, h6⟩
  · rw [q.tu]; exact s.toEx _ _ q.tu
  · rw [q.ls]; exact s.toEx _ _ q.ls
  · rw [s.nb _ _ q.tu]; exact q.bt
  · rw [s.nb _ _ q.ls]; exact q.bl
theorem entAt_rp {H0 B H H' : Hp} (e1 : Ex B H') : ∀ {es : List (Addr × Addr × List V)} {T : List Tab}, Paired (EntAt K H0 B H) es T → (∀ e ∈ es, H' e.1 = H e.1 ∧ H' e.2.1 = H e.2.1) → RpA K H' (es.map fun e => .ref e.1) (T.map encT)
  | _, _, .nil, _ => .nil
  | _, _, .cons h r, k => .cons (.tup (.inl ((k _ List.mem_cons_self).1.trans h.tu)) (.cons (.str _) (.cons (.lst ((k _ List.mem_cons_self).2.trans h.ls) (h.co.mono e1)) .nil))) (entAt_rp e1 r fun e he => k e (List.mem_cons_of_mem _ he))
theorem TabsAt.rp {H0 B H : Hp} {p : Addr} {T : List Tab} (h : TabsAt K H0 B H p T) (e : Ex B H) : Rp K H (.ref p) (encTs T) := by
  obtain ⟨⟨es, h1, h2, _, _⟩, _, _⟩ := h
  exact .lst h1 (entAt_rp e h2 fun _ _ => ⟨rfl, rfl⟩)
/-- all that is new is told -/
def pubB (B0 H0 H : Hp) : Hp := fun b => match H0 b with
  | some _ => B0 b
  | none => H b
theorem pub_new {B0 H0 H : Hp} {b : Addr} (h : H0 b = none) : pubB B0 H0 H b = H b := by unfold pubB; rw [h]
theorem pub_old {B0 H0 H : Hp} {b : Addr} {o : HO} (h : H0 b = some o) : pubB B0 H0 H b = B0 b := by unfold pubB; rw [h]
theorem pub_ex {B0 H0 B H : Hp} (s : Stp [] B0 H0 B H) (e : Ex B H) : Ex B (pubB B0 H0 H) := fun b o h => by
  cases h0 : H0 b with
  | none => rw [pub_new h0]; exact e b o h
  | some u => rw [pub_old h0, ← s.nb b u h0]; exact h
theorem pub_in {B0 H0 B H : Hp} (s : Stp [] B0 H0 B H) (e : Ex B H) : Ex (pubB B0 H0 H) H := fun b o h => by
  cases h0 : H0 b with
  | none => rw [pub_new h0] at h; exact h
  | some u => rw [pub_old h0] at h; exact e b o (s.ex b o h)
theorem pub_stp {B0 H0 B H : Hp} (s : Stp [] B0 H0 B H) (e : Ex B H) : Stp [] B0 H0 (pubB B0 H0 H) H :=
  ⟨s.ex.trans (pub_ex s e), s.fr, fun b o h => pub_old h, s.dm⟩
theorem TabsAt.pub {B0 H0 B H : Hp} {p : Addr} {T : List Tab} (h : TabsAt K H0 B H p T) (s : Stp [] B0 H0 B H) (e : Ex B H) : Rp K (pubB B0 H0 H) (.ref p) (encTs T) := by
  obtain ⟨⟨es, h1, h2, _, _⟩, _, h6⟩ := h
  have gen : ∀ {es : List (Addr × Addr × List V)} {T : List Tab}, Paired (EntAt K H0 B H) es T → RpA K (pubB B0 H0 H) (es.map fun e => .ref e.1) (T.map encT) := by
    intro es T q
    induction q with
    | nil => exact .nil
    | cons h r ih => exact .cons (.tup (.inl ((pub_new h.ft).trans h.tu)) (.cons (.str _) (.cons (.lst ((pub_new h.fl).trans h.ls) (h.co.mono (pub_ex s e))) .nil))) ih
  exact .lst ((pub_new h6).trans h1) (gen h2)
/-- a pure question about the tables so far -/
theorem call_tabs {B H : Hp} {σ : L2.St} {H0 : Hp} {p : Addr} {T : List Tab} {ws : List Str} {pre : Pre} {b : Bool} {wv : V} {Q : Bool → Hp → Prop} (e : Ex B H) (tab : TabsAt K H0 B H p T) (h1 : σ[1]? = some (some (.ref p))) (h4 : σ[4]? = some (some wv)) (hw : Rp K B wv (.lst (ws.map D.str)))
    (hp : pre [.dat (encTs T), .dat (.lst (ws.map D.str))] [] [] (.dat (.bl b)) []) (k : ∀ H', Stp [] B H B H' → Ex B H' → Q b H') : tB (tCall (spM K pre) [] E0 (tCons (tVar 1) (tCons (tVar 4) tNil))) σ H Q := by
  refine ⟨.ref p, h1, wv, h4, H, _, [], [], _, [], hp, Ex.refl H, ⟨tab.rp e, hw.mono e, True.intro⟩, True.intro, fun v B2 H2 s2 e2 _ v2 => ?_⟩
  cases (show Rp K B2 v (.bl b) from v2)
  exact ⟨b, rfl, k H2 ⟨Ex.refl _, s2.fr, fun _ _ _ => rfl, s2.dm⟩ (e.trans s2.toEx)⟩
theorem stp_upd {B0 H0 B H : Hp} {a : Addr} {o : HO} (s : Stp [] B0 H0 B H) (h : H0 a = none) : Stp [] B0 H0 B (upd H a o) :=
  ⟨s.ex, fun b u n e => by rw [upd_ne (ne_of_none e h)]; exact s.fr b u n e, s.nb, fun b u e => by rw [upd_ne (ne_of_none e h)]; exact s.dm b u e⟩
theorem free0 {B0 H0 B H : Hp} {a : Addr} (s : Stp [] B0 H0 B H) (h : H a = none) : H0 a = none := by
  cases q : H0 a with
  | none => rfl
  | some u => obtain ⟨u', h'⟩ := s.dm a u q; rw [h] at h'; cases h'
theorem ex_upd {B H : Hp} {a : Addr} {o : HO} (e : Ex B H) (h : B a = none) : Ex B (upd H a o) := fun b u q => by rw [upd_ne (ne_of_none q h)]; exact e b u q
/-- tables.append((n, [])) -/
theorem app_tab {B0 H0 B H : Hp} {σ : L2.St} {p : Addr} {T : List Tab} {n : Str} {ss : List Sl} {te : TE} {De : Ends} (s : Stp [] B0 H0 B H) (o : Okk K [] ss [] B H σ) (tab : TabsAt K H0 B H p T) (h1 : σ[1]? = some (some (.ref p))) (he : Ev K [] ss [] te (.dat (.str n)) [])
    (hT : T.length ≤ 1000) (k : ∀ B' H', Stp [] B0 H0 B' H' → Okk K [] ss [] B' H' σ → Ex B B' → TabsAt K H0 B' H' p (T ++ [(n, [])]) → De.nx σ H') :
    tDrop (tBM K "list" rAppend (tVar 1) (tCons (tTup (tCons te (tCons (tLst tNil) tNil))) tNil)) De σ H := by
  obtain ⟨es0, hp0, _⟩ := tab.ex
  refine ⟨.ref p, h1, .inl ⟨rfl, _, .inl (.inl hp0)⟩, ?_⟩
  refine he B H σ o _ fun v B1 H1 s1 o1 v1 => ?_
  cases (show Rp K B1 v (.str n) from v1)
  have tab1 := tab.step s1
  have s01 := s.trans s1
  refine ⟨Nat.zero_le _, fun c hc => ⟨by show 2 ≤ sizeLine; decide, fun t ht => ?_⟩⟩
  obtain ⟨⟨es, h2, h3, h4, h5⟩, h6, h7⟩ := tab1
  have hct : t ≠ c := fun z => by rw [z, upd_same] at ht; cases ht
  have ht1 : H1 t = none := by rw [upd_ne hct] at ht; exact ht
  have hcp : p ≠ c := ne_of_none h2 hc
  have htp : p ≠ t := ne_of_none h2 ht1
  have hlen : es.length = T.length := Paired.length h3
  refine ⟨p, _, .ref t, rfl, rfl, (upd_ne htp).trans ((upd_ne hcp).trans h2), lt_line (by rw [List.length_map, hlen]; omega), ?_⟩
  have bc : B1 c = none := o1.ex.free hc
  have bt : B1 t = none := o1.ex.free ht1
  have fc : H0 c = none := free0 s01 hc
  have ft : H0 t = none := free0 s01 ht1
  have key : ∀ b, b ≠ p → b ≠ t → b ≠ c → upd (upd (upd H1 c (.lst [])) t (.tup [.str n, .ref c])) p (.lst ((es.map fun e => V.ref e.1) ++ [.ref t])) b = H1 b := fun b n1 n2 n3 => by rw [upd_ne n1, upd_ne n2, upd_ne n3]
  refine k B1 _ (stp_upd (stp_upd (stp_upd s01 fc) ft) h7) ⟨ex_upd (ex_upd (ex_upd o1.ex bc) bt) h6, o1.sl, True.intro⟩ s1.ex ⟨⟨es ++ [(t, c, [])], ?_, ?_, ?_, ?_⟩, h6, h7⟩
  · rw [upd_same, List.map_append]; rfl
  · refine Paired.snoc' (Paired.imp h3 fun e he b' q => q.mono (Ex.refl _) (key _ (fun z => ?_) (ne_of_none q.tu ht1) (ne_of_none q.tu hc)) (key _ (fun z => ?_) (ne_of_none q.ls ht1) (ne_of_none q.ls hc)) q.bt q.bl) ⟨?_, ?_, .nil, bt, bc, ft, fc⟩
    · have := q.tu; rw [z, h2] at this; cases this
    · exact h5 (List.mem_map.mpr ⟨e, he, z⟩)
    · show upd (upd (upd H1 c (.lst [])) t _) p _ t = _
      rw [upd_ne (Ne.symm htp), upd_same]
    · show upd (upd (upd H1 c (.lst [])) t _) p _ c = _
      rw [upd_ne (Ne.symm hcp), upd_ne (Ne.symm hct), upd_same]
  · rw [List.map_append]
    refine List.nodup_append.mpr ⟨h4, by simp, fun a ha b hb => ?_⟩
    have eb : b = c := by simpa using hb
    subst eb
    intro z
    subst z
    obtain ⟨e, he, ea⟩ := List.mem_map.mp ha
    have gen : ∀ {es : List (Addr × Addr × List V)} {T : List Tab}, Paired (EntAt K H0 B1 H1) es T → ∀ e ∈ es, ∃ t, EntAt K H0 B1 H1 e t := by
      intro es T q
      induction q with
      | nil => intro e he; cases he
      | cons h r ih => intro e he; rcases List.mem_cons.mp he with z | z
                       · subst z; exact ⟨_, h⟩
                       · exact ih e z
    obtain ⟨t', q⟩ := gen h3 e he
    have := q.ls
    rw [ea, hc] at this
    cases this
  · rw [List.map_append]
    intro z
    rcases List.mem_append.mp z with z | z
    · exact h5 z
    · exact hcp (by simpa using z)
/-- tables[-1][1].append(c) -/
theorem app_col {B0 H0 B H : Hp} {σ : L2.St} {p : Addr} {T : List Tab} {n : Str} {cols : List Col} {c : Col} {ss : List Sl} {ta : TA} {x y : D} {De : Ends} (s : Stp [] B0 H0 B H) (o : Okk K [] ss [] B H σ) (tab : TabsAt K H0 B H p (T ++ [(n, cols)])) (h1 : σ[1]? = some (some (.ref p)))
    (he : EvA K [] ss [] ta [.dat x, .dat y] []) (hc : encC c = .tup [x, y]) (hT : cols.length ≤ 1000) (k : ∀ B' H', Stp [] B0 H0 B' H' → Okk K [] ss [] B' H' σ → Ex B B' → TabsAt K H0 B' H' p (T ++ [(n, cols ++ [c])]) → De.nx σ H') :
    tDrop (tBM K "list" rAppend (tOp (rIx K) (tOp (rIx K) (tVar 1) (tUn (rU fun i => .int (-i)) (tC (.int 1)))) (tC (.int 1))) (tCons (tTup ta) tNil)) De σ H := by
  obtain ⟨es0, hp0, hE0, _, _⟩ := tab.ex
  obtain ⟨es0', e0, rfl, hE0', q0⟩ := Paired.unsnoc hE0
  refine ⟨.ref p, h1, 1, rfl, .inl ⟨p, _, -1, .ref e0.1, rfl, rfl, .inl (.inl hp0), by rw [List.map_append]; exact atI_last _ _, ?_⟩⟩
  refine .inr (.inl ⟨e0.1, _, 1, .ref e0.2.1, rfl, rfl, .inl (.inl q0.tu), atI_nat (j := 1) rfl, .inl ⟨rfl, _, .inl (.inl q0.ls)⟩, ?_⟩)
  refine he B H σ o _ fun vs B1 H1 s1 o1 v1 => ?_
  obtain ⟨v, v', rfl, r1, r2⟩ := rs2 v1
  have tab1 := tab.step s1
  have s01 := s.trans s1
  refine ⟨by show 2 ≤ sizeLine; decide, fun t ht => ?_⟩
  have hl1 : H1 e0.2.1 = some (.lst e0.2.2) := s1.toEx _ _ q0.ls
  have hne : e0.2.1 ≠ t := ne_of_none hl1 ht
  have hlen : e0.2.2.length = cols.length := by rw [q0.co.length, List.length_map]
  refine ⟨e0.2.1, e0.2.2, .ref t, rfl, rfl, (upd_ne hne).trans hl1, lt_line (by omega), ?_⟩
  have bt : B1 t = none := o1.ex.free ht
  have ft : H0 t = none := free0 s01 ht
  have bl1 : B1 e0.2.1 = none := by rw [s1.nb _ _ q0.ls]; exact q0.bl
  have hp1 : H1 p = some (.lst ((es0' ++ [e0]).map fun e => V.ref e.1)) := s1.toEx _ _ hp0
  have hpl : p ≠ e0.2.1 := fun z => by
    have := tab.ex
    obtain ⟨es2, h2, hE2, _, h5⟩ := this
    obtain ⟨es2', e2, rfl, _, q2⟩ := Paired.unsnoc hE2
    rw [hp0] at h2
    have hl : (es0' ++ [e0]).map (fun e => V.ref e.1) = (es2' ++ [e2]).map (fun e => V.ref e.1) := HO.lst.inj (Option.some.inj h2)
    rw [List.map_append, List.map_append] at hl
    have e1 : V.ref e0.1 = V.ref e2.1 := by
      have := congrArg List.getLast? hl
      simpa using this
    have e1' : e0.1 = e2.1 := V.ref.inj e1
    have t1 := q0.tu
    rw [e1', q2.tu] at t1
    have t2 : e2.2.1 = e0.2.1 := by
      have := HO.tup.inj (Option.some.inj t1)
      simpa using this
    exact h5 (by rw [List.map_append]; exact List.mem_append_right _ (by simp [t2, z]))
  have hpt : p ≠ t := ne_of_none hp1 ht
  have eB : Ex B1 (upd B1 t (.tup [v, v'])) := Ex.new bt
  have hh : ∀ b, b ≠ t → b ≠ e0.2.1 → upd (upd H1 t (.tup [v, v'])) e0.2.1 (.lst (e0.2.2 ++ [.ref t])) b = H1 b := fun b n1 n2 => by rw [upd_ne n2, upd_ne n1]
  have hB2 : ∀ b, b ≠ t → upd B1 t (.tup [v, v']) b = B1 b := fun b n1 => upd_ne n1
  obtain ⟨⟨es, h2, h3, h4, h5⟩, h6, h7⟩ := tab1
  have hes : es.map (fun e => V.ref e.1) = (es0' ++ [e0]).map (fun e => V.ref e.1) := HO.lst.inj (Option.some.inj (h2.symm.trans hp1))
  obtain ⟨es', e, rfl, hE', q⟩ := Paired.unsnoc h3
  have e1' : e.1 = e0.1 := by
    rw [List.map_append, List.map_append] at hes
    have := congrArg List.getLast? hes
    have e1 : V.ref e.1 = V.ref e0.1 := by simpa using this
    exact V.ref.inj e1
  have e2' : e.2.1 = e0.2.1 := by
    have t1 := q.tu
    rw [e1', s1.toEx _ _ q0.tu] at t1
    have := HO.tup.inj (Option.some.inj t1)
    have z : e0.2.1 = e.2.1 := by simpa using this
    exact z.symm
  have e3' : e.2.2 = e0.2.2 := by
    have t1 := q.ls
    rw [e2', hl1] at t1
    exact (HO.lst.inj (Option.some.inj t1)).symm
  have sN : Stp [] B0 H0 (upd B1 t (.tup [v, v'])) (upd (upd H1 t (.tup [v, v'])) e0.2.1 (.lst (e0.2.2 ++ [.ref t]))) := by
    have a := stp_upd (o := .lst (e0.2.2 ++ [.ref t])) (stp_upd (o := .tup [v, v']) s01 ft) q0.fl
    refine ⟨a.ex.trans eB, a.fr, fun b u hb => ?_, a.dm⟩
    rw [hB2 b (ne_of_none hb ft)]
    exact a.nb b u hb
  have eN : Ex (upd B1 t (.tup [v, v'])) (upd (upd H1 t (.tup [v, v'])) e0.2.1 (.lst (e0.2.2 ++ [.ref t]))) := fun b u hb => by
    by_cases hbt : b = t
    · subst hbt
      rw [upd_same] at hb
      rw [upd_ne (Ne.symm hne), upd_same]
      exact hb
    · rw [hB2 b hbt] at hb
      rw [hh b hbt (fun z => by rw [z, bl1] at hb; cases hb)]
      exact o1.ex b u hb
  have inE : ∀ a ∈ es', a.2.1 ≠ e0.2.1 := fun a ha z => by
    rw [List.map_append] at h4
    have := (List.nodup_append.mp h4).2.2 a.2.1 (List.mem_map.mpr ⟨a, ha, rfl⟩) e.2.1 (by simp)
    exact this (z.trans e2'.symm)
  refine k _ _ sN ⟨eN, o1.sl.mono eB, True.intro⟩ (s1.ex.trans eB) ⟨⟨es' ++ [(e.1, e.2.1, e.2.2 ++ [.ref t])], ?_, ?_, ?_, ?_⟩, ?_, h7⟩
  · rw [hh p hpt hpl, h2, List.map_append, List.map_append]; rfl
  · refine Paired.snoc' (Paired.imp hE' fun a ha b qa => qa.mono eB (hh _ (ne_of_none qa.tu ht) (fun z => ?_)) (hh _ (ne_of_none qa.ls ht) (inE a ha)) ?_ ?_) ⟨?_, ?_, ?_, ?_, ?_, q.ft, q.fl⟩
    · have := qa.tu; rw [z, hl1] at this; cases this
    · rw [hB2 _ (ne_of_none qa.tu ht)]; exact qa.bt
    · rw [hB2 _ (ne_of_none qa.ls ht)]; exact qa.bl
    · show upd (upd H1 t _) e0.2.1 _ e.1 = _
      rw [hh _ (ne_of_none q.tu ht) (fun z => by have := q.tu; rw [z, hl1] at this; cases this)]
      exact q.tu
    · show upd (upd H1 t _) e0.2.1 _ e.2.1 = _
      rw [e2', upd_same, e3']
    · rw [List.map_append]
      refine (q.co.mono eB).append (.cons ?_ .nil)
      show Rp K _ _ (encC c)
      rw [hc]
      exact .tup (.inl upd_same) (.cons (r1.mono eB) (.cons (r2.mono eB) .nil))
    · show upd B1 t _ e.1 = none
      rw [hB2 _ (ne_of_none q.tu ht)]; exact q.bt
    · show upd B1 t _ e.2.1 = none
      rw [hB2 _ (ne_of_none q.ls ht)]; exact q.bl
  · rw [List.map_append] at h4 ⊢
    exact h4
  · rw [List.map_append] at h5 ⊢
    exact h5
  · rw [hB2 p hpt]; exact h6
end SP
namespace T3
open PySem L2 DV PM SP
def topS (i : Nat) : Stmt := PySem.Challenge.pw_onlyviews_k13_known_bases.main.body.getD i (.Pass ⟨0, 0, 0, 0⟩)
abbrev s_count_references : Stmt := topS 24
abbrev N_count_references : List Str := ["columns", "name", "target"]
theorem sc_count_references : FnScope N_count_references ["columns"] (defScope s_count_references) := ⟨rfl, rfl, rfl, by decide +kernel, rfl, by decide +kernel, by decide +kernel⟩

abbrev s_column_row : Stmt := topS 19
abbrev N_column_row : List Str := ["name", "target"]
theorem sc_column_row : FnScope N_column_row ["name", "target"] (defScope s_column_row) := ⟨rfl, rfl, rfl, by decide +kernel, rfl, by decide +kernel, by decide +kernel⟩

abbrev s_text_rows : Stmt := topS 18
abbrev N_text_rows : List Str := ["tables", "rows", "table", "columns", "name", "target"]
theorem sc_text_rows : FnScope N_text_rows ["tables"] (defScope s_text_rows) := ⟨rfl, rfl, rfl, by decide +kernel, rfl, by decide +kernel, by decide +kernel⟩

abbrev s_is_name : Stmt := topS 16
abbrev N_is_name : List Str := ["word"]
theorem sc_is_name : FnScope N_is_name ["word"] (defScope s_is_name) := ⟨rfl, rfl, rfl, by decide +kernel, rfl, by decide +kernel, by decide +kernel⟩

abbrev s_is_new_name : Stmt := topS 17
abbrev N_is_new_name : List Str := ["word", "pairs", "pair"]
theorem sc_is_new_name : FnScope N_is_new_name ["word", "pairs"] (defScope s_is_new_name) := ⟨rfl, rfl, rfl, by decide +kernel, rfl, by decide +kernel, by decide +kernel⟩

abbrev s_begins_table : Stmt := topS 21
abbrev N_begins_table : List Str := ["tables", "words"]
theorem sc_begins_table : FnScope N_begins_table ["tables", "words"] (defScope s_begins_table) := ⟨rfl, rfl, rfl, by decide +kernel, rfl, by decide +kernel, by decide +kernel⟩

abbrev s_adds_plain : Stmt := topS 22
abbrev N_adds_plain : List Str := ["tables", "words", "columns"]
theorem sc_adds_plain : FnScope N_adds_plain ["tables", "words"] (defScope s_adds_plain) := ⟨rfl, rfl, rfl, by decide +kernel, rfl, by decide +kernel, by decide +kernel⟩

abbrev s_adds_reference : Stmt := topS 23
abbrev N_adds_reference : List Str := ["tables", "words", "columns", "earlier", "pair"]
theorem sc_adds_reference : FnScope N_adds_reference ["tables", "words"] (defScope s_adds_reference) := ⟨rfl, rfl, rfl, by decide +kernel, rfl, by decide +kernel, by decide +kernel⟩

section
variable {P : Program} {w : World} {K : PySem.W.Frag} {mg : Str → Option Value} {base : Heap}
/-! the program -/
theorem ok_count {f : Addr} {fd : FuncData} (F : Fun K "count_references" "count_references" s_count_references f fd) (b_len : mg "len" = none) : FnOk P w K mg base CX0 1 f fd ["columns"] (spM K preCount) := by
  refine ok_body F sc_count_references (fun rs Pl cs r cs' h => ?_) (fun X hX hr => ?_)
  · obtain ⟨cols, rfl, _⟩ := h
    rfl
  obtain ⟨cdv, A, outer, s, H, E, rfl⟩ := hX
  have nd := sc_count_references.nd
  refine ⟨_, (pss_one (ps_ret (pe_callB call_len1 (by rfl) b_len PySem.boot_len (pa_cons (pe_lc (own := [("name", 1), ("target", 2)]) (g := (gTup K 2 (gCons (gName 1) (gCons (gName 2) gNil)))) (tt := (tTest (tOp rNotN (tVar 2) (tC .non)))) (te := (tVar 1)) rfl nd (pi_list (pv 0)) (blkOk_by (N := N_count_references) (sc := defScope s_count_references) (by decide +kernel)) (by intro _ _ _ _ _; exact (pg_tup (by rfl) (by exact (pgs_cons (by exact (pg_name (i := 1) nd (by rfl) (by first | exact .inl rfl | exact .inr rfl))) (by exact (pgs_cons (by exact (pg_name (i := 2) nd (by rfl) (by first | exact .inl rfl | exact .inr rfl))) (by exact pgs_nil))))))) (by intro _ _ _ _ _; exact (pts_one (pt_cmpR op_notN' (pv 2) pe_non (nomark _)))) (by intro _ _ _ _ _; exact (pv 1))) pa_nil)))), ?_⟩
  intro rs Pl cs r cs' hp B0 H0 σ Dn st hP hd hn
  obtain ⟨cols, rfl, hl, rfl, rfl, rfl, rfl⟩ := hp
  have e : (((cols.map encC).filter fun d => match d with | .tup [_, y] => !y.isN | _ => false).map fun d => match d with | .tup (x :: _) => x | _ => .non).length = refsN cols := by
    rw [List.length_map, List.filter_map, List.length_map]
    unfold refsN
    congr 1
    apply List.filter_congr
    intro c _
    obtain ⟨n, t⟩ := c
    cases t <;> rfl
  rw [← e] at hd
  refine st_ret st (ev_cb (ea_cons (EvF.ev (ef_filter (wd_lst (ev_var rfl)) _ _ (by rw [List.length_map]; omega) (fun p i d acc hd' => ?_))) ea_nil) cb_lenL) hd
  obtain ⟨⟨n, t⟩, _, rfl⟩ := map_get hd'
  cases t with
  | none => exact ⟨_, _, g_tup (g_cons g_name (g_cons g_name g_nil)), by decide, et_test (ev_op (ev_var rfl) ev_non od_notN), fun _ => ev_var rfl⟩
  | some t => exact ⟨_, _, g_tup (g_cons g_name (g_cons g_name g_nil)), by decide, et_test (ev_op (ev_var rfl) ev_non od_notN), fun _ => ev_var rfl⟩
theorem ok_col {f : Addr} {fd : FuncData} (F : Fun K "column_row" "column_row" s_column_row f fd) : FnOk P w K mg base CX0 1 f fd ["name", "target"] (spM K preColRow) := by
  refine ok_body F sc_column_row (fun rs Pl cs r cs' h => ?_) (fun X hX hr => ?_)
  · obtain ⟨c, d, rfl, _⟩ := h
    rfl
  obtain ⟨cdv, A, outer, s, H, E, rfl⟩ := hX
  have nd := sc_column_row.nd
  refine ⟨_, (pss_one (ps_ret (pe_ifExp (pt_cmpR op_isN' (pv 1) pe_non (nomark _)) (pe_joined (PJ.cons pe_str (PJ.cons (pe_fmt (pv 0)) PJ.nil))) (pe_joined (PJ.cons pe_str (PJ.cons (pe_fmt (pv 0)) (PJ.cons pe_str (PJ.cons (pe_fmt (pv 1)) PJ.nil)))))))), ?_⟩
  intro rs Pl cs r cs' hp B0 H0 σ Dn st hP hd hn
  obtain ⟨⟨n, t⟩, d, rfl, rfl, hc, rfl, rfl, rfl, rfl⟩ := hp
  have hn8 : n.length ≤ 8 := hc.1.2.2.1
  have l0 : (Str.empty).length = 0 := rfl
  have l1 : ("  plain " : Str).length = 8 := by decide +kernel
  have l2 : ("  ref " : Str).length = 6 := by decide +kernel
  have l3 : (" " : Str).length = 1 := by decide +kernel
  cases t with
  | none =>
    rw [← row_plain] at hd
    exact st_ret st (ev_if (b := true) (et_test (ev_op (ev_var rfl) ev_non od_isN)) (fun _ => ev_joined (ej_cons ev_str (by simp only [len_app]; omega) (ej_cons (ev_fmt (y := n) (ev_var rfl) (by omega)) (by simp only [len_app]; omega) ej_nil))) (fun z => by cases z)) hd
  | some t =>
    have ht8 : t.length ≤ 8 := (hc.2 t rfl).2.2.1
    rw [← row_ref] at hd
    exact st_ret st (ev_if (b := false) (et_test (ev_op (ev_var rfl) ev_non od_isN)) (fun z => by cases z) (fun _ => ev_joined (ej_cons ev_str (by simp only [len_app]; omega) (ej_cons (ev_fmt (y := n) (ev_var rfl) (by omega)) (by simp only [len_app]; omega) (ej_cons ev_str (by simp only [len_app]; omega) (ej_cons (ev_fmt (y := t) (ev_var rfl) (by omega)) (by simp only [len_app]; omega) ej_nil)))))) hd
theorem words_snoc (T : List Tab) (i : Nat) (t : Tab) (h : T[i]? = some t) : rowsOf (T.take (i + 1)) = rowsOf (T.take i) ++ [rowOf ["table", t.1]] ++ t.2.map (fun c => rowOf (colWords c)) := by
  unfold rowsOf words
  rw [List.take_add_one, h, List.flatMap_append, List.map_append]
  have : [t].flatMap tabWords = tabWords t := by simp
  rw [show (some t).toList = [t] from rfl, this]
  unfold tabWords
  rw [List.map_cons, List.map_map, List.append_assoc]
  rfl
theorem rows_len {T : List Tab} (h : tabsOk T) : ∀ i, (rowsOf (T.take i)).length ≤ 5 * i := by
  intro i
  induction i with
  | zero => simp [rowsOf, words]
  | succ i ih =>
    by_cases hi : i < T.length
    · rw [words_snoc T i _ (List.getElem?_eq_getElem hi)]
      simp only [List.length_append, List.length_map, List.length_cons, List.length_nil]
      have := (h.2 _ (List.getElem_mem hi)).2.1
      omega
    · have e : T.take (i + 1) = T.take i := by rw [List.take_of_length_le (by omega), List.take_of_length_le (by omega)]
      rw [e]; omega
theorem ok_rows {f fC : Addr} {fd fdC : FuncData} (F : Fun K "text_rows" "text_rows" s_text_rows f fd) (G_column_row : Def P w K mg base 1 "column_row" fC fdC ["name", "target"] (spM K preColRow)) : FnOk P w K mg base CX0 2 f fd ["tables"] (spM K preRows) := by
  refine ok_body F sc_text_rows (fun rs Pl cs r cs' h => ?_) (fun X hX hr => ?_)
  · obtain ⟨T, rfl, _⟩ := h
    rfl
  obtain ⟨cdv, A, outer, s, H, E, rfl⟩ := hX
  have nd := sc_text_rows.nd
  refine ⟨_, (pss_cons (ps_set (i := 1) nd rfl (.inl rfl) (pe_lst pa_nil))
      (pss_cons (ps_for PassesOwn.never rfl (pi_list (pv 0)) (pg_tup (by rfl) (by exact (pgs_cons (by exact (pg_name (i := 2) nd (by rfl) (by first | exact .inl rfl | exact .inr rfl))) (by exact (pgs_cons (by exact (pg_name (i := 3) nd (by rfl) (by first | exact .inl rfl | exact .inr rfl))) (by exact pgs_nil)))))) (pss_cons (ps_expr (pe_bm PySem.F.plainAttrs_list PySem.F.slot_list_append PySem.F.type_list_append mt_append (pv 1) (pa_cons (pe_joined (PJ.cons pe_str (PJ.cons (pe_fmt (pv 2)) PJ.nil))) pa_nil)))
      (pss_one (ps_expr (pe_bm PySem.F.plainAttrs_list PySem.F.slot_list_extend PySem.F.type_list_extend mt_extend (pv 1) (pa_cons (pe_lc (own := [("name", 4), ("target", 5)]) (g := (gTup K 2 (gCons (gName 4) (gCons (gName 5) gNil)))) (tt := tYes) (te := (tCall _ [] E0 (tCons (tVar 4) (tCons (tVar 5) tNil)))) rfl nd (pi_list (pv 3)) (blkOk_by (N := N_text_rows) (sc := defScope s_text_rows) (by decide +kernel)) (by intro _ _ _ _ _; exact (pg_tup (by rfl) (by exact (pgs_cons (by exact (pg_name (i := 4) nd (by rfl) (by first | exact .inl rfl | exact .inr rfl))) (by exact (pgs_cons (by exact (pg_name (i := 5) nd (by rfl) (by first | exact .inl rfl | exact .inr rfl))) (by exact pgs_nil))))))) (by intro _ _ _ _ _; exact pts_nil) (by intro _ _ _ _ _; exact (pe_def G_column_row hr (by decide) (by rfl) (pa_cons (pv 4) (pa_cons (pv 5) pa_nil))))) pa_nil))))))
      (pss_one (ps_ret (pv 1))))), ?_⟩
  intro rs Pl cs r cs' hp B0 H0 σ Dn st hP hd hn
  obtain ⟨T, rfl, hT, rfl, rfl, rfl, rfl⟩ := hp
  refine st_new (i := 1) st (fun p σ1 H1 hp0 hpn st1 => ?_)
  refine st_for (α := Unit) st1 (wd_lst (ev_var rfl)) (fun _ _ => True) (fun _ _ => [.dat (encTs T), .val (.ref p), .any, .any, .any, .any]) (fun i _ => [(rowsOf (T.take i)).map D.str]) () True.intro ⟨.rfl _, .rfl _, .any _, .any _, .any _, .any _, True.intro⟩ rfl ?_ ?_
  · intro B1 H1' s1 i d z hd' _
    obtain ⟨t, ht, rfl⟩ := map_get hd'
    obtain ⟨hw, hc4, hcs⟩ := hT.2 t (List.mem_of_getElem? ht)
    have hi : i < T.length := (List.getElem?_eq_some_iff.mp ht).1
    have hrl := rows_len hT i
    have h3 := hT.1
    have l0 : (Str.empty).length = 0 := rfl
    have l1 : ("table " : Str).length = 6 := by decide +kernel
    have hn8 : t.1.length ≤ 8 := hw.2.2.1
    refine ⟨_, _, g_tup (g_cons g_name (g_cons g_name g_nil)), fun σ2 H2 st2 => ?_⟩
    refine st_app (j := 0) (cs1 := [(rowsOf (T.take i)).map D.str]) (ds := (rowsOf (T.take i)).map D.str) (d := .str (rowOf ["table", t.1])) st2 rfl ?_ rfl ⟨_, rfl⟩ rfl (by rw [List.length_map]; omega) (fun H3 st3 => ?_)
    · rw [← row_table]
      exact ev_joined (ej_cons ev_str (by simp only [len_app]; omega) (ej_cons (ev_fmt (ev_var rfl) (by omega)) (by simp only [len_app]; omega) ej_nil))
    refine st_ext (j := 0) (ds := (rowsOf (T.take i)).map D.str ++ [D.str (rowOf ["table", t.1])]) (es := (t.2.map encC).map fun d => match d with | .tup [.str n, .non] => .str (rowOf (colWords (n, none))) | .tup [.str n, .str t] => .str (rowOf (colWords (n, some t))) | _ => .non) st3 rfl (EvF.ev (ef_map (wd_lst (ev_var rfl)) _ (by rw [List.length_map]; omega) (fun p' i' d' acc hd2 => ?_))) rfl ⟨_, rfl⟩ rfl (by
      simp only [List.length_append, List.length_map, List.length_cons, List.length_nil]; omega) (fun H4 st4 => ⟨(), True.intro, ?_⟩)
    · obtain ⟨⟨n, t'⟩, hm, rfl⟩ := map_get hd2
      have hco := hcs _ (List.mem_of_getElem? hm)
      cases t' with
      | none => exact ⟨_, _, g_tup (g_cons g_name (g_cons g_name g_nil)), by decide, ev_call0 (ea_cons (ev_var rfl) (ea_cons (ev_var rfl) ea_nil)) ⟨(n, none), .non, rfl, rfl, hco, rfl, rfl, rfl, rfl⟩⟩
      | some t' => exact ⟨_, _, g_tup (g_cons g_name (g_cons g_name g_nil)), by decide, ev_call0 (ea_cons (ev_var rfl) (ea_cons (ev_var rfl) ea_nil)) ⟨(n, some t'), .str t', rfl, rfl, hco, rfl, rfl, rfl, rfl⟩⟩
    · have e : ((rowsOf (T.take i)).map D.str ++ [D.str (rowOf ["table", t.1])]) ++ ((t.2.map encC).map fun d => match d with | .tup [.str n, .non] => .str (rowOf (colWords (n, none))) | .tup [.str n, .str t] => .str (rowOf (colWords (n, some t))) | _ => .non) = (rowsOf (T.take (i + 1))).map D.str := by
        rw [words_snoc T i t ht, List.map_append, List.map_append, List.map_map, List.map_map]
        congr 1
        apply List.map_congr_left
        intro c _
        obtain ⟨n, t'⟩ := c
        cases t' <;> rfl
      show Sta K [p] B1 H1' [.dat (encTs T), .val (.ref p), .any, .any, .any, .any] [(rowsOf (T.take (i + 1))).map D.str] σ2 H4
      rw [← e]
      exact st4.le ⟨.rfl _, .rfl _, .any _, .any _, .rfl _, .rfl _, True.intro⟩
  · intro z σ2 H2 _ st2
    have st3 := Sta.pub (i := 1) st2 hp0 rfl
    rw [List.length_map, List.take_length] at st3
    exact st_ret st3 (ev_var rfl) hd
theorem ok_is_name {f : Addr} {fd : FuncData} (F : Fun K "is_name" "is_name" s_is_name f fd) (b_len : mg "len" = none) (g_MOST_LETTERS : ∃ t, mg "MOST_LETTERS" = some (.int 8 t)) : FnOk P w K mg base CX0 1 f fd ["word"] (spM K preIsName) := by
  obtain ⟨tk, g_MOST_LETTERS⟩ := g_MOST_LETTERS
  refine ok_body F sc_is_name (fun rs Pl cs r cs' h => ?_) (fun X hX hr => ?_)
  · obtain ⟨w, rfl, _⟩ := h
    rfl
  obtain ⟨cdv, A, outer, s, H, E, rfl⟩ := hX
  have nd := sc_is_name.nd
  refine ⟨_, (pss_one (ps_ret (pe_and (pe_cmpR op_le (pe_callB call_len1 (by rfl) b_len PySem.boot_len (pa_cons (pv 0) pa_nil)) (pe_glob (v := .int 8) rfl g_MOST_LETTERS ⟨_, rfl⟩) (nomark _)) (pe_and (pe_m0 PySem.F.slot_str_isascii PySem.F.type_str_isascii mt_isascii (pv 0)) (pe_and (pe_m0 PySem.F.slot_str_isalpha PySem.F.type_str_isalpha mt_isalpha (pv 0)) (pe_one (pe_m0 PySem.F.slot_str_islower PySem.F.type_str_islower mt_islower (pv 0)))))))), ?_⟩
  intro rs Pl cs r cs' hp B0 H0 σ Dn st hP hd hn
  obtain ⟨w, rfl, hl, rfl, rfl, rfl, rfl⟩ := hp
  refine st_ret st (ev_andV (ev_op (ev_cb (ea_cons (ev_var rfl) ea_nil) (cb_lenS hl)) ev_int (od_I0 fun _ => .bl _)) (fun _ => ev_andV (ev_m0 (ev_var rfl) (fun H Q q => ⟨w, rfl, rfl, True.intro, q _ (.bl _)⟩))
    (fun _ => ev_andV (ev_m0 (ev_var rfl) (fun H Q q => ⟨w, rfl, rfl, True.intro, q _ (.bl _)⟩)) (fun _ => ev_m0 (ev_var rfl) (fun H Q q => ⟨w, rfl, rfl, True.intro, q _ (.bl _)⟩))))) hd
theorem ok_is_new {f fN : Addr} {fd fdN : FuncData} (F : Fun K "is_new_name" "is_new_name" s_is_new_name f fd) (G_is_name : Def P w K mg base 1 "is_name" fN fdN ["word"] (spM K preIsName)) : FnOk P w K mg base CX0 2 f fd ["word", "pairs"] (spM K preIsNew) := by
  refine ok_body F sc_is_new_name (fun rs Pl cs r cs' h => ?_) (fun X hX hr => ?_)
  · obtain ⟨w, ds, ns, rfl, _⟩ := h
    rfl
  obtain ⟨cdv, A, outer, s, H, E, rfl⟩ := hX
  have nd := sc_is_new_name.nd
  refine ⟨_, (pss_one (ps_ret (pe_and (pe_def G_is_name hr (by decide) (by rfl) (pa_cons (pv 0) pa_nil)) (pe_one (pe_cmpR op_notIn_seq (pv 0) (pe_lc (own := [("pair", 2)]) (g := (gName 2)) (tt := tYes) (te := (tOp (rIx K) (tVar 2) (tC (.int 0)))) rfl nd (pi_list (pv 1)) (blkOk_by (N := N_is_new_name) (sc := defScope s_is_new_name) (by decide +kernel)) (by intro _ _ _ _ _; exact (pg_name (i := 2) nd (by rfl) (by first | exact .inl rfl | exact .inr rfl))) (by intro _ _ _ _ _; exact pts_nil) (by intro _ _ _ _ _; exact (pe_ix ix_seq (pv 2) pe_int (fun _ _ => rfl)))) (by rfl)))))), ?_⟩
  intro rs Pl cs r cs' hp B0 H0 σ Dn st hP hd hn
  obtain ⟨w, ds, ns, rfl, hl, hdl, hm, ht, rfl, rfl, rfl, rfl⟩ := hp
  refine st_ret st (ev_andV (ev_call0 (ea_cons (ev_var rfl) ea_nil) ⟨w, rfl, hl, rfl, rfl, rfl, rfl⟩) (fun _ => ev_op (ev_var rfl) (hm ▸ EvF.ev (ef_map (wd_lst (ev_var rfl)) fstD (by omega) (fun p i d acc hd' => ?_))) od_niS)) hd
  have hi := ht d (List.mem_of_getElem? hd')
  match d, hi with
  | .tup (x :: r), _ => exact ⟨_, _, g_name, by decide, ev_op (ev_var rfl) ev_int (od_ixT (atI_nat (j := 0) rfl))⟩
theorem strs_get {ws : List Str} {j : Nat} {x : Str} (h : ws[j]? = some x) : (ws.map D.str)[j]? = some (.str x) := by rw [List.getElem?_map, h]; rfl
theorem ok_begins {f fN : Addr} {fd fdN : FuncData} (F : Fun K "begins_table" "begins_table" s_begins_table f fd) (G_is_new_name : Def P w K mg base 2 "is_new_name" fN fdN ["word", "pairs"] (spM K preIsNew)) (b_len : mg "len" = none)
    (g_MOST_TABLES : ∃ t, mg "MOST_TABLES" = some (.int 3 t)) : FnOk P w K mg base CX0 3 f fd ["tables", "words"] (spM K preBegins) := by
  obtain ⟨tk, g_MOST_TABLES⟩ := g_MOST_TABLES
  refine ok_body F sc_begins_table (fun rs Pl cs r cs' h => ?_) (fun X hX hr => ?_)
  · obtain ⟨T, ws, rfl, _⟩ := h
    rfl
  obtain ⟨cdv, A, outer, s, H, E, rfl⟩ := hX
  have nd := sc_begins_table.nd
  refine ⟨_, (pss_cons (ps_if (PW.pt (pw_or (pt_cmpR (op_neA hr.units) (pe_callB call_len1 (by rfl) b_len PySem.boot_len (pa_cons (pv 1) pa_nil)) pe_int (nomark _)) (pw_or1 (pt_cmpR (op_neA hr.units) (pe_ix ix_seq (pv 1) pe_int (fun _ _ => rfl)) pe_str (nomark _))))) (pss_one (ps_ret pe_bl)) pss_nil)
      (pss_one (ps_ret (pe_and (pe_cmpR op_lt (pe_callB call_len1 (by rfl) b_len PySem.boot_len (pa_cons (pv 0) pa_nil)) (pe_glob (v := .int 3) rfl g_MOST_TABLES ⟨_, rfl⟩) (nomark _)) (pe_one (pe_def G_is_new_name hr (by decide) (by rfl) (pa_cons (pe_ix ix_seq (pv 1) pe_int (fun _ _ => rfl)) (pa_cons (pv 0) pa_nil)))))))), ?_⟩
  intro rs Pl cs r cs' hp B0 H0 σ Dn st hP hd hn
  obtain ⟨T, ws, rfl, hT, hws, rfl, rfl, rfl, rfl⟩ := hp
  have hlen : decide (((ws.map D.str).length : Int) = 2) = decide (ws.length = 2) := by
    rw [List.length_map, Bool.eq_iff_iff]
    simp only [decide_eq_true_eq]
    omega
  by_cases h2 : ws.length = 2
  · obtain ⟨a, b, rfl⟩ : ∃ a b, ws = [a, b] := by
      match ws, h2 with
      | [a, b], _ => exact ⟨a, b, rfl⟩
    have e : (!decide ((([a, b] : List Str).map D.str).length = (2 : Int))) = false := by rfl
    have hb := hws.2 b (by simp)
    refine st_if (b := !decide (a = "table")) st (EvT.eq (et_or (et_test (ev_op (ev_cb (ea_cons (ev_var rfl) ea_nil) cb_lenL) ev_int od_neI)) (fun _ => et_test (ev_op (ev_op (ev_var rfl) ev_int (od_ixL (atI_nat (j := 0) rfl))) ev_str od_neS))) rfl) (fun hb' H1 st1 => ?_) (fun hb' H1 st1 => ?_)
    · have hne : beginsT T [a, b] = false := by
        have : decide (a = ("table" : Str)) = false := by simpa using hb'
        unfold beginsT
        simp only [this, Bool.false_and]
      rw [hne] at hd
      exact st_ret st1 ev_bl hd
    · have he : beginsT T [a, b] = (decide ((T.length : Int) < 3) && isNew b (T.map Prod.fst)) := by
        have : decide (a = ("table" : Str)) = true := by simpa using hb'
        unfold beginsT
        simp only [this, Bool.true_and]
      rw [he] at hd
      have hl : ((T.map encT).length : Int) = (T.length : Int) := by rw [List.length_map]
      refine st_ret st1 (ev_andV (a := decide ((T.length : Int) < 3)) (Ev.eq (ev_op (ev_cb (ea_cons (ev_var rfl) ea_nil) cb_lenL) ev_int (od_I0 fun _ => .bl _)) (by rw [List.length_map])) (fun _ => ?_)) hd
      exact ev_call0 (ea_cons (ev_op (ev_var rfl) ev_int (od_ixL (atI_nat (j := 1) rfl))) (ea_cons (ev_var rfl) ea_nil)) ⟨b, T.map encT, T.map Prod.fst, rfl, hb.1, by rw [List.length_map]; exact hT, fst_encT T, tup_encT T, rfl, rfl, rfl, rfl⟩
  · have hne : beginsT T ws = false := by
      unfold beginsT
      match ws, h2 with
      | [], _ => rfl
      | [_], _ => rfl
      | _ :: _ :: _ :: _, _ => rfl
    rw [hne] at hd
    refine st_if (b := true) st (EvT.eq (et_or (b := true) (et_test (ev_op (ev_cb (ea_cons (ev_var rfl) ea_nil) cb_lenL) ev_int od_neI)) (fun z => ?_)) ?_) (fun hb' H1 st1 => st_ret st1 ev_bl hd) (fun z => by cases z)
    · rw [hlen, decide_eq_false h2] at z
      cases z
    · rw [hlen, decide_eq_false h2]
      rfl
/-- the words ahead: ws[:3] == [x, y, z] -/
theorem cut3 (ws : List Str) : cutD (ws.map D.str) none (some 3) = (ws.take 3).map D.str := by
  unfold cutD
  rw [HT.sIx_none, show HT.sIx (ws.map D.str).length (ws.map D.str).length (some 3) = min 3 (ws.map D.str).length from HT.sIx_nat _ _ 3]
  rw [List.drop_zero, Nat.sub_zero, ← List.map_take]
  rw [List.length_map]
  congr 1
  by_cases h : 3 ≤ ws.length
  · rw [Nat.min_eq_left h]
  · rw [Nat.min_eq_right (by omega), List.take_of_length_le (by omega), List.take_of_length_le (by omega)]
theorem sh_strs {l : List Str} (h : ∀ w ∈ l, PyData.strOk w = true) : D.sh 1 (.lst (l.map D.str)) = true := D.shA_all fun d hd => by
  obtain ⟨x, hx, rfl⟩ := List.mem_map.mp hd
  exact h x hx
theorem nb_strs (l : List Str) : D.nb (.lst (l.map D.str)) = true := D.nbA_all fun d hd => by
  obtain ⟨x, hx, rfl⟩ := List.mem_map.mp hd
  rfl
theorem strs_inj {l m : List Str} : D.lst (l.map D.str) = D.lst (m.map D.str) ↔ l = m := by
  constructor
  · intro h
    have h' : l.map D.str = m.map D.str := D.lst.inj h
    exact List.map_inj_right (fun a b e => D.str.inj e) |>.mp h'
  · intro h; rw [h]
theorem et_take3 {Pl : List Addr} {ss : List Sl} {cs : List (List D)} {ws : List Str} {x y z : Str} {i : Nat} (hi : ss[i]? = some (.dat (.lst (ws.map D.str)))) (hws : wordsIn ws) (hx : PyData.strOk x = true) (hy : PyData.strOk y = true) (hz : PyData.strOk z = true) :
    EvT K Pl ss cs (tTest (tOp (neA K) (tSl (rSl3 K) (tVar i) tNoPart (tPart (tC (.int 3)))) (tLst (tCons (tC (.str x)) (tCons (tC (.str y)) (tCons (tC (.str z)) tNil)))))) (!decide (ws.take 3 = [x, y, z])) cs := by
  refine et_test (ev_op (r1 := .dat (.lst ((ws.take 3).map D.str))) (r2 := .dat (.lst (([x, y, z] : List Str).map D.str))) (cut3 ws ▸ ev_sl (ev_var hi) eo_none (eo_some ev_int) sd_L) (ev_lst (ds := [.str x, .str y, .str z]) (ea_cons ev_str (ea_cons ev_str (ea_cons ev_str ea_nil))) (by simp)) (od_r (od_ne 1 1 (sh_strs fun w hw => (hws.2 w (List.mem_of_mem_take hw)).2) (sh_strs ?_) (nb_strs _) (nb_strs _) ?_)))
  · intro w hw
    simp only [List.mem_cons, List.not_mem_nil, or_false] at hw
    rcases hw with rfl | rfl | rfl <;> assumption
  · rw [decide_eq_true_eq]
    exact strs_inj.symm
theorem lastD (T : List Tab) (t : Tab) : atI ((T ++ [t]).map encT) (-1) = some (encT t) := by
  rw [List.map_append]
  exact atI_last _ _
theorem addsP_take {T : List Tab} {t : Tab} {ws : List Str} (h : addsP (T ++ [t]) ws = true) : ws.length = 4 ∧ ws.take 3 = (["", "", "plain"] : List Str) := by
  unfold addsP at h
  rw [last_snoc] at h
  match ws, h with
  | [a, b, c, d], h =>
    simp only [Bool.and_eq_true, decide_eq_true_eq] at h
    exact ⟨rfl, h.1⟩
theorem isNewT {ws : List Str} {j : Nat} {d : Str} (h : ws[j]? = some d) (hws : wordsIn ws) : d.length ≤ 1000000 := (hws.2 d (List.mem_of_getElem? h)).1
theorem ok_plain {f fC fN : Addr} {fd fdC fdN : FuncData} (F : Fun K "adds_plain" "adds_plain" s_adds_plain f fd) (G_count_references : Def P w K mg base 1 "count_references" fC fdC ["columns"] (spM K preCount))
    (G_is_new_name : Def P w K mg base 2 "is_new_name" fN fdN ["word", "pairs"] (spM K preIsNew)) (b_len : mg "len" = none) (g_MOST_PLAIN : ∃ t, mg "MOST_PLAIN" = some (.int 2 t)) : FnOk P w K mg base CX0 3 f fd ["tables", "words"] (spM K prePlain) := by
  obtain ⟨tk, g_MOST_PLAIN⟩ := g_MOST_PLAIN
  refine ok_body F sc_adds_plain (fun rs Pl cs r cs' h => ?_) (fun X hX hr => ?_)
  · obtain ⟨T, ws, rfl, _⟩ := h
    rfl
  obtain ⟨cdv, A, outer, s, H, E, rfl⟩ := hX
  have nd := sc_adds_plain.nd
  refine ⟨_, (pss_cons (ps_if (PW.pt (pw_or (pt_not (pt_truth (pv 0) (by intro _; rfl))) (pw_or (pt_cmpR (op_neA hr.units) (pe_callB call_len1 (by rfl) b_len PySem.boot_len (pa_cons (pv 1) pa_nil)) pe_int (nomark _)) (pw_or1 (pt_cmpR (op_neA hr.units) (pe_slice sl_3 (pv 1) po_none (po_some pe_int)) (pe_lst (pa_cons pe_str (pa_cons pe_str (pa_cons pe_str pa_nil)))) (nomark _)))))) (pss_one (ps_ret pe_bl)) pss_nil)
      (pss_cons (ps_set (i := 2) nd rfl (.inl rfl) (pe_ix ix_seq (pe_ix ix_seq (pv 0) (pe_un un_neg pe_int) (fun _ _ => rfl)) pe_int (fun _ _ => rfl)))
      (pss_cons (ps_if (PW.pt (pw_or (pt_cmpR op_gt (pe_def G_count_references hr (by decide) (by rfl) (pa_cons (pv 2) pa_nil)) pe_int (nomark _)) (pw_or1 (pt_cmpR (op_eqA hr.units) (pe_callB call_len1 (by rfl) b_len PySem.boot_len (pa_cons (pv 2) pa_nil)) (pe_glob (v := .int 2) rfl g_MOST_PLAIN ⟨_, rfl⟩) (nomark _))))) (pss_one (ps_ret pe_bl)) pss_nil)
      (pss_one (ps_ret (pe_def G_is_new_name hr (by decide) (by rfl) (pa_cons (pe_ix ix_seq (pv 1) pe_int (fun _ _ => rfl)) (pa_cons (pv 2) pa_nil)))))))), ?_⟩
  intro rs Pl cs r cs' hp B0 H0 σ Dn st hP hd hn
  obtain ⟨T, ws, rfl, hT, hws, rfl, rfl, rfl, rfl⟩ := hp
  refine st_if (b := (!(!(T.map encT).isEmpty)) || ((!decide (((ws.map D.str).length : Int) = 4)) || !decide (ws.take 3 = (["", "", "plain"] : List Str)))) st
    (et_or (et_not (et_truL (ev_var rfl))) (fun _ => et_or (et_test (ev_op (ev_cb (ea_cons (ev_var rfl) ea_nil) cb_lenL) ev_int od_neI)) (fun _ => et_take3 rfl hws wordOk_empty.2.2.2 wordOk_empty.2.2.2 wordOk_plain.2.2.2))) (fun hb H1 st1 => ?_) (fun hb H1 st1 => ?_)
  · have hne : addsP T ws = false := by
      rcases List.eq_nil_or_concat T with rfl | ⟨T', t, rfl⟩
      · unfold addsP
        match ws with
        | [] => rfl
        | [_] => rfl
        | [_, _] => rfl
        | [_, _, _] => rfl
        | [_, _, _, _] => rfl
        | _ :: _ :: _ :: _ :: _ :: _ => rfl
      · cases e : addsP (T'.concat t) ws with
        | false => rfl
        | true =>
          rw [List.concat_eq_append] at e hb
          obtain ⟨h1, h2⟩ := addsP_take e
          rw [h2, List.length_map, h1] at hb
          simp at hb
    rw [hne] at hd
    exact st_ret st1 ev_bl hd
  · simp only [Bool.or_eq_false_iff, Bool.not_eq_false', Bool.not_eq_true', decide_eq_true_eq, List.length_map] at hb
    obtain ⟨h0, h1, h2⟩ := hb
    rcases List.eq_nil_or_concat T with rfl | ⟨T', t, rfl⟩
    · simp at h0
    rw [List.concat_eq_append] at *
    obtain ⟨a, b, c, d, rfl⟩ : ∃ a b c d, ws = [a, b, c, d] := by
      match ws, (show ws.length = 4 by omega) with
      | [a, b, c, d], _ => exact ⟨a, b, c, d, rfl⟩
    have habc : ([a, b, c] : List Str) = (["", "", "plain"] : List Str) := h2
    have htl : t.2.length ≤ 1000 := hT.2 t (by simp)
    have he : addsP (T' ++ [t]) [a, b, c, d] = (!(decide (0 < (refsN t.2 : Int)) || decide ((t.2.length : Int) = 2)) && isNew d (t.2.map Prod.fst)) := by
      unfold addsP
      rw [last_snoc]
      simp only [habc, decide_true, Bool.true_and]
    rw [he] at hd
    refine st_asg (i := 2) (r := .dat (.lst (t.2.map encC))) (cs1 := []) st1 (ev_op (ev_op (ev_var (r := .dat (encTs (T' ++ [t]))) rfl) (ev_un (r1 := .dat (.int 1)) (r := .dat (.int (-1))) ev_int (fun B H x e h Q q => by
      cases (show Rp _ B x (.int 1) from h)
      exact ⟨1, rfl, q _ B H (Stp.refl _ _ _) e (.int _)⟩)) (od_ixL (lastD T' t))) ev_int (od_ixT (atI_nat (j := 1) rfl))) (fun σ2 H2 st2 => ?_)
    refine st_if (b := decide (0 < (refsN t.2 : Int)) || decide (((t.2.map encC).length : Int) = 2)) st2 (et_or (et_test (ev_op (ev_call0 (ea_cons (ev_var rfl) ea_nil) ⟨t.2, rfl, htl, rfl, rfl, rfl, rfl⟩) ev_int (od_I0 fun _ => .bl _))) (fun _ => et_test (ev_op (ev_cb (ea_cons (ev_var rfl) ea_nil) cb_lenL) ev_int od_eqI))) (fun hb H3 st3 => ?_) (fun hb H3 st3 => ?_)
    · rw [List.length_map] at hb
      rw [hb] at hd
      exact st_ret st3 ev_bl hd
    · rw [List.length_map] at hb
      rw [hb] at hd
      exact st_ret st3 (ev_call0 (ea_cons (ev_op (ev_var rfl) ev_int (od_ixL (atI_nat (j := 3) rfl))) (ea_cons (ev_var rfl) ea_nil)) ⟨d, t.2.map encC, t.2.map Prod.fst, rfl, isNewT (j := 3) rfl hws, by rw [List.length_map]; exact htl, fst_encC _, tup_encC _, rfl, rfl, rfl, rfl⟩) hd
theorem addsR_take {T : List Tab} {t : Tab} {ws : List Str} (h : addsR (T ++ [t]) ws = true) : ws.length = 5 ∧ ws.take 3 = (["", "", "ref"] : List Str) := by
  unfold addsR at h
  rw [last_snoc] at h
  match ws, h with
  | [a, b, c, d, e], h =>
    simp only [Bool.and_eq_true, decide_eq_true_eq] at h
    exact ⟨rfl, h.1⟩
theorem cutLast (T : List Tab) (t : Tab) : cutD ((T ++ [t]).map encT) none (some (-1)) = T.map encT := by
  unfold cutD
  rw [HT.sIx_none]
  have e : HT.sIx ((T ++ [t]).map encT).length ((T ++ [t]).map encT).length (some (-1)) = T.length := by
    show (if (-1 : Int) < 0 then ((-1 : Int) + (((T ++ [t]).map encT).length : Int)).toNat else min (-1 : Int).toNat ((T ++ [t]).map encT).length) = T.length
    rw [if_pos (by decide)]
    simp
    omega
  rw [e, List.drop_zero, Nat.sub_zero, List.map_append, List.take_append_of_le_length (by simp), List.take_of_length_le (by simp)]
theorem ev_neg1 {Pl : List Addr} {ss : List Sl} {cs : List (List D)} : Ev K Pl ss cs (tUn (rU fun i => .int (-i)) (tC (.int 1))) (.dat (.int (-1))) cs := ev_un (r1 := .dat (.int 1)) ev_int (fun B H x e h Q q => by
  cases (show Rp K B x (.int 1) from h)
  exact ⟨1, rfl, q _ B H (Stp.refl _ _ _) e (.int _)⟩)
theorem ok_ref {f fC fN : Addr} {fd fdC fdN : FuncData} (F : Fun K "adds_reference" "adds_reference" s_adds_reference f fd) (G_count_references : Def P w K mg base 1 "count_references" fC fdC ["columns"] (spM K preCount))
    (G_is_new_name : Def P w K mg base 2 "is_new_name" fN fdN ["word", "pairs"] (spM K preIsNew)) (b_len : mg "len" = none) (b_sum : mg "sum" = none) (g_MOST_REFERENCES : ∃ t, mg "MOST_REFERENCES" = some (.int 2 t)) (g_MOST_REFERENCES_IN_ALL : ∃ t, mg "MOST_REFERENCES_IN_ALL" = some (.int 3 t)) :
    FnOk P w K mg base CX0 3 f fd ["tables", "words"] (spM K preRef) := by
  obtain ⟨tk, g_MOST_REFERENCES⟩ := g_MOST_REFERENCES
  obtain ⟨tk2, g_MOST_REFERENCES_IN_ALL⟩ := g_MOST_REFERENCES_IN_ALL
  refine ok_body F sc_adds_reference (fun rs Pl cs r cs' h => ?_) (fun X hX hr => ?_)
  · obtain ⟨T, ws, rfl, _⟩ := h
    rfl
  obtain ⟨cdv, A, outer, s, H, E, rfl⟩ := hX
  have nd := sc_adds_reference.nd
  refine ⟨_, (pss_cons (ps_if (PW.pt (pw_or (pt_not (pt_truth (pv 0) (by intro _; rfl))) (pw_or (pt_cmpR (op_neA hr.units) (pe_callB call_len1 (by rfl) b_len PySem.boot_len (pa_cons (pv 1) pa_nil)) pe_int (nomark _)) (pw_or1 (pt_cmpR (op_neA hr.units) (pe_slice sl_3 (pv 1) po_none (po_some pe_int)) (pe_lst (pa_cons pe_str (pa_cons pe_str (pa_cons pe_str pa_nil)))) (nomark _)))))) (pss_one (ps_ret pe_bl)) pss_nil)
      (pss_cons (ps_set (i := 2) nd rfl (.inl rfl) (pe_ix ix_seq (pe_ix ix_seq (pv 0) (pe_un un_neg pe_int) (fun _ _ => rfl)) pe_int (fun _ _ => rfl)))
      (pss_cons (ps_if (pt_cmpR (op_eqA hr.units) (pe_def G_count_references hr (by decide) (by rfl) (pa_cons (pv 2) pa_nil)) (pe_glob (v := .int 2) rfl g_MOST_REFERENCES ⟨_, rfl⟩) (nomark _)) (pss_one (ps_ret pe_bl)) pss_nil)
      (pss_cons (ps_if (pt_cmpR (op_eqA hr.units) (pe_callB (cr_sum rfl) (by rfl) b_sum (by decide +kernel) (pa_cons (pe_lc (own := [("pair", 4)]) (g := (gName 4)) (tt := tYes) (te := (tCall _ [] E0 (tCons (tOp (rIx K) (tVar 4) (tC (.int 1))) tNil))) rfl nd (pi_list (pv 0)) (blkOk_by (N := N_adds_reference) (sc := defScope s_adds_reference) (by decide +kernel)) (by intro _ _ _ _ _; exact (pg_name (i := 4) nd (by rfl) (by first | exact .inl rfl | exact .inr rfl))) (by intro _ _ _ _ _; exact pts_nil) (by intro _ _ _ _ _; exact (pe_def G_count_references hr (by decide) (by rfl) (pa_cons (pe_ix ix_seq (pv 4) pe_int (fun _ _ => rfl)) pa_nil)))) pa_nil)) (pe_glob (v := .int 3) rfl g_MOST_REFERENCES_IN_ALL ⟨_, rfl⟩) (nomark _)) (pss_one (ps_ret pe_bl)) pss_nil)
      (pss_cons (ps_setLc (i := 3) (own := [("pair", 4)]) (g := (gName 4)) (tt := tYes) (te := (tOp (rIx K) (tVar 4) (tC (.int 0)))) rfl nd rfl rfl (sw_true rfl rfl rfl (by decide +kernel)) (pi_list (pe_slice sl_3 (pv 0) po_none (po_some (pe_un un_neg pe_int)))) (blkOk_by (N := N_adds_reference) (sc := defScope s_adds_reference) (by decide +kernel)) (by intro _ _ _ _ _; exact (pg_name (i := 4) nd (by rfl) (by first | exact .inl rfl | exact .inr rfl))) (by intro _ _ _ _ _; exact pts_nil) (by intro _ _ _ _ _; exact (pe_ix ix_seq (pv 4) pe_int (fun _ _ => rfl))))
      (pss_one (ps_ret (pe_and (pe_def G_is_new_name hr (by decide) (by rfl) (pa_cons (pe_ix ix_seq (pv 1) pe_int (fun _ _ => rfl)) (pa_cons (pv 2) pa_nil))) (pe_one (pe_cmpR op_in_seq (pe_ix ix_seq (pv 1) pe_int (fun _ _ => rfl)) (pv 3) (by rfl))))))))))), ?_⟩
  intro rs Pl cs r cs' hp B0 H0 σ Dn st hP hd hn
  obtain ⟨T, ws, rfl, hT, hws, rfl, rfl, rfl, rfl⟩ := hp
  refine st_if (b := (!(!(T.map encT).isEmpty)) || ((!decide (((ws.map D.str).length : Int) = 5)) || !decide (ws.take 3 = (["", "", "ref"] : List Str)))) st
    (et_or (et_not (et_truL (ev_var rfl))) (fun _ => et_or (et_test (ev_op (ev_cb (ea_cons (ev_var rfl) ea_nil) cb_lenL) ev_int od_neI)) (fun _ => et_take3 rfl hws wordOk_empty.2.2.2 wordOk_empty.2.2.2 wordOk_ref.2.2.2))) (fun hb H1 st1 => ?_) (fun hb H1 st1 => ?_)
  · have hne : addsR T ws = false := by
      rcases List.eq_nil_or_concat T with rfl | ⟨T', t, rfl⟩
      · unfold addsR
        match ws with
        | [] => rfl
        | [_] => rfl
        | [_, _] => rfl
        | [_, _, _] => rfl
        | [_, _, _, _] => rfl
        | [_, _, _, _, _] => rfl
        | _ :: _ :: _ :: _ :: _ :: _ :: _ => rfl
      · cases e : addsR (T'.concat t) ws with
        | false => rfl
        | true =>
          rw [List.concat_eq_append] at e hb
          obtain ⟨h1, h2⟩ := addsR_take e
          rw [h2, List.length_map, h1] at hb
          simp at hb
    rw [hne] at hd
    exact st_ret st1 ev_bl hd
  · simp only [Bool.or_eq_false_iff, Bool.not_eq_false', Bool.not_eq_true', decide_eq_true_eq, List.length_map] at hb
    obtain ⟨h0, h1, h2⟩ := hb
    rcases List.eq_nil_or_concat T with rfl | ⟨T', t, rfl⟩
    · simp at h0
    rw [List.concat_eq_append] at *
    obtain ⟨a, b, c, d, e, rfl⟩ : ∃ a b c d e, ws = [a, b, c, d, e] := by
      match ws, (show ws.length = 5 by omega) with
      | [a, b, c, d, e], _ => exact ⟨a, b, c, d, e, rfl⟩
    have habc : ([a, b, c] : List Str) = (["", "", "ref"] : List Str) := h2
    have htl : t.2.length ≤ 1000 := hT.2 t (by simp)
    have he : addsR (T' ++ [t]) [a, b, c, d, e] = (!decide ((refsN t.2 : Int) = 2) && (!decide ((sumRefs (T' ++ [t]) : Int) = 3) && (isNew d (t.2.map Prod.fst) && decide (e ∈ T'.map Prod.fst)))) := by
      unfold addsR
      rw [last_snoc, drop_snoc]
      simp only [habc, decide_true, Bool.true_and]
    rw [he] at hd
    refine st_asg (i := 2) (r := .dat (.lst (t.2.map encC))) (cs1 := []) st1 (ev_op (ev_op (ev_var (r := .dat (encTs (T' ++ [t]))) rfl) ev_neg1 (od_ixL (lastD T' t))) ev_int (od_ixT (atI_nat (j := 1) rfl))) (fun σ2 H2 st2 => ?_)
    refine st_if st2 (et_test (ev_op (ev_call0 (ea_cons (ev_var rfl) ea_nil) ⟨t.2, rfl, htl, rfl, rfl, rfl, rfl⟩) ev_int od_eqI)) (fun hb H3 st3 => ?_) (fun hb H3 st3 => ?_)
    · rw [hb] at hd
      exact st_ret st3 ev_bl hd
    rw [hb] at hd
    have hsum : ((T' ++ [t]).map fun t => (refsN t.2 : Int)).sum = (sumRefs (T' ++ [t]) : Int) := by
      unfold sumRefs
      generalize T' ++ [t] = L
      induction L with
      | nil => rfl
      | cons x r ih => simp only [List.map_cons, List.sum_cons, ih]; omega
    refine st_ns ?_
    refine st_if (b := decide ((sumRefs (T' ++ [t]) : Int) = 3)) (cs1 := []) st3 ?_ (fun hb H4 st4 => ?_) (fun hb H4 st4 => ?_)
    · refine et_test (ev_op (r1 := .dat (.int (sumRefs (T' ++ [t]) : Int))) (cs1 := []) ?_ ev_int od_eqI)
      rw [← hsum]
      refine ev_cb (cs1 := []) (ea_cons (EvF.ev (ds := ((T' ++ [t]).map fun t => (refsN t.2 : Int)).map D.int) ?_) ea_nil) cb_sum
      rw [List.map_map]
      refine ef_mapE (enc := encT) (cs1 := []) (wd_lst (ev_var rfl)) _ (by have := hT.1; omega) (fun p i x acc hx => ?_)
      exact ⟨_, _, g_name, by decide, ev_call0 (ea_cons (ev_op (ev_var rfl) ev_int (od_ixT (atI_nat (j := 1) rfl))) ea_nil) ⟨x.2, rfl, hT.2 x (List.mem_of_getElem? hx), rfl, rfl, rfl, rfl⟩⟩
    · rw [hb] at hd
      exact st_ret st4 ev_bl hd
    rw [hb] at hd
    refine st_ns ?_
    refine st_asg (i := 3) (r := .dat (.lst ((T'.map Prod.fst).map D.str))) (cs1 := []) st4 (EvF.ev ?_) (fun σ5 H5 st5 => ?_)
    · rw [List.map_map]
      refine ef_mapE (enc := encT) (cs1 := []) (wd_lst (cutLast T' t ▸ ev_sl (r1 := .dat (.lst ((T' ++ [t]).map encT))) (ev_var (i := 0) rfl) eo_none (eo_some ev_neg1) sd_L)) _ (by have := hT.1; rw [List.length_append] at this; omega) (fun p i x acc hx => ?_)
      exact ⟨_, _, g_name, by decide, ev_op (ev_var rfl) ev_int (od_ixT (atI_nat (j := 0) rfl))⟩
    exact st_ret st5 (ev_andV (ev_call0 (ea_cons (ev_op (ev_var rfl) ev_int (od_ixL (atI_nat (j := 3) rfl))) (ea_cons (ev_var rfl) ea_nil)) ⟨d, t.2.map encC, t.2.map Prod.fst, rfl, isNewT (j := 3) rfl hws, by rw [List.length_map]; exact htl, fst_encC _, tup_encC _, rfl, rfl, rfl, rfl⟩)
      (fun _ => ev_op (ev_op (ev_var rfl) ev_int (od_ixL (atI_nat (j := 4) rfl))) (ev_var rfl) od_inS)) hd
end
end T3
/-! PM2: texts, bounds, beginnings. -/
namespace PM
open PySem L2
def Bnd (T : List Tab) : Prop := T.length ≤ 3 ∧ ∀ t ∈ T, refsN t.2 ≤ 2 ∧ t.2.length ≤ refsN t.2 + 2
theorem refsN_snoc (cs : List Col) (c : Col) : refsN (cs ++ [c]) = refsN cs + if c.2.isSome then 1 else 0 := by
  unfold refsN
  rw [List.filter_append, List.length_append]
  cases h : c.2.isSome <;> simp [h]
theorem last_some {T : List Tab} {t : Tab} (h : T.getLast? = some t) : ∃ T', T = T' ++ [t] := by
  rcases List.eq_nil_or_concat T with rfl | ⟨T', x, rfl⟩
  · simp at h
  · rw [List.concat_eq_append, last_snoc] at h
    exact ⟨T', by rw [List.concat_eq_append, Option.some.inj h]⟩
theorem addCol_snoc (T : List Tab) (t : Tab) (c : Col) : addCol (T ++ [t]) c = T ++ [(t.1, t.2 ++ [c])] := by
  unfold addCol
  rw [last_snoc, drop_snoc]
theorem addsP_last {T : List Tab} {ws : List Str} (h : addsP T ws = true) : ∃ T' t, T = T' ++ [t] ∧ ∃ d : Str, ws = (["", "", "plain", d] : List Str) ∧ refsN t.2 = 0 ∧ t.2.length ≠ 2 := by
  unfold addsP at h
  split at h
  · rename_i a b c d t ht
    obtain ⟨T', rfl⟩ := last_some ht
    simp only [Bool.and_eq_true, decide_eq_true_eq, Bool.not_eq_true', Bool.or_eq_false_iff, decide_eq_false_iff_not] at h
    obtain ⟨h1, ⟨h2, h3⟩, _⟩ := h
    refine ⟨T', t, rfl, d, ?_, by omega, by omega⟩
    have e1 : a = "" := by injection h1
    have e2 : b = "" := by injection h1 with _ h1; injection h1
    have e3 : c = "plain" := by injection h1 with _ h1; injection h1 with _ h1; injection h1
    rw [e1, e2, e3]
  · cases h
theorem addsR_last {T : List Tab} {ws : List Str} (h : addsR T ws = true) : ∃ T' t, T = T' ++ [t] ∧ ∃ d e : Str, ws = (["", "", "ref", d, e] : List Str) ∧ refsN t.2 ≠ 2 := by
  unfold addsR at h
  split at h
  · rename_i a b c d e t ht
    obtain ⟨T', rfl⟩ := last_some ht
    simp only [Bool.and_eq_true, decide_eq_true_eq, Bool.not_eq_true', decide_eq_false_iff_not] at h
    obtain ⟨h1, h2, _⟩ := h
    refine ⟨T', t, rfl, d, e, ?_, by omega⟩
    have e1 : a = "" := by injection h1
    have e2 : b = "" := by injection h1 with _ h1; injection h1
    have e3 : c = "ref" := by injection h1 with _ h1; injection h1 with _ h1; injection h1
    rw [e1, e2, e3]
  · cases h
theorem beginsT_is {T : List Tab} {ws : List Str} (h : beginsT T ws = true) : ∃ b : Str, ws = (["table", b] : List Str) ∧ T.length < 3 := by
  unfold beginsT at h
  split at h
  · rename_i a b
    simp only [Bool.and_eq_true, decide_eq_true_eq] at h
    exact ⟨b, by rw [h.1], by omega⟩
  · cases h
/-- how a row is read -/
theorem step_cases {T T1 : List Tab} {ws : List Str} (h : step T ws = some T1) :
    (∃ n : Str, beginsT T ws = true ∧ ws = (["table", n] : List Str) ∧ T1 = T ++ [(n, [])]) ∨
    (∃ (T' : List Tab) (t : Tab) (d : Str), beginsT T ws = false ∧ addsP T ws = true ∧ T = T' ++ [t] ∧ ws = (["", "", "plain", d] : List Str) ∧ T1 = T' ++ [(t.1, t.2 ++ [(d, none)])]) ∨
    (∃ (T' : List Tab) (t : Tab) (d e : Str), beginsT T ws = false ∧ addsP T ws = false ∧ addsR T ws = true ∧ T = T' ++ [t] ∧ ws = (["", "", "ref", d, e] : List Str) ∧ T1 = T' ++ [(t.1, t.2 ++ [(d, some e)])]) := by
  unfold step at h
  cases hb : beginsT T ws with
  | true =>
    rw [hb, if_pos rfl] at h
    obtain ⟨n, rfl, _⟩ := beginsT_is hb
    exact .inl ⟨n, rfl, rfl, (Option.some.inj h).symm⟩
  | false =>
    rw [hb, if_neg Bool.false_ne_true] at h
    cases hp : addsP T ws with
    | true =>
      rw [hp, if_pos rfl] at h
      obtain ⟨T', t, rfl, d, rfl, _⟩ := addsP_last hp
      refine .inr (.inl ⟨T', t, d, rfl, rfl, rfl, rfl, ?_⟩)
      rw [addCol_snoc] at h
      exact (Option.some.inj h).symm
    | false =>
      rw [hp, if_neg Bool.false_ne_true] at h
      cases hr : addsR T ws with
      | true =>
        rw [hr, if_pos rfl] at h
        obtain ⟨T', t, rfl, d, e, rfl, _⟩ := addsR_last hr
        refine .inr (.inr ⟨T', t, d, e, rfl, rfl, rfl, rfl, rfl, ?_⟩)
        rw [addCol_snoc] at h
        exact (Option.some.inj h).symm
      | false =>
        rw [hr, if_neg Bool.false_ne_true] at h
        cases h
theorem Bnd.step {T T1 : List Tab} {ws : List Str} (b : Bnd T) (h : step T ws = some T1) : Bnd T1 := by
  rcases step_cases h with ⟨n, hb, _, rfl⟩ | ⟨T', t, d, _, hp, rfl, _, rfl⟩ | ⟨T', t, d, e, _, _, hr, rfl, _, rfl⟩
  · obtain ⟨_, _, hl⟩ := beginsT_is hb
    refine ⟨by rw [List.length_append]; simp; omega, fun x hx => ?_⟩
    rcases List.mem_append.mp hx with hx | hx
    · exact b.2 x hx
    · have : x = (n, []) := by simpa using hx
      subst this
      exact ⟨by simp [refsN], by simp [refsN]⟩
  · obtain ⟨T2, t2, e2, _, _, h1, h2⟩ := addsP_last hp
    have et : t2 = t := by
      have := congrArg List.getLast? e2
      rw [last_snoc, last_snoc] at this
      exact (Option.some.inj this).symm
    subst et
    refine ⟨by have := b.1; simpa using this, fun x hx => ?_⟩
    rcases List.mem_append.mp hx with hx | hx
    · exact b.2 x (List.mem_append_left _ hx)
    · have : x = (t2.1, t2.2 ++ [(d, none)]) := by simpa using hx
      subst this
      have := b.2 t2 (by simp)
      simp only [refsN_snoc, List.length_append, List.length_cons, List.length_nil]
      simp
      omega
  · obtain ⟨T2, t2, e2, _, _, _, h1⟩ := addsR_last hr
    have et : t2 = t := by
      have := congrArg List.getLast? e2
      rw [last_snoc, last_snoc] at this
      exact (Option.some.inj this).symm
    subst et
    refine ⟨by have := b.1; simpa using this, fun x hx => ?_⟩
    rcases List.mem_append.mp hx with hx | hx
    · exact b.2 x (List.mem_append_left _ hx)
    · have : x = (t2.1, t2.2 ++ [(d, some e)]) := by simpa using hx
      subst this
      have := b.2 t2 (by simp)
      simp only [refsN_snoc, List.length_append, List.length_cons, List.length_nil]
      simp
      omega
theorem Bnd.from : ∀ {rows : List (List Str)} {T T1 : List Tab}, Bnd T → readFrom T rows = some T1 → Bnd T1
  | [], T, T1, b, h => by
    have e : T = T1 := Option.some.inj h
    rw [← e]; exact b
  | ws :: r, T, T1, b, h => by
    have h' : (PM.step T ws).bind (fun T' => readFrom T' r) = some T1 := h
    cases e : PM.step T ws with
    | none => rw [e] at h'; cases h'
    | some T2 => rw [e] at h'; exact Bnd.from (b.step e) h'
theorem bnd_nil : Bnd [] := ⟨by simp, fun _ h => by cases h⟩
/-! ### the whole text -/
def wordsText (x : Str) : List (List Str) := (Txt.split x nl).map fun r => Txt.split r sp
def readText (x : Str) : Option (List Tab) := readFrom [] (wordsText x)
theorem mem_join {s : Str} {c : Nat} : ∀ {ls : List Str} {l : Str}, l ∈ ls → c ∈ l.cps.toList → c ∈ (Txt.join s ls).cps.toList
  | [], _, h, _ => by cases h
  | [x], l, h, hc => by
    have e : l = x := by simpa using h
    rw [join_one, ← e]; exact hc
  | x :: y :: r, l, h, hc => by
    rw [join_cons, app_list, app_list]
    rcases List.mem_cons.mp h with e | e
    · rw [← e]; simp [hc]
    · have := mem_join (s := s) e hc
      simp [this]
theorem join_split' (x y : Str) : Txt.join y (Txt.split x y) = x := by
  have e := StrLaws.join_split x y
  rw [← StrLaws.glued_eq_join] at e
  exact e
theorem ok_split {x y l : Str} (h : PyData.strOk x = true) (hl : l ∈ Txt.split x y) : PyData.strOk l = true := by
  unfold PyData.strOk at *
  rw [all_list, List.all_eq_true] at *
  intro c hc
  exact h c (by rw [← join_split' x y]; exact mem_join hl hc)
/-! rows and their words -/
theorem split_row {ws : List Str} (h : ws ≠ []) (hf : ∀ w ∈ ws, free 32 w) : Txt.split (rowOf ws) sp = ws := by
  unfold rowOf
  rw [show sp = (⟨#[32]⟩ : Str) from sp_is]
  exact split_join 32 h hf
theorem free_row {ws : List Str} (hf : ∀ w ∈ ws, free 10 w) : free 10 (rowOf ws) := by
  unfold rowOf
  induction ws with
  | nil => exact (by decide +kernel : free 10 Str.empty)
  | cons x r ih =>
    cases r with
    | nil => rw [join_one]; exact hf x List.mem_cons_self
    | cons y r =>
      rw [join_cons]
      unfold free
      rw [app_list, app_list]
      intro z
      rcases List.mem_append.mp z with z | z
      · rcases List.mem_append.mp z with z | z
        · exact hf x List.mem_cons_self z
        · exact (by decide +kernel : free 10 sp) z
      · exact ih (fun w hw => hf w (List.mem_cons_of_mem _ hw)) z
theorem wordsText_join {rows : List (List Str)} (h : rows ≠ []) (hr : ∀ ws ∈ rows, ws ≠ [] ∧ ∀ w ∈ ws, free 10 w ∧ free 32 w) : wordsText (Txt.join nl (rows.map rowOf)) = rows := by
  unfold wordsText
  rw [show nl = (⟨#[10]⟩ : Str) from nl_is, split_join 10 (by simpa using h)]
  · rw [List.map_map]
    conv => rhs; rw [← List.map_id rows]
    apply List.map_congr_left
    intro ws hw
    exact split_row (hr ws hw).1 fun w hw' => ((hr ws hw).2 w hw').2
  · intro l hl
    obtain ⟨ws, hw, rfl⟩ := List.mem_map.mp hl
    exact free_row fun w hw' => ((hr ws hw).2 w hw').1
end PM
/-! SP2: what reading a whole text promises. -/
namespace SP
open PySem L2 DV PM
def preRead : Pre := fun rs Pl cs r cs' => ∃ (x : Str) (T : List Tab), rs = [.dat (.str x)] ∧ x.length ≤ 100000 ∧ PyData.strOk x = true ∧ readText x = some T ∧ Pl = [] ∧ cs = [] ∧ r = .dat (encTs T) ∧ cs' = []
theorem tabsIn_bnd {T : List Tab} (b : Bnd T) : tabsIn T := ⟨by have := b.1; omega, fun t ht => by have := b.2 t ht; omega⟩
theorem wordsIn_row {x row : Str} (hx : x.length ≤ 100000) (ho : PyData.strOk x = true) (hr : row ∈ Txt.split x nl) : row.length ≤ 100000 ∧ PyData.strOk row = true ∧ wordsIn (Txt.split row sp) := by
  have hl : row.length ≤ x.length := PyProof.Rows.part_short hr
  have hro := ok_split ho hr
  refine ⟨by omega, hro, ?_, fun w hw => ⟨?_, ok_split hro hw⟩⟩
  · have := PyProof.Rows.split_le row sp
    omega
  · have : w.length ≤ row.length := PyProof.Rows.part_short hw
    omega
theorem readFrom_snoc (T : List Tab) (rows : List (List Str)) (ws : List Str) : readFrom T (rows ++ [ws]) = (readFrom T rows).bind fun T' => step T' ws := by
  rw [readFrom_append]
  congr 1
  funext T'
  show (step T' ws).bind (fun T' => some T') = step T' ws
  cases step T' ws <;> rfl
theorem readFrom_take {rows : List (List Str)} {T : List Tab} (h : readFrom [] rows = some T) (i : Nat) : ∃ T', readFrom [] (rows.take i) = some T' := by
  have e : rows = rows.take i ++ rows.drop i := (List.take_append_drop i rows).symm
  rw [e, readFrom_append] at h
  cases q : readFrom [] (rows.take i) with
  | none => rw [q] at h; cases h
  | some T' => exact ⟨T', rfl⟩
end SP
namespace T3
open PySem L2 DV PM SP
abbrev s_read_tables : Stmt := topS 20
abbrev N_read_tables : List Str := ["text", "tables", "number", "row", "words"]
theorem sc_read_tables : FnScope N_read_tables ["text"] (defScope s_read_tables) := ⟨rfl, rfl, rfl, by decide +kernel, rfl, by decide +kernel, by decide +kernel⟩

section
variable {P : Program} {w : World} {K : PySem.W.Frag} {mg : Str → Option Value} {base : Heap}
theorem ok_read {f fB fP fR : Addr} {fd fdB fdP fdR : FuncData} (F : Fun K "read_tables" "read_tables" s_read_tables f fd) (G_begins_table : Def P w K mg base 3 "begins_table" fB fdB ["tables", "words"] (spM K preBegins))
    (G_adds_plain : Def P w K mg base 3 "adds_plain" fP fdP ["tables", "words"] (spM K prePlain)) (G_adds_reference : Def P w K mg base 3 "adds_reference" fR fdR ["tables", "words"] (spM K preRef)) (b_enumerate : mg "enumerate" = none) :
    FnOk P w K mg base CX0 4 f fd ["text"] (spM K preRead) := by
  refine ok_body F sc_read_tables (fun rs Pl cs r cs' h => ?_) (fun X hX hr => ?_)
  · obtain ⟨x, T, rfl, _⟩ := h
    rfl
  obtain ⟨cdv, A, outer, s, H, E, rfl⟩ := hX
  have nd := sc_read_tables.nd
  refine ⟨_, (pss_cons (ps_set (i := 1) nd rfl (.inl rfl) (pe_lst pa_nil))
      (pss_cons (ps_for PassesOwn.never rfl (pi_enum (by rfl) b_enumerate (pa_cons (pe_split (pv 0) pe_str) pa_nil)) (pg_tup (by rfl) (by exact (pgs_cons (by exact (pg_name (i := 2) nd (by rfl) (by first | exact .inl rfl | exact .inr rfl))) (by exact (pgs_cons (by exact (pg_name (i := 3) nd (by rfl) (by first | exact .inl rfl | exact .inr rfl))) (by exact pgs_nil)))))) (pss_cons (ps_set (i := 4) nd rfl (.inl rfl) (pe_split (pv 3) pe_str))
      (pss_one (ps_if (pt_val (pe_def G_begins_table hr (by decide) (by rfl) (pa_cons (pv 1) (pa_cons (pv 4) pa_nil)))) (pss_one (ps_expr (pe_bm PySem.F.plainAttrs_list PySem.F.slot_list_append PySem.F.type_list_append mt_append (pv 1) (pa_cons (pe_tup (pa_cons (pe_ix ix_seq (pv 4) pe_int (fun _ _ => rfl)) (pa_cons (pe_lst pa_nil) pa_nil))) pa_nil)))) (pss_one (ps_if (pt_val (pe_def G_adds_plain hr (by decide) (by rfl) (pa_cons (pv 1) (pa_cons (pv 4) pa_nil)))) (pss_one (ps_expr (pe_bm PySem.F.plainAttrs_list PySem.F.slot_list_append PySem.F.type_list_append mt_append (pe_ix ix_seq (pe_ix ix_seq (pv 1) (pe_un un_neg pe_int) (fun _ _ => rfl)) pe_int (fun _ _ => rfl)) (pa_cons (pe_tup (pa_cons (pe_ix ix_seq (pv 4) pe_int (fun _ _ => rfl)) (pa_cons pe_non pa_nil))) pa_nil)))) (pss_one (ps_if (pt_val (pe_def G_adds_reference hr (by decide) (by rfl) (pa_cons (pv 1) (pa_cons (pv 4) pa_nil)))) (pss_one (ps_expr (pe_bm PySem.F.plainAttrs_list PySem.F.slot_list_append PySem.F.type_list_append mt_append (pe_ix ix_seq (pe_ix ix_seq (pv 1) (pe_un un_neg pe_int) (fun _ _ => rfl)) pe_int (fun _ _ => rfl)) (pa_cons (pe_tup (pa_cons (pe_ix ix_seq (pv 4) pe_int (fun _ _ => rfl)) (pa_cons (pe_ix ix_seq (pv 4) pe_int (fun _ _ => rfl)) pa_nil))) pa_nil)))) (pss_one ps_never)))))))))
      (pss_one (ps_ret (pv 1))))), ?_⟩
  intro rs Pl cs r cs' hp B0 H0 σ Dn st hP hd hn
  obtain ⟨x, T, rfl, hxl, hxo, hT, rfl, rfl, rfl, rfl⟩ := hp
  obtain ⟨B, s0, o0⟩ := st
  refine st_seq (st_raw0 fun p hp => ?_)
  have fp : H0 p = none := free0 s0 hp
  have bp : B p = none := o0.ex.free hp
  have s1 : Stp [] B0 H0 B (upd H0 p (.lst [])) := stp_upd s0 fp
  have o1 : Okk K [] [.dat (.str x), .val (.ref p), .any, .any, .any] [] B (upd H0 p (.lst [])) (σ.set 1 (some (.ref p))) := ⟨ex_upd o0.ex bp, o0.sl.set (i := 1) rfl, True.intro⟩
  have t1 : TabsAt K H0 B (upd H0 p (.lst [])) p [] := ⟨⟨[], upd_same, .nil, .nil, by simp⟩, bp, fp⟩
  dsimp only []
  refine st_seq (t := tFor _ _ _) ?_
  refine for_of (wd_enum (ds := (Txt.split x nl).map D.str) (cs := []) (cs1 := []) (P := []) (ss := [.dat (.str x), .val (.ref p), .any, .any, .any]) (ea_cons (EvF.ev (ev_split (ev_var (i := 0) rfl) ev_str (by decide +kernel) (by omega))) ea_nil) B _ _ o1 _ fun J B1 H1 s2 o2 wk => ?_)
  have t2 := t1.step s2
  have s02 := s1.trans s2
  have hn0 : (enumD ((Txt.split x nl).map D.str)).length = (Txt.split x nl).length := by rw [enumD_len, List.length_map]
  let I : Nat → L2.St → Hp → Prop := fun i σ' H' => ∃ B' T', Stp [] B0 H0 B' H' ∧ Ex B1 B' ∧ Okk K [] [.dat (.str x), .val (.ref p), .any, .any, .any] [] B' H' σ' ∧ TabsAt K H0 B' H' p T' ∧ readFrom [] ((wordsText x).take i) = some T'
  refine ⟨fun i m σ' H' => m = (Txt.split x nl).length - i ∧ i ≤ (Txt.split x nl).length ∧ I i σ' H', ⟨_, rfl, Nat.zero_le _, B1, [], s02, Ex.refl _, o2, t2, rfl⟩, ?_⟩
  rintro i m σ' H' ⟨rfl, hi, B2, T2, s3, e3, o3, t3, hr3⟩
  obtain ⟨w1, w2⟩ := wk i B2 H' e3 o3.ex
  have b3 : Bnd T2 := bnd_nil.from hr3
  by_cases hlt : i < (Txt.split x nl).length
  · have hrow : (Txt.split x nl)[i]? = some (Txt.split x nl)[i] := List.getElem?_eq_getElem hlt
    generalize (Txt.split x nl)[i] = row at hrow
    obtain ⟨hrl, hro, hws⟩ := wordsIn_row hxl hxo (List.mem_of_getElem? hrow)
    have hd' : (enumD ((Txt.split x nl).map D.str))[i]? = some (.tup [.int (i : Nat), .str row]) := by
      unfold enumD
      rw [List.getElem?_map, List.getElem?_zipIdx, List.getElem?_map, hrow]
      simp
    obtain ⟨go, yl⟩ := w1 _ hd'
    have hwi : (wordsText x)[i]? = some (Txt.split row sp) := by
      unfold wordsText
      rw [List.getElem?_map, hrow]; rfl
    obtain ⟨T3, hT3⟩ := readFrom_take (i := i + 1) (show readFrom [] (wordsText x) = some T from hT)
    have hst : step T2 (Txt.split row sp) = some T3 := by
      rw [List.take_add_one, hwi, show (some (Txt.split row sp)).toList = [Txt.split row sp] from rfl, readFrom_snoc, hr3] at hT3
      exact hT3
    refine .inr ⟨go, I (i + 1), fun σ4 H4 q => ⟨(Txt.split x nl).length - (i + 1), by omega, rfl, hlt, q⟩, fun v H4 y => ?_⟩
    obtain ⟨B4, s4, e4, x4⟩ := yl v H4 y
    have o4 := o3.step0 s4 e4
    have t4 := t3.step s4
    have s04 := s3.trans s4
    refine (g_tup (g_cons g_name (g_cons g_name g_nil)) : GR K _ _ _ _ _) B4 H4 σ' v o4.ex o4.sl x4 _ fun σ5 sl5 _ => ?_
    have o5 : Okk K [] [.dat (.str x), .val (.ref p), .dat (.int (i : Nat)), .dat (.str row), .any] [] B4 H4 σ5 := ⟨o4.ex, sl5, True.intro⟩
    -- words
    refine EvF.ev (ev_split (ev_var (i := 3) rfl) ev_str (by decide +kernel) (by omega)) B4 H4 σ5 o5 _ fun wv B6 H6 s6 o6 v6 => ?_
    have t6 := t4.step s6
    have s06 := s04.trans s6
    have v6' : Rp K B6 wv (.lst ((Txt.split row sp).map D.str)) := v6
    have o7 : Okk K [] [.dat (.str x), .val (.ref p), .dat (.int (i : Nat)), .dat (.str row), .dat (.lst ((Txt.split row sp).map D.str))] [] B6 H6 (σ5.set 4 (some wv)) := ⟨o6.ex, o6.sl.set (i := 4) v6, True.intro⟩
    have h1 : (σ5.set 4 (some wv))[1]? = some (some (.ref p)) := by
      obtain ⟨u, hu, eu⟩ := o7.sl.get 1 (.val (.ref p)) rfl (by intro z; cases z)
      rw [hu, show u = V.ref p from eu]
    have h4 : (σ5.set 4 (some wv))[4]? = some (some wv) := by
      have hl : 4 < σ5.length := by rw [o6.sl.len]; exact Nat.lt_succ_self 4
      rw [List.getElem?_set, if_pos rfl, if_pos hl]
    have ex16 : Ex B1 B6 := e3.trans (s4.ex.trans s6.ex)
    have fin : ∀ B' H'', Stp [] B0 H0 B' H'' → Okk K [] [.dat (.str x), .val (.ref p), .dat (.int (i : Nat)), .dat (.str row), .dat (.lst ((Txt.split row sp).map D.str))] [] B' H'' (σ5.set 4 (some wv)) → Ex B6 B' → TabsAt K H0 B' H'' p T3 → I (i + 1) (σ5.set 4 (some wv)) H'' := fun B' H'' a b c d =>
      ⟨B', T3, a, ex16.trans c, ⟨b.ex, b.sl.le ⟨.rfl _, .rfl _, .any _, .any _, .any _, True.intro⟩, True.intro⟩, d, hT3⟩
    refine call_tabs (b := beginsT T2 (Txt.split row sp)) o7.ex t6 h1 h4 v6' ⟨T2, _, rfl, by have := b3.1; omega, hws, rfl, rfl, rfl, rfl⟩ fun H8 s8 e8 => ?_
    have o8 := o7.step0 s8 e8
    have t8 := t6.step s8
    have s08 := s06.trans s8
    rcases step_cases hst with ⟨n, hb, hw, rfl⟩ | ⟨T', t, d, hb, hpl, rfl, hw, rfl⟩ | ⟨T', t, d, e, hb, hpl, hre, rfl, hw, rfl⟩
    · rw [hb, if_pos rfl]
      refine app_tab (n := n) s08 o8 t8 h1 (ev_op (ev_var (i := 4) rfl) ev_int (od_ixL (atI_nat (j := 1) ?_))) (by have := b3.1; omega) (fun B' H'' a b c d => fin B' H'' a b c d)
      rw [hw]; rfl
    · rw [hb, if_neg Bool.false_ne_true]
      refine call_tabs (b := addsP (T' ++ [t]) (Txt.split row sp)) o8.ex t8 h1 h4 v6' ⟨_, _, rfl, tabsIn_bnd b3, hws, rfl, rfl, rfl, rfl⟩ fun H9 s9 e9 => ?_
      have o9 := o8.step0 s9 e9
      have t9 := t8.step s9
      have s09 := s08.trans s9
      rw [hpl, if_pos rfl]
      refine app_col (n := t.1) (cols := t.2) (c := (d, none)) (x := .str d) (y := .non) s09 o9 t9 h1 (ea_cons (ev_op (ev_var (i := 4) rfl) ev_int (od_ixL (atI_nat (j := 3) ?_))) (ea_cons ev_non ea_nil)) rfl (by have := b3.2 t (by simp); omega) (fun B' H'' a b c d => fin B' H'' a b c d)
      rw [hw]; rfl
    · rw [hb, if_neg Bool.false_ne_true]
      refine call_tabs (b := addsP (T' ++ [t]) (Txt.split row sp)) o8.ex t8 h1 h4 v6' ⟨_, _, rfl, tabsIn_bnd b3, hws, rfl, rfl, rfl, rfl⟩ fun H9 s9 e9 => ?_
      have o9 := o8.step0 s9 e9
      have t9 := t8.step s9
      have s09 := s08.trans s9
      rw [hpl, if_neg Bool.false_ne_true]
      refine call_tabs (b := addsR (T' ++ [t]) (Txt.split row sp)) o9.ex t9 h1 h4 v6' ⟨_, _, rfl, tabsIn_bnd b3, hws, rfl, rfl, rfl, rfl⟩ fun H10 s10 e10 => ?_
      have o10 := o9.step0 s10 e10
      have t10 := t9.step s10
      have s010 := s09.trans s10
      rw [hre, if_pos rfl]
      refine app_col (n := t.1) (cols := t.2) (c := (d, some e)) (x := .str d) (y := .str e) s010 o10 t10 h1 (ea_cons (ev_op (ev_var (i := 4) rfl) ev_int (od_ixL (atI_nat (j := 3) ?_))) (ea_cons (ev_op (ev_var (i := 4) rfl) ev_int (od_ixL (atI_nat (j := 4) ?_))) ea_nil)) rfl (by have := b3.2 t (by simp); omega) (fun B' H'' a b c d => fin B' H'' a b c d)
      · rw [hw]; rfl
      · rw [hw]; rfl
  · have e : i = (Txt.split x nl).length := by omega
    subst e
    refine .inl ⟨w2 (by rw [hn0]; exact Nat.le_refl _), ?_⟩
    have hTT : T2 = T := by
      have hl : (wordsText x).length = (Txt.split x nl).length := by unfold wordsText; rw [List.length_map]
      rw [← hl, List.take_length] at hr3
      exact Option.some.inj (hr3.symm.trans hT)
    subst hTT
    obtain ⟨u, hu, eu⟩ := o3.sl.get 1 (.val (.ref p)) rfl (by intro z; cases z)
    have eu' : u = .ref p := eu
    subst eu'
    exact ⟨.ref p, hu, hd _ _ _ (pub_stp s3 o3.ex) (pub_in s3 o3.ex) True.intro (t3.pub s3 o3.ex)⟩
end
end T3
/-! OWN: ==, != and str of an instance by its class's own defs. -/
namespace OWN
open PySem PySem.Spec PyProof.Rows L2
section
variable {prog : Program} {w : World} {A : Around} {E : Value → Shared → Prop} {s : Shared} {K : PySem.W.Frag} {x C f : Addr} {ox : Obj} {od : Option Obj} {h₀ : Heap} {L : Addr} {m : Str → Option Value}
theorem ifBound_objNe {M : Model} {args : List Value} {Q : Option Value → Shared → Prop} (X : K.In s.heap) (I : PySem.W.InstAt s.heap x ox C od) (hs : PySem.W.findIn K (.ref C) "__ne__" = some (some (.builtin "object.__ne__")))
    (h : wpAny M A (call (.builtin "object.__ne__") (.ref x :: args)) (fun v => Q (some v)) E s) : wpAny M A (callSpecialIfBound? (.ref x) "__ne__" args) Q E s := by
  simp only [callSpecialIfBound?, bindSpecialIfBound?]
  refine wpAny_holding (wpAny_bind (wpAny_bind (wpAny_bind (I.type.here ((PySem.W.looks_findIn X hs).here ?_)))))
  refine wpAny_bind (wpAny_askSetting (wpAny_ite ?_))
  have fin : wpAny M A (call (.builtin "object.__ne__") ([.ref x] ++ args) >>= fun v => pure (some v)) Q E s := wpAny_bind (wpAny_mono h (fun v s' h' => wpAny_pure h') fun _ _ h' => h')
  split
  · exact wpAny_bind (wpAny_of_eq (F.cmp_object.ne.bind _) (wpAny_pure (by exact fin)))
  · exact wpAny_tryCatch (wpAny_bind (wpAny_of_eq (F.cmp_object.ne.bind _) (wpAny_pure (by exact fin))))
theorem entry_ne {b : Value} (hu : A.units < cLine) (X : K.In s.heap) (I : PySem.W.InstAt s.heap x ox C od) (hs : PySem.W.findIn K (.ref C) "__eq__" = some (some (.ref f))) (hf : PySem.W.isFn K (.ref f) = true) {Q : Fin → Shared → Prop}
    (hcall : wpAny (model prog w) A (call (.ref f) [.ref x, b]) (fun v s' => ∃ b, v = .bool b ∧ Q (.done (.ret (.bool (!b)))) s') E s) :
    wpAny (model prog w) A (Builtin.«object.__ne__» ⟨[.ref x, b], []⟩) Q E s := by
  unfold Builtin.«object.__ne__»
  repeat (first
    | with_reducible refine wpAny_cRoomFor hu ?_
    | (refine wpAny_bind (m := callSpecialIfBound? (.ref x) (Str.ofString "__eq__") [b])
        (PySem.W.ifBound_K X I hs hf (wpAny_mono hcall (fun r s' hr => by
          obtain ⟨b, rfl, hq⟩ := hr
          repeat (first | exact hq | exact wpAny_pure hq | exact wpAny_truthy_bool hq | (refine wpAny_bind (m := truthy (.bool _)) (wpAny_truthy_bool ?_)) | wp_step)) fun _ _ e => e)))
    | wp_step)
theorem ne_K {b tb : Value} {Q : Value → Shared → Prop} (hu : A.units + 1 < cLine) (X : K.In s.heap) (I : PySem.W.InstAt s.heap x ox C od) (hb : PySem.W.Looks (model prog w) s.heap (typeOf b) tb) (hn : PySem.W.notFirst K C tb = true) (hm : PySem.W.mroIn K C (.type "object") = some true)
    (hne : PySem.W.findIn K (.ref C) "__ne__" = some (some (.builtin "object.__ne__"))) (hs : PySem.W.findIn K (.ref C) "__eq__" = some (some (.ref f))) (hf : PySem.W.isFn K (.ref f) = true)
    (h : wpAny (model prog w) A.in1 (call (.ref f) [.ref x, b]) (fun v s' => ∃ b, v = .bool b ∧ Q (.bool (!b)) s') E s) : wpAny (model prog w) A (richCompare .NotEq (.ref x) b) Q E s := by
  have one : wpAny (model prog w) A (tryCompare (.ref x) (cmpInfo .NotEq).2.1 b) (fun r s' => ∃ v, r = some v ∧ Q v s') E s := by
    unfold tryCompare
    refine wpAny_bind (ifBound_objNe X I hne (wpAny_call (codeAny_call_builtin F.cmp_object.ne.plain F.cmpEntry_ne (PySem.W.check_slot F.cmpKind_ne F.cmpSplit_ne (I.type.andThen (PySem.W.looks_mroIn X hm)) (F.cmpArgs_ne _ _) (entry_ne (A := A.in1) hu X I hs hf (wpAny_mono h (fun v s' hv => ?_) fun _ _ e => e))))))
    obtain ⟨k, rfl, hq⟩ := hv
    first | exact ⟨k, rfl, wpAny_pure ⟨_, rfl, hq⟩⟩ | exact ⟨k, rfl, ⟨_, rfl, hq⟩⟩
  unfold richCompare
  simp only [oneThing_ref]
  refine wpAny_holding (wpAny_bind (wpAny_cRoomFor (Nat.lt_of_succ_lt hu) ?_))
  refine wpAny_bind (I.type.here (wpAny_bind (hb.here ?_)))
  split
  · rename_i q
    have e : PySem.W.subIn K tb (.ref C) = some false := by
      rcases Bool.or_eq_true_iff.mp hn with e | e
      · rw [beq_iff_eq.mp e] at q; simp at q
      · exact beq_iff_eq.mp e
    refine wpAny_bind ((PySem.W.looks_subIn X e).here ?_)
    simp only [Bool.false_eq_true, if_false]
    refine wpAny_bind (wpAny_mono one (fun r s' z => ?_) fun _ _ e => e)
    obtain ⟨v, rfl, hq⟩ := z
    exact wpAny_pure hq
  · refine wpAny_bind (wpAny_pure ?_)
    simp only [Bool.false_eq_true, if_false]
    refine wpAny_bind (wpAny_mono one (fun r s' z => ?_) fun _ _ e => e)
    obtain ⟨v, rfl, hq⟩ := z
    exact wpAny_pure hq
end
section
variable {X : Cx} {n : Nat} {C f : Addr} {fd : FuncData} {ps : List Str} {sp : Sp}
theorem v1r (a : Addr) : Vals [V.ref a] [Value.ref a] := .cons rfl .nil
theorem v2r (a b : Addr) : Vals [V.ref a, V.ref b] [Value.ref a, Value.ref b] := .cons rfl (.cons rfl .nil)
theorem run_at {A : Around} {pins : List (Addr × Obj)} {σ : L2.St} {H : Hp} {s : Shared} {vs : List V} {us : List Value} {Q : VK} (sb : Sub X n A) (F : FnOk X.prog X.w X.K X.mg X.base CX0 n f fd ps sp) (hb : Binds X.K fd ps []) (I : Inv X pins σ H s) (r : Vals vs us) (h : sp vs H Q E0) :
    wpAny (model X.prog X.w) A (call (.ref f) us) (EP X pins σ Q) X.xe s := by
  have e0 : Env0 X.prog X.w X.K X.mg X.base A X.stack s H := by
    have e := I.env0
    exact ⟨by rw [sb.fr]; exact e.frames, e.mod, e.bs, e.bsz, e.funs, e.frf, e.hok, e.bare⟩
  have hl := F.len _ _ _ _ h
  have hl' : (us ++ []).length = ps.length := by rw [List.append_nil, ← r.length]; exact hl
  refine wpAny_call (codeAny_mono (F.run A X.stack s H ⟨us, []⟩ us vs _ E0 sb.room e0 (by
    have := hb s us I.kIn hl'
    simpa using this) r h) fun r s' hq => ?_)
  cases r with
  | error e => exact False.elim hq
  | ok fl =>
    cases fl with
    | ret w => exact I.after hq
    | next => exact False.elim hq
    | brk => exact False.elim hq
    | cont => exact False.elim hq
/-- str(o) by its own def -/
def rStrOwn (C : Addr) (sp : Sp) : List V → Hp → VK → Prop := fun xs H Q => ∃ a dx fs, xs = [.ref a] ∧ H a = some (.ins C dx fs) ∧ sp [.ref a] H (fun z H' => ∃ y, z = .str y ∧ Q z H') E0
theorem call_strOwn (F : FnOk X.prog X.w X.K X.mg X.base CX0 n f fd ps sp) (hb : Binds X.K fd ps []) (hs : PySem.W.findIn X.K (.ref C) "__str__" = some (some (.ref f))) (hf : PySem.W.isFn X.K (.ref f) = true) (hr : Room (n + 2) X.A) : CallR X (.type "str") (rStrOwn C sp) := by
  intro pins s σ H xs us Q I r h
  obtain ⟨a, dx, fs, rfl, ha, h⟩ := h
  obtain ⟨u, rfl, rx⟩ := vals1 r
  cases (show u = Value.ref a from rx)
  obtain ⟨mA, J, _⟩ := ins_get I.hok ha
  obtain ⟨od, J, _⟩ := J.look
  have sb : Sub X n X.A.in1.in1 := (Sub.in1 (Sub.in1 ⟨hr, rfl⟩))
  have hu : X.A.in1.in1.units < cLine := by have := sb.room.units0; exact this
  refine PySem.W.kso_call hu I.kIn J hs hf (wpAny_mono (run_at sb F hb I (v1r a) h) (fun v s' z => ?_) fun _ _ e => e)
  obtain ⟨z, H', I', rz, ⟨y, rfl, q⟩⟩ := z
  obtain ⟨tk, rfl⟩ := rz
  exact ⟨.str y, H', I', ⟨tk, rfl⟩, q⟩
/-- x == y, x an instance of the class at C with an own __eq__, y of the class or of a built-in type -/
def EqTy (K : PySem.W.Frag) (C : Addr) (H : Hp) (y : V) : Prop := (∃ b dx fs, y = .ref b ∧ H b = some (.ins C dx fs)) ∨ ∃ t, TyX K H y t ∧ PySem.W.notFirst K C t = true
def rEqOwn (K : PySem.W.Frag) (C : Addr) (sp : Sp) (neg : Bool) : R2 := fun x y H Q => ∃ a dx fs, x = .ref a ∧ H a = some (.ins C dx fs) ∧ (∃ b dy gs, y = .ref b ∧ H b = some (.ins C dy gs)) ∧ sp [x, y] H (fun z H' => ∃ k, z = .bl k ∧ Q (.bl (if neg then !k else k)) H') E0
theorem op_eqOwn (F : FnOk X.prog X.w X.K X.mg X.base CX0 n f fd ps sp) (hb : Binds X.K fd ps []) (hs : PySem.W.findIn X.K (.ref C) "__eq__" = some (some (.ref f))) (hf : PySem.W.isFn X.K (.ref f) = true) (hr : Room n X.A) : OpR X (compareOp .Eq) (rEqOwn X.K C sp false) := by
  intro pins s σ H x y v u Q I rx ry hq
  obtain ⟨a, dx, fs, rfl, ha, ⟨b, dy, gs, rfl, hb'⟩, h⟩ := hq
  cases rx
  cases ry
  obtain ⟨mA, J, _⟩ := ins_get I.hok ha
  obtain ⟨mB, J', _⟩ := ins_get I.hok hb'
  obtain ⟨od, J, _⟩ := J.look
  obtain ⟨od', J', _⟩ := J'.look
  obtain ⟨m, hF⟩ := I.fr
  show wpAny (model X.prog X.w) X.A (richCompare .Eq (.ref a) (.ref b)) (EP X pins σ Q) X.xe s
  refine PySem.W.cmp_K (op := .Eq) (tb := .ref C) hr.units0 hF I.ok.mod.kin J J'.type (by simp [PySem.W.notFirst]) hs hf (wpAny_mono (run_at ⟨hr, rfl⟩ F hb I (v2r a b) h) (fun v s' z => ?_) fun _ _ e => e)
  obtain ⟨z, H', I', rz, ⟨k, rfl, q⟩⟩ := z
  cases rz
  exact ⟨.bl k, H', I', rfl, q⟩
theorem op_neOwn (F : FnOk X.prog X.w X.K X.mg X.base CX0 n f fd ps sp) (hb : Binds X.K fd ps []) (hs : PySem.W.findIn X.K (.ref C) "__eq__" = some (some (.ref f))) (hf : PySem.W.isFn X.K (.ref f) = true) (hne : PySem.W.findIn X.K (.ref C) "__ne__" = some (some (.builtin "object.__ne__"))) (hm : PySem.W.mroIn X.K C (.type "object") = some true)
    (hr : Room (n + 1) X.A) : OpR X (compareOp .NotEq) (rEqOwn X.K C sp true) := by
  intro pins s σ H x y v u Q I rx ry hq
  obtain ⟨a, dx, fs, rfl, ha, ⟨b, dy, gs, rfl, hb'⟩, h⟩ := hq
  cases rx
  cases ry
  obtain ⟨mA, J, _⟩ := ins_get I.hok ha
  obtain ⟨mB, J', _⟩ := ins_get I.hok hb'
  obtain ⟨od, J, _⟩ := J.look
  obtain ⟨od', J', _⟩ := J'.look
  have sb : Sub X n X.A.in1 := Sub.in1 ⟨hr, rfl⟩
  have hu : X.A.units + 1 < cLine := sb.room.units0
  show wpAny (model X.prog X.w) X.A (richCompare .NotEq (.ref a) (.ref b)) (EP X pins σ Q) X.xe s
  refine ne_K (tb := .ref C) hu I.kIn J J'.type (by simp [PySem.W.notFirst]) hm hne hs hf (wpAny_mono (run_at sb F hb I (v2r a b) h) (fun v s' z => ?_) fun _ _ e => e)
  obtain ⟨z, H', I', rz, ⟨k, rfl, q⟩⟩ := z
  cases rz
  exact ⟨k, rfl, .bl (!k), H', I', rfl, q⟩
end
end OWN
/-! DC: dict comprehensions with texts as keys; an own class made by a local name that holds it; its fields set; its methods called. -/
namespace DV
open PySem L2
variable {K : PySem.W.Frag}
theorem putK_new {kvs : List (Key × V)} {k : Key} {v : V} (h : ∀ p ∈ kvs, p.1 ≠ k) : putK kvs k v = kvs ++ [(k, v)] := by
  unfold putK
  have e : (kvs.any fun kv => decide (kv.1 = k)) = false := by
    rw [List.any_eq_false]
    intro p hp
    simpa using h p hp
  rw [e]
  simp
theorem RpK.keys {B : Hp} : ∀ {vs : List (Key × V)} {ds : List (Key × D)}, RpK K B vs ds → vs.map (·.1) = ds.map (·.1)
  | _, _, .nil => rfl
  | _, _, .cons _ r => by rw [List.map_cons, List.map_cons, RpK.keys r]
theorem RpK.append {B : Hp} : ∀ {vs ws : List (Key × V)} {ds es : List (Key × D)}, RpK K B vs ds → RpK K B ws es → RpK K B (vs ++ ws) (ds ++ es)
  | _, _, _, _, .nil, s => s
  | _, _, _, _, .cons h r, s => .cons h (RpK.append r s)
section
variable {ss : List Sl}
theorem ev_dcE {β : Type} {wi : TI} {g : TG} {tk tv : TE} {vs : List Nat} {l : List β} {enc : β → D} (hw : WD K [] ss [] wi (l.map enc) []) (key : β → Str) (val : β → D) (hz : l.length ≤ 1000) (nd : (l.map key).Nodup)
    (hs : ∀ (i : Nat) (x : β), l[i]? = some x → ∃ G W, GR K (wipeS ss vs) g (enc x) G W ∧ (∀ k ∈ W, k ∈ vs) ∧ Ev K [] G [] tk (.dat (.str (key x))) [] ∧ Ev K [] G [] tv (.dat (val x)) []) :
    Ev K [] ss [] (tDc wi g tYes tk tv vs) (.dat (.dic (l.map fun x => ((Sum.inr (key x) : Key), val x)))) [] := fun B H σ o Q q => by
  refine hw B H σ o _ fun It B1 H1 s1 o1 wk Dp hDp => ?_
  have hB1 : B1 Dp = none := o1.ex.free hDp
  have hD0 : H Dp = none := by
    cases e : H Dp with
    | none => rfl
    | some u =>
      obtain ⟨u', h'⟩ := s1.dm Dp u e
      rw [hDp] at h'; cases h'
  let out : Nat → List (Key × D) := fun i => (l.take i).map fun x => ((Sum.inr (key x) : Key), val x)
  let I : Nat → Hp → Prop := fun i H' => ∃ B' kvs, Stp [] B1 H1 B' H' ∧ Okk K [] ss [] B' H' σ ∧ H' Dp = some (.dK kvs) ∧ B' Dp = none ∧ RpK K B' kvs (out i)
  have i0 : I 0 (upd H1 Dp (.dK [])) :=
    ⟨B1, [], ⟨Ex.refl _, fun b u n e => Ex.new hDp b u e, fun _ _ _ => rfl, fun b u e => ⟨u, Ex.new hDp b u e⟩⟩, ⟨fun b u e => Ex.new hDp b u (o1.ex b u e), o1.sl, True.intro⟩, upd_same, hB1, .nil⟩
  refine ⟨fun i m H' => m = l.length - i ∧ i ≤ l.length ∧ I i H', ⟨l.length, by simp, Nat.zero_le _, i0⟩, ?_⟩
  rintro i m H' ⟨rfl, hi, B2, kvs, s2, o2, hd2, hb2, r2⟩
  obtain ⟨w1, w2⟩ := wk i B2 H' s2.ex o2.ex
  by_cases hlt : i < l.length
  · have hx : l[i]? = some l[i] := List.getElem?_eq_getElem hlt
    generalize l[i] = x at hx
    have hd' : (l.map enc)[i]? = some (enc x) := by rw [List.getElem?_map, hx]; rfl
    obtain ⟨go, yl⟩ := w1 _ hd'
    obtain ⟨G, W, hg, hW, hk, hv⟩ := hs i x hx
    refine .inr ⟨go, I (i + 1), fun H3 q => ⟨l.length - (i + 1), by omega, rfl, hlt, q⟩, fun y H3 hy => ?_⟩
    obtain ⟨B3, s3, e3, x3⟩ := yl y H3 hy
    have o3 := o2.step0 s3 e3
    refine hg B3 H3 (wipe σ vs) y o3.ex (o3.sl.wipe vs) x3 _ fun σ4 s4 on => ⟨on.wipe hW, ?_⟩
    show tk σ4 H3 _
    refine hk B3 H3 σ4 ⟨o3.ex, s4, True.intro⟩ _ fun kv B5 H5 s5 o5 v5 => ?_
    cases (show Rp K B5 kv (.str (key x)) from v5)
    refine hv B5 H5 σ4 o5 _ fun v B6 H6 s6 o6 v6 => ?_
    have s26 : Stp [] B2 H' B6 H6 := (s3.trans s5).trans s6
    have hd6 : H6 Dp = some (.dK kvs) := s26.fr _ _ (by simp) hd2
    have hb6 : B6 Dp = none := by rw [s26.nb _ _ hd2]; exact hb2
    have r6 : RpK K B6 kvs (out i) := RpK.mono s26.ex r2
    have hl : kvs.length = i := by rw [r6.length]; show ((l.take i).map _).length = i; rw [List.length_map, List.length_take]; omega
    have hnew : ∀ p ∈ kvs, p.1 ≠ (Sum.inr (key x) : Key) := fun p hp z => by
      have h1 : p.1 ∈ kvs.map (·.1) := List.mem_map.mpr ⟨p, hp, rfl⟩
      rw [r6.keys, z] at h1
      obtain ⟨q', hq', eq'⟩ := List.mem_map.mp h1
      obtain ⟨y', hy', rfl⟩ := List.mem_map.mp hq'
      have ek : key y' = key x := Sum.inr.inj eq'
      obtain ⟨j, hj, ej⟩ := List.getElem_of_mem hy'
      have hj' : j < i := by rw [List.length_take] at hj; omega
      have hjl : l[j]? = some y' := by
        rw [List.getElem_take] at ej
        rw [List.getElem?_eq_getElem (by omega), ej]
      have a1 : (l.map key)[j]? = some (key x) := by rw [List.getElem?_map, hjl, ← ek]; rfl
      have a2 : (l.map key)[i]? = some (key x) := by rw [List.getElem?_map, hx]; rfl
      obtain ⟨l1, g1⟩ := List.getElem?_eq_some_iff.mp a1
      obtain ⟨l2, g2⟩ := List.getElem?_eq_some_iff.mp a2
      exact List.pairwise_iff_getElem.mp nd j i l1 l2 hj' (g1.trans g2.symm)
    refine ⟨kvs, Sum.inr (key x), rfl, hd6, lt_line (by omega), ?_⟩
    rw [putK_new hnew]
    have key' : ∀ b, b ≠ Dp → upd H6 Dp (.dK (kvs ++ [(Sum.inr (key x), v)])) b = H6 b := fun b n => upd_ne n
    have hne : ∀ b u, H1 b = some u → b ≠ Dp := fun b u e z => by rw [z, hDp] at e; cases e
    have s16 := s2.trans s26
    refine ⟨B6, _, ⟨s16.ex, fun b u n e => by rw [key' b (hne b u e)]; exact s16.fr b u n e, s16.nb, fun b u e => by rw [key' b (hne b u e)]; exact s16.dm b u e⟩, ⟨fun b u e => ?_, o2.sl.mono s26.ex, True.intro⟩, upd_same, hb6, ?_⟩
    · rw [key' b (fun z => by rw [z, hb6] at e; cases e)]; exact o6.ex b u e
    · show RpK K B6 _ ((l.take (i + 1)).map _)
      rw [List.take_add_one, hx, List.map_append]
      exact RpK.append r6 (.cons v6 .nil)
  · have e : i = l.length := by omega
    subst e
    have ho : out l.length = l.map fun x => ((Sum.inr (key x) : Key), val x) := by show (l.take l.length).map _ = _; rw [List.take_length]
    rw [ho] at r2
    have eB : Ex B2 (upd B2 Dp (.dK kvs)) := Ex.new hb2
    have s02 := s1.trans s2
    refine .inl ⟨w2 (by rw [List.length_map]; exact Nat.le_refl _), q _ (upd B2 Dp (.dK kvs)) H' ⟨s02.ex.trans eB, s02.fr, fun b u e => ?_, s02.dm⟩ ⟨fun b u e => ?_, o2.sl.mono eB, True.intro⟩ (Rp.dic upd_same (RpK.mono eB r2))⟩
    · rw [upd_ne (ne_of_none e hD0)]
      exact s02.nb b u e
    · by_cases hb : b = Dp
      · subst hb; rw [upd_same] at e; cases e; exact hd2
      · rw [upd_ne hb] at e; exact o2.ex b u e
end
/-- a local name holds the class: C(..) by it -/
def tMakeL (i : Nat) (C : Addr) (sp : Sp) (t : TA) : TE := fun σ H Q => σ[i]? = some (some (.ref C)) ∧ tMake C sp [] E0 t σ H Q
open PySem.Spec PyProof.Rows in
theorem pe_makeL {X : Cx} {k i : Nat} {f C : Addr} {fd : FuncData} {ps : List Str} {sp : Sp} {x : Str} {p pos : Pos} {e : Expr} {es : List Expr} {t : TA} (M : Mk X.K C f) (F : FnOk X.prog X.w X.K X.mg X.base CX0 k f fd ps sp) (hb : Binds X.K fd ps []) (hr : Room (k + 1) X.A)
    (hN : X.N[i]? = some x) (hv : Vis X.env.scope x) (ha : PA X (e :: es) t)
    (hdb : (x == ("__debug__" : Str)) = false := by decide) (hcd : (x == ("__classdict__" : Str)) = false := by decide)
    (he : starEach (e :: es) X.env = (false, eval e X.env) :: starEach es X.env := by rfl) (hpl : (backTo pos (starEach es X.env)).any (·.1) = false := by rfl) : PE X (.Call (.Name x p) (e :: es) [] pos) (tMakeL i C sp t) := by
  refine ⟨fun pins s σ H Q I h => ?_⟩
  obtain ⟨hs, ht⟩ := h
  refine wpAny_Call_Name_kw (thn ((pe_var (pos := p) hN hv hdb hcd).run pins s σ H (fun v H1 => v = .ref C ∧ H1 = H) I ⟨.ref C, hs, rfl, rfl⟩) fun u s1 ⟨v, H1, I1, r1, q1⟩ => ?_)
  obtain ⟨rfl, rfl⟩ := q1
  cases r1
  refine PySem.W.callWith_K (h₀ := X.base) I.ok.mod.kin M.kp (thn (ha.run pos pins s1 σ _ _ I1 ht) fun us s2 ⟨vs, H2, I2, r, q⟩ => ⟨I2.kIn, ?_⟩) he hpl
  exact run_make M F hr hb .nil pass0 I2 r q
/-- o.f = v while o is not told yet -/
theorem st_fldNew {B0 H0 B H : Hp} {ss : List Sl} {σ : L2.St} {D : Ends} {i : Nat} {te : TE} {d : DV.D} {p C dx : Addr} {fs : List (Str × V)} {f : Str} (s : Stp [] B0 H0 B H) (o : Okk K [] ss [] B H σ) (hp0 : H0 p = none) (hbp : B p = none) (hi : ss[i]? = some (.val (.ref p)))
    (hp : H p = some (.ins C dx fs)) (c : Cls K C) (n : NoAttr K C f) (hl : fs.length < 1000) (he : Ev K [] ss [] te (.dat d) [])
    (k : ∀ v B' H', Stp [] B0 H0 B' H' → Okk K [] ss [] B' H' σ → Ex B B' → B' p = none → H' p = some (.ins C dx (putF f v fs)) → Rp K B' v d → D.nx σ H') : sFld K (tVar i) te f D σ H := by
  refine he B H σ o _ fun v B1 H1 s1 o1 v1 => ?_
  obtain ⟨u, hu, eu⟩ := o1.sl.get i _ hi (by intro z; cases z)
  cases (show u = V.ref p from eu)
  have hp1 : H1 p = some (.ins C dx fs) := s1.fr _ _ (by simp) hp
  have hb1 : B1 p = none := by rw [s1.nb _ _ hp]; exact hbp
  have s01 := s.trans s1
  refine ⟨.ref p, hu, p, C, dx, fs, rfl, hp1, c, n, hl, ?_⟩
  exact k v B1 _ (SP.stp_upd s01 hp0) ⟨SP.ex_upd o1.ex hb1, o1.sl, True.intro⟩ s1.ex hb1 upd_same v1
end DV
/-! ZM: zip of a tuple and a list, by the library's zip over two iterators of any kind. -/
namespace ZM
open PySem PySem.Spec PyProof.Rows L2 RZ
/-- what a turn of zip(tuple, list) gives -/
def ItzM (K : PySem.W.Frag) (a b : Addr) (n m : Nat) : It where
  go i H := ∃ xs ys x y, SqT K H a xs ∧ SqL K H b ys ∧ xs[i]? = some x ∧ ys[i]? = some y ∧ xs.length = n ∧ ys.length = m
  yld i H v H' := ∃ T x y, v = .ref T ∧ H T = none ∧ H' = upd H T (.tup [x, y]) ∧ (∀ xs, SqT K H a xs → xs[i]? = some x) ∧ ∀ ys, SqL K H b ys → ys[i]? = some y
  stop i H := ∃ xs ys, SqT K H a xs ∧ SqL K H b ys ∧ xs.length = n ∧ ys.length = m ∧ min n m ≤ i
/-- the five cells of it between two turns -/
def Cells (z TI TO i1 i2 a b : Addr) (N i : Nat) (h : Heap) : Prop := i ≤ N ∧ IsZip h z TI TO .none ∧ IsPair h TI (.ref i1) (.ref i2) ∧ (∃ x y, IsPair h TO x y) ∧ h.IsTupleIter i1 a i ∧ h.IsListIter i2 b i
theorem sepOf {z TI TO i1 i2 a b : Addr} (D : ZipApart z TI TO i1 i2 a b) : ZipSep2 z TI TO i1 i2 [i1, a] [i2, b] where
  TIz := D.TIz
  TOz := D.TOz
  TITO := D.TITO
  TIi1 := D.TIi1
  mem1 := by simp
  zf1 := by simp [Ne.symm D.i1z, Ne.symm D.l1z]
  Tf1 := by simp [D.TOi1, Ne.symm D.l1TO]
  TIi2 := D.TIi2
  mem2 := by simp
  zf2 := by simp [Ne.symm D.i2z, Ne.symm D.l2z]
  Tf2 := by simp [D.TOi2, Ne.symm D.l2TO]
  sep1_2 := by simp [D.i12, Ne.symm D.l2i1]
  sep2_1 := by simp [Ne.symm D.i12, Ne.symm D.l1i2]
theorem cases5 {c z TI TO i1 i2 : Addr} (h : c ∈ [z, TI, TO, i1, i2]) : c = z ∨ c = TI ∨ c = TO ∨ c = i1 ∨ c = i2 := by simpa using h
theorem cell_obj {z TI TO i1 i2 a b c : Addr} {N i : Nat} {h : Heap} (st : Cells z TI TO i1 i2 a b N i h) (hc : c ∈ [z, TI, TO, i1, i2]) : ∃ o, h.get? c = some o ∧ ∀ v, o.data ≠ .cell v := by
  obtain ⟨_, p1, p2, ⟨_, _, p3⟩, ⟨o4, p4, _, d4⟩, ⟨o5, p5, _, d5⟩⟩ := st
  rcases cases5 hc with rfl | rfl | rfl | rfl | rfl
  · exact ⟨_, p1, nofun⟩
  · exact ⟨_, p2, nofun⟩
  · exact ⟨_, p3, nofun⟩
  · exact ⟨o4, p4, fun v e => by rw [d4] at e; cases e⟩
  · exact ⟨o5, p5, fun v e => by rw [d5] at e; cases e⟩
theorem turnM {P : Program} {w : World} {K : PySem.W.Frag} {elts : List Expr} {kk : Nat} {tpos : Pos} {a b z TI TO i1 i2 : Addr} {n m : Nat} (D : ZipApart z TI TO i1 i2 a b) : Turn P w K (.Tuple elts kk tpos) (ItzM K a b n m) [z, TI, TO, i1, i2] z (Cells z TI TO i1 i2 a b (min n m)) where
  mem := List.mem_cons_self
  obj i h st c hc := cell_obj st hc
  keep i h h' st k := by
    obtain ⟨p0, p1, p2, ⟨x, y, p3⟩, p4, p5⟩ := st
    refine ⟨p0, k _ ?_ _ p1, k _ ?_ _ p2, ⟨x, y, k _ ?_ _ p3⟩, p4.at (k _ ?_), p5.at (k _ ?_)⟩ <;> simp
  item := by
    intro X hP hw hK hc i pins s σ H E I free st go
    subst hP hw hK
    have st0 := st
    obtain ⟨p0, p1, p2, ⟨u0, v0, p3⟩, p4, p5⟩ := st
    obtain ⟨xs, ys, x, y, qa, qb, ex, ey, hn, hm⟩ := go
    have i1n := (List.getElem?_eq_some_iff.mp ex).1
    have i2m := (List.getElem?_eq_some_iff.mp ey).1
    obtain ⟨ua, ra, ta, _⟩ := I.tuple qa
    obtain ⟨ub, rb, lb, _⟩ := I.list qb
    obtain ⟨u, eu, ru⟩ := ra.get ex
    obtain ⟨v, ev, rv⟩ := rb.get ey
    have none1 : X.A.in1.handled = none := I.ok.hd hc
    refine wpAny_pyNext_zipD2_item (sepOf D) (Draws.tuple none1 i1 a D.l1i1 ua.toArray) (Draws.list none1 i2 b D.l2i2 ub.toArray) p1 p2 p3 ⟨p4, ta⟩ ⟨p5, lb.isList⟩
      (by simpa using (List.getElem?_eq_some_iff.mp eu).1) (by simpa using (List.getElem?_eq_some_iff.mp ev).1) fun v1 v2 h1 tk e1 e2 n1 n3 n4 n5 nT nS old => ?_
    have w1 : v1 = u := by simpa [eu] using e1.symm
    have w2 : v2 = v := by simpa [ev] using e2.symm
    subst w1 w2
    have lt : ∀ c ∈ [z, TI, TO, i1, i2], c < s.heap.objs.size := fun c h => (cell_obj st0 h).elim fun o q => Heap.lt_size q.1
    refine ⟨_, rfl, wpAny_letOwnedTupleGo_zip (s := { s with heap := h1, toks := tk }) n1 fun h2 m1 same => ?_⟩
    have at2 : ∀ c o, c ≠ z → h1.get? c = some o → h2.get? c = some o := fun c o n q => (same.2 c n).trans q
    have old2 : ∀ c o, c ∉ [z, TI, TO, i1, i2] → s.heap.get? c = some o → h2.get? c = some o := fun c o n q => by
      simp only [List.mem_cons, List.not_mem_nil, or_false, not_or] at n
      exact at2 c o n.1 (old c o n.1 n.2.2.1 n.2.2.2.1 n.2.2.2.2 q)
    have newT : h2.get? s.heap.objs.size = some { cls := .type "tuple", data := .seq #[v1, v2] } := at2 _ _ (Nat.ne_of_gt (lt z (by simp))) nT
    have I1 : Inv X pins σ (upd H s.heap.objs.size (.tup [x, y])) { s with heap := h2, toks := tk } :=
      I.turnedNew (t' := tk) (ch := [z, TI, TO, i1, i2]) old2 free (Nat.le_refl _) ⟨by show 2 ≤ sizeLine; decide, [v1, v2], .cons ru (.cons rv .nil), _, newT, rfl, _, rfl⟩
    refine ⟨.ref _, _, I1, rfl, ⟨_, x, y, rfl, I.hok.fresh (Nat.le_refl _), rfl, fun l q => I.tuple_inj q qa ▸ ex, fun l q => I.list_inj q qb ▸ ey⟩, ⟨by omega, m1, at2 _ _ D.TIz (old _ _ D.TIz D.TITO D.TIi1 D.TIi2 p2), ⟨v1, v2, at2 _ _ D.TOz n3⟩, n4.1.at fun o q => at2 _ o D.i1z q, n5.1.at fun o q => at2 _ o D.i2z q⟩, fun c h => ?_⟩
    rw [upd_ne (Nat.ne_of_lt (lt c h))]
    exact (free c h).1
  done := by
    intro X hP hw hK hc i pins s σ H E I free st fin
    subst hP hw hK
    obtain ⟨p0, p1, p2, ⟨u0, v0, p3⟩, p4, p5⟩ := st
    obtain ⟨xs, ys, qa, qb, hn, hm, he⟩ := fin
    obtain ⟨ua, ra, ta, _⟩ := I.tuple qa
    obtain ⟨ub, rb, lb, _⟩ := I.list qb
    have la := ra.length
    have lb' := rb.length
    have none1 : X.A.in1.handled = none := I.ok.hd hc
    refine wpAny_pyNext_zipD2_end (i := i) (sepOf D) (Draws.tuple none1 i1 a D.l1i1 ua.toArray) (Draws.list none1 i2 b D.l2i2 ub.toArray) p1 p2 p3 ⟨p4, ta⟩ ⟨p5, lb.isList⟩
      (by rw [List.size_toArray]; omega) (by rw [List.size_toArray]; omega) (by rw [List.size_toArray, List.size_toArray]; omega) fun h1 tk old => ⟨rfl, I.turnedL (t' := tk) (ch := [z, TI, TO, i1, i2]) (fun c o n q => ?_) free⟩
    simp only [List.mem_cons, List.not_mem_nil, or_false, not_or] at n
    exact old c o n.1 n.2.2.1 n.2.2.2.1 n.2.2.2.2 q
  self A i s Q E st h := wpAny_pyIter_zip st.2.1 h
/-- zip(t, l) -/
def iZipM (K : PySem.W.Frag) (ta : TA) : TI := fun σ H R => ta σ H fun vs H1 => ∃ a b xs ys, vs = [.ref a, .ref b] ∧ SqT K H1 a xs ∧ SqL K H1 b ys ∧ R (ItzM K a b xs.length ys.length) H1
theorem pi_zipM {X : Cx} {e1 e2 : Expr} {ta : TA} {np cp tp : Pos} {elts : List Expr} {n : Nat} (hg : Gl X "zip") (hm : X.mg "zip" = none) (ha : PA X [e1, e2] ta)
    (h1 : starEach [e1, e2] X.env = (false, eval e1 X.env) :: starEach [e2] X.env := by rfl) (h2 : (backTo cp (starEach [e2] X.env)).any (·.1) = false := by rfl) : PI X (.Tuple elts n tp) (.Call (.Name "zip" np) [e1, e2] [] cp) (iZipM X.K ta) where
  run pins s σ H R I h := by
    refine Call_ (ld_blt I hg hm PyProof.Rows.boot_zip (PyProof.Rows.callWith_type1 (thn (ha.run cp pins s σ H _ I h) fun us t ⟨vs, G, I1, rv, a, b, xs, ys, ev, qa, qb, q⟩ => ?_) h1 h2))
    subst ev
    obtain ⟨u1, u2, rfl, r1, r2⟩ := vals2 rv
    cases r1
    cases r2
    obtain ⟨ua, ra, ta', _⟩ := I1.tuple qa
    obtain ⟨ub, rb, lb, _⟩ := I1.list qb
    have at' := ta'
    obtain ⟨oa, ga, _⟩ := at'
    have far : ∀ k, FpOk X pins G (t.heap.objs.size + k) := fun k => I1.fpOk (Nat.le_add_right _ _) (I1.hok.fresh (Nat.le_add_right _ _))
    refine zip_begins2 (begins_tuple a ua.toArray) (begins_list b ub.toArray) ta' lb.isList fun h' z0 z2 z3 c1 c2 _ old => wpAny_pyIter_zip z0 ⟨_, _, _, _, G, rfl, I1.kept (t' := t.toks) old, turnM (PySem.W.ktu_apart t.heap.objs.size a b (Heap.lt_size ga) lb.lt), ⟨Nat.zero_le _, z0, z2, ⟨_, _, z3⟩, ⟨_, c1, rfl, rfl⟩, ⟨_, c2, rfl, rfl⟩⟩, fun c hc => ?_, q⟩
    rcases cases5 hc with rfl | rfl | rfl | rfl | rfl
    · exact far 4
    · exact far 2
    · exact far 3
    · exact far 0
    · exact far 1
end ZM
namespace SP
open PySem L2 DV PM
def schD (C : Addr) (T : List Tab) : D := .obj C [("tables", .nt (T.map fun t => .str t.1)), ("_columns", .dic (T.map fun t => ((Sum.inr t.1 : Key), .tup (t.2.map encC)))), ("_rows", .lst ((rowsOf T).map D.str))]
def schOk (T : List Tab) : Prop := tabsOk T ∧ (T.map (·.1)).Nodup
def spInit (K : PySem.W.Frag) (C : Addr) : Sp := fun vs H Q _ => ∃ p dx T v B0 H0, vs = [.ref p, v] ∧ H = upd (upd H0 dx (.own p)) p (.ins C dx []) ∧ H0 p = none ∧ H0 dx = none ∧ dx ≠ p ∧ Ex B0 H0 ∧ Rp K B0 v (encTs T) ∧ schOk T ∧
  ∀ B' H', Stp [] B0 H0 B' H' → Ex B' H' → Rp K B' (.ref p) (schD C T) → Q .non H'
def preParse (C : Addr) : Pre := fun rs Pl cs r cs' => ∃ x T, rs = [.val (.ref C), .dat (.str x)] ∧ x.length ≤ 100000 ∧ PyData.strOk x = true ∧ readText x = some T ∧ schOk T ∧ Pl = [] ∧ cs = [] ∧ r = .dat (schD C T) ∧ cs' = []
def preStr (C : Addr) : Pre := fun rs Pl cs r cs' => ∃ T, rs = [.dat (schD C T)] ∧ tabsOk T ∧ Pl = [] ∧ cs = [] ∧ r = .dat (.str (textOf T)) ∧ cs' = []
def preSEq (C : Addr) : Pre := fun rs Pl cs r cs' => ∃ T U, rs = [.dat (schD C T), .dat (schD C U)] ∧ tabsOk T ∧ tabsOk U ∧ Pl = [] ∧ cs = [] ∧ r = .dat (.bl (decide (rowsOf T = rowsOf U))) ∧ cs' = []
def preCols (C : Addr) : Pre := fun rs Pl cs r cs' => ∃ T n cols, rs = [.dat (schD C T), .dat (.str n)] ∧ T.lookup n = some cols ∧ Pl = [] ∧ cs = [] ∧ r = .dat (.tup (cols.map encC)) ∧ cs' = []
section
variable {K : PySem.W.Frag} {P : List Addr} {ss : List Sl} {cs cs1 : List (List D)} {ta : TA}
theorem ev_makeL {i : Nat} {C : Addr} {T : List Tab} (hi : ss[i]? = some (.val (.ref C))) (ha : EvA K P ss cs ta [.dat (encTs T)] cs1) (hT : schOk T) : Ev K P ss cs (tMakeL i C (spInit K C) ta) (.dat (schD C T)) cs1 := fun B H σ o Q q => by
  obtain ⟨w, hw, ew⟩ := o.sl.get i _ hi (by intro z; cases z)
  cases (show w = V.ref C from ew)
  refine ⟨hw, ha B H σ o _ fun vs B1 H1 s1 o1 r1 => ?_⟩
  obtain ⟨v, rfl, h1⟩ := rs1 r1
  intro x dx hx hdx hne
  exact ⟨x, dx, T, v, B1, H1, rfl, rfl, hx, hdx, hne, o1.ex, h1, hT, fun B' H' s' e' r' => ⟨rfl, q (.ref x) B' H' (s1.trans s'.ofNil) (o1.step0 s' e') r'⟩⟩
theorem valD_cols {T : List Tab} {n : Str} {cols : List Col} (h : T.lookup n = some cols) : valD (T.map fun t => ((Sum.inr t.1 : Key), D.tup (t.2.map encC))) (.inr n) = some (.tup (cols.map encC)) := by
  induction T with
  | nil => cases h
  | cons t T ih =>
    obtain ⟨a, c⟩ := t
    by_cases e : n = a
    · subst e
      have : c = cols := by simpa [List.lookup] using h
      subst this
      unfold valD
      simp
    · have e' : (n == a) = false := by simpa using e
      have h2 : T.lookup n = some cols := by simpa [List.lookup, e'] using h
      have := ih h2
      unfold valD at this ⊢
      have ne : ¬ (Sum.inr a : Key) = Sum.inr n := fun z => e (Sum.inr.inj z).symm
      simpa [List.find?_cons, ne] using this
theorem RpF.none {B : Hp} {f : Str} : ∀ {vs : List (Str × V)} {ds : List (Str × D)}, RpF K B vs ds → ds.lookup f = none → vs.lookup f = none
  | _, _, .nil, _ => rfl
  | _, _, .cons (k := k) h r, e => by
    by_cases hk : f = k
    · subst hk; simp [List.lookup] at e
    · have q : (f == k) = false := by simpa using hk
      simp only [List.lookup, q] at e ⊢
      exact RpF.none r e
theorem ev_meth1 {te : TE} {C : Addr} {m : Str} {pre : Pre} {fs : List (Str × D)} {rs : List Sl} {r : Sl} {cs2 : List (List D)} (h : Ev K P ss cs te (.dat (.obj C fs)) cs1) (hl : fs.lookup m = none) (ha : EvA K P ss cs1 ta rs cs2) (hp : pre (.dat (.obj C fs) :: rs) [] [] r []) :
    Ev K P ss cs (tMeth C m (spM K pre) [] E0 te ta) r cs2 := fun B H σ o Q q =>
  h B H σ o _ fun x B1 H1 s1 o1 v1 => by
    have a' : Rp K B1 x (.obj C fs) := v1
    cases a' with
    | @obj a _ dx fvs _ h5 rf =>
      refine ⟨a, dx, fvs, rfl, o1.ex _ _ h5, RpF.none rf hl, ha B1 H1 σ o1 _ fun vs B2 H2 s2 o2 r2 => ?_⟩
      rw [List.append_nil]
      exact ⟨B2, _, [], [], r, [], hp, o2.ex, ⟨RS.mono s2.ex v1, r2⟩, True.intro, fun v B3 H3 s3 e3 _ v3 => q v B3 H3 ((s1.trans s2).trans s3.ofNil) (o2.step0 s3 e3) v3⟩
theorem wd_zipM {ds es : List D} (h : EvA K P ss cs ta [.dat (.tup ds), .dat (.lst es)] cs1) : WD K P ss cs (ZM.iZipM K ta) (zipD ds es) cs1 := fun B H σ o R q =>
  h B H σ o _ fun vs B1 H1 s1 o1 r1 => by
    obtain ⟨v, v', rfl, h1, h2⟩ := rs2 r1
    have a' : Rp K B1 v (.tup ds) := h1
    have b' : Rp K B1 v' (.lst es) := h2
    cases a' with
    | @tup a xs _ h5 r => cases b' with
      | @lst b ys _ h6 r' =>
        refine ⟨_, _, xs, ys, rfl, .inl (RdEx o1.ex h5), .inl (.inl (o1.ex _ _ h6)), q _ B1 H1 s1 o1 fun i B2 H2 e1 e2 => ?_⟩
        have z : SqT K H2 a xs := .inl (RdEx e2 (RdEx e1 h5))
        have z' : SqL K H2 b ys := .inl (.inl (e2 _ _ (e1 _ _ h6)))
        refine ⟨fun d hd => ?_, fun hl => ⟨xs, ys, z, z', rfl, rfl, ?_⟩⟩
        · obtain ⟨e, e', he, he', rfl⟩ := zipD_get hd
          obtain ⟨v, h1, h2⟩ := r.get he
          obtain ⟨v', h1', h2'⟩ := r'.get he'
          refine ⟨⟨xs, ys, v, v', z, z', h1, h1', rfl, rfl⟩, fun x H' y => ?_⟩
          obtain ⟨T, x', y', rfl, hT, rfl, f, f'⟩ := y
          have q1 := f xs z
          have q2 := f' ys z'
          rw [h1] at q1; rw [h1'] at q2
          cases q1; cases q2
          have s := stp_new (o := .tup [v, v']) e2 hT
          exact ⟨_, s, e2.updB, .tup (.inl upd_same) (.cons (h2.mono (e1.trans s.ex)) (.cons (h2'.mono (e1.trans s.ex)) .nil))⟩
        · rw [r.length, r'.length]
          have : (zipD ds es).length = min ds.length es.length := by simp [zipD]
          rw [this] at hl
          omega
theorem cb_isTT {ds : List D} : CbD K (rIsi K) [.dat (.tup ds), .val (.ty "tuple")] (.dat (.bl true)) := fun B H vs e h Q q => by
  obtain ⟨v, v', rfl, h1, h2⟩ := rs2 h
  have a' : Rp K B v (.tup ds) := h1
  cases a' with
  | @tup a xs _ h5 r => exact ⟨_, v', .type "tuple", .type "tuple", true, rfl, by rw [show v' = V.ty "tuple" from h2]; exact .ty _, (RdEx e h5).elim (fun h => .base (.tup h)) (fun ⟨_, h⟩ => .fTuple h), kit_ty (by decide +kernel), q _ B H (Stp.refl _ _ _) e (.bl _)⟩
theorem cb_isI {i : Int} {n : String} {b : Bool} (hk : kitB "int" n = some b) : CbD K (rIsi K) [.dat (.int i), .val (.ty n)] (.dat (.bl b)) := fun B H vs e h Q q => by
  obtain ⟨v, v', rfl, h1, h2⟩ := rs2 h
  have a' : Rp K B v (.int i) := h1
  cases a'
  exact ⟨_, v', .type "int", .type n, b, rfl, by rw [show v' = V.ty n from h2]; exact .ty _, .base (.int _), kit_ty hk, q _ B H (Stp.refl _ _ _) e (.bl _)⟩
/-- what an instance of the class is told to be -/
structure SchCls (K : PySem.W.Frag) (C : Addr) : Prop where
  cl : Cls K C
  n1 : NoAttr K C "tables"
  n2 : NoAttr K C "_columns"
  n3 : NoAttr K C "_rows"
  ha : PySem.W.findIn K (.ref C) "__class__" = some (some (.builtin "object.__class__"))
  hn : PySem.W.specialIn K (.builtin "object.__class__") "__get__" = some (some (.builtin "getset_descriptor.__get__"))
  htk : PySem.W.takesIn K (.builtin "object.__class__") = some true
  hm : PySem.W.mroIn K C (.type "object") = some true
  hk : PySem.W.kitOne K (.ref C) (.ref C) = some true
theorem cb_isC {C : Addr} {fs : List (Str × D)} (c : SchCls K C) : CbD K (rIsi K) [.dat (.obj C fs), .val (.ref C)] (.dat (.bl true)) := fun B H vs e h Q q => by
  obtain ⟨v, v', rfl, h1, h2⟩ := rs2 h
  have a' : Rp K B v (.obj C fs) := h1
  cases a' with
  | @obj a _ dx fvs _ h5 rf => exact ⟨_, v', .ref C, .ref C, true, rfl, by rw [show v' = V.ref C from h2]; exact .own _, .base (.ins (e _ _ h5) c.cl c.ha c.hn c.htk c.hm), c.hk, q _ B H (Stp.refl _ _ _) e (.bl _)⟩
def preWithin : Pre := fun rs Pl cs r cs' => ∃ v lo hi : Int, rs = [.dat (.int v), .dat (.int lo), .dat (.int hi)] ∧ Pl = [] ∧ cs = [] ∧ r = .dat (.bl (decide (lo ≤ v) && decide (v ≤ hi))) ∧ cs' = []
def lowsOf (cols : List Col) : List Int := 0 :: cols.map fun c => if c.2.isNone then -1000000 else 0
def rowB (cols : List Col) (ns : List Int) : Bool := decide (ns.length = 1 + cols.length) && ((List.zip ns (lowsOf cols)).all fun p => decide (p.2 ≤ p.1) && decide (p.1 ≤ 1000000))
def preIsRow (C : Addr) : Pre := fun rs Pl cs r cs' => ∃ T n cols, ∃ ns : List Int, rs = [.dat (schD C T), .dat (.str n), .dat (.tup (ns.map D.int))] ∧ T.lookup n = some cols ∧ cols.length ≤ 1000 ∧ ns.length ≤ 1000 ∧ Pl = [] ∧ cs = [] ∧ r = .dat (.bl (rowB cols ns)) ∧ cs' = []
/-! rows of texts that are ok -/
theorem ok_join {y : Str} (hy : PyData.strOk y = true) : ∀ {ls : List Str}, ls ≠ [] → (∀ l ∈ ls, PyData.strOk l = true) → PyData.strOk (Txt.join y ls) = true := by
  intro ls
  induction ls with
  | nil => intro z; exact absurd rfl z
  | cons a r ih =>
    intro _ h
    cases r with
    | nil => rw [join_one]; exact h a (by simp)
    | cons b r =>
      rw [join_cons]
      have h1 := h a (by simp)
      have h2 := ih (by simp) fun l hl => h l (List.mem_cons_of_mem _ hl)
      unfold PyData.strOk at *
      rw [all_list] at *
      rw [app_list, app_list, List.all_append, List.all_append, hy, h1, h2]
      rfl
theorem row_ok {T : List Tab} (h : tabsOk T) {r : Str} (hr : r ∈ rowsOf T) : PyData.strOk r = true ∧ r.length ≤ 30 := by
  obtain ⟨ws, hw, rfl⟩ := List.mem_map.mp hr
  obtain ⟨t, ht, hw⟩ := List.mem_flatMap.mp hw
  obtain ⟨h1, _, h2⟩ := h.2 t ht
  have lits : PyData.strOk "table" = true ∧ PyData.strOk "" = true ∧ PyData.strOk "plain" = true ∧ PyData.strOk "ref" = true ∧ PyData.strOk sp = true := ⟨by decide +kernel, by decide +kernel, by decide +kernel, by decide +kernel, by decide +kernel⟩
  obtain ⟨a1, a2, a3, a4, a5⟩ := lits
  rcases List.mem_cons.mp hw with rfl | hw
  · refine ⟨ok_join a5 (by simp) fun l hl => ?_, row_len_tab h1.2.2.1⟩
    rcases List.mem_cons.mp hl with rfl | hl
    · exact a1
    · rw [List.mem_singleton.mp hl]; exact h1.2.2.2
  · obtain ⟨c, hc, rfl⟩ := List.mem_map.mp hw
    have hco := h2 c hc
    refine ⟨ok_join a5 (by obtain ⟨n, t⟩ := c; cases t <;> simp [colWords]) fun l hl => ?_, row_len_col hco⟩
    obtain ⟨n, t⟩ := c
    cases t with
    | none =>
      have : l = "" ∨ l = "" ∨ l = "plain" ∨ l = n := by simpa [colWords] using hl
      rcases this with rfl | rfl | rfl | rfl
      · exact a2
      · exact a2
      · exact a3
      · exact hco.1.2.2.2
    | some t =>
      have : l = "" ∨ l = "" ∨ l = "ref" ∨ l = n ∨ l = t := by simpa [colWords] using hl
      rcases this with rfl | rfl | rfl | rfl | rfl
      · exact a2
      · exact a2
      · exact a4
      · exact hco.1.2.2.2
      · exact (hco.2 _ rfl).2.2.2
theorem sum_le {ls : List Str} {k : Nat} (h : ∀ l ∈ ls, l.length ≤ k) : (ls.map (·.length)).sum ≤ k * ls.length := by
  induction ls with
  | nil => simp
  | cons a r ih =>
    have h1 := h a (by simp)
    have h2 := ih fun l hl => h l (List.mem_cons_of_mem _ hl)
    simp only [List.map_cons, List.sum_cons, List.length_cons]
    rw [Nat.mul_add]
    omega
end
end SP
namespace T3
open PySem L2 DV PM SP
abbrev s_Schema_init_ : Stmt := inClass (topS 15) 0
abbrev N_Schema_init_ : List Str := ["self", "tables", "name", "columns"]
theorem sc_Schema_init_ : FnScope N_Schema_init_ ["self", "tables"] (defScope s_Schema_init_) := ⟨rfl, rfl, rfl, by decide +kernel, rfl, by decide +kernel, by decide +kernel⟩

abbrev s_Schema_parse : Stmt := inClass (topS 15) 1
abbrev N_Schema_parse : List Str := ["cls", "text"]
theorem sc_Schema_parse : FnScope N_Schema_parse ["cls", "text"] (defScope s_Schema_parse) := ⟨rfl, rfl, rfl, by decide +kernel, rfl, by decide +kernel, by decide +kernel⟩

abbrev s_Schema_str_ : Stmt := inClass (topS 15) 2
abbrev N_Schema_str_ : List Str := ["self"]
theorem sc_Schema_str_ : FnScope N_Schema_str_ ["self"] (defScope s_Schema_str_) := ⟨rfl, rfl, rfl, by decide +kernel, rfl, by decide +kernel, by decide +kernel⟩

abbrev s_Schema_eq_ : Stmt := inClass (topS 15) 3
abbrev N_Schema_eq_ : List Str := ["self", "other"]
theorem sc_Schema_eq_ : FnScope N_Schema_eq_ ["self", "other"] (defScope s_Schema_eq_) := ⟨rfl, rfl, rfl, by decide +kernel, rfl, by decide +kernel, by decide +kernel⟩

abbrev s_Schema_columns : Stmt := inClass (topS 15) 4
abbrev N_Schema_columns : List Str := ["self", "table"]
theorem sc_Schema_columns : FnScope N_Schema_columns ["self", "table"] (defScope s_Schema_columns) := ⟨rfl, rfl, rfl, by decide +kernel, rfl, by decide +kernel, by decide +kernel⟩

section
variable {P : Program} {w : World} {K : PySem.W.Frag} {mg : Str → Option Value} {base : Heap} {C : Addr}
theorem ok_init {f fR : Addr} {fd fdR : FuncData} (F : Fun K "__init__" "Schema.__init__" s_Schema_init_ f fd) (G_text_rows : Def P w K mg base 2 "text_rows" fR fdR ["tables"] (spM K preRows)) (cl : Cls K C) (n1 : NoAttr K C "tables") (n2 : NoAttr K C "_columns") (n3 : NoAttr K C "_rows") (b_tuple : mg "tuple" = none) :
    FnOk P w K mg base CX0 3 f fd ["self", "tables"] (spInit K C) := by
  refine F.ok sc_Schema_init_ (fun vs H Q E h => ?_) (fun cdv A outer s H vs Q E hr h => ?_)
  · obtain ⟨p, dx, T, v, B0, H0, rfl, _⟩ := h
    rfl
  have nd := sc_Schema_init_.nd
  refine ⟨_, (pss_cons (ps_fld (pv 0) (pe_callTy call_tupleF (by rfl) b_tuple (by decide +kernel) (pa_cons (pe_lc (own := [("name", 2), ("columns", 3)]) (g := (gTup K 2 (gCons (gName 2) (gCons (gName 3) gNil)))) (tt := tYes) (te := (tVar 2)) rfl nd (pi_list (pv 1)) (blkOk_by (N := N_Schema_init_) (sc := defScope s_Schema_init_) (by decide +kernel)) (by intro _ _ _ _ _; exact (pg_tup (by rfl) (by exact (pgs_cons (by exact (pg_name (i := 2) nd (by rfl) (by first | exact .inl rfl | exact .inr rfl))) (by exact (pgs_cons (by exact (pg_name (i := 3) nd (by rfl) (by first | exact .inl rfl | exact .inr rfl))) (by exact pgs_nil))))))) (by intro _ _ _ _ _; exact pts_nil) (by intro _ _ _ _ _; exact (pv 2))) pa_nil)) rfl)
      (pss_cons (ps_fld (pv 0) (pe_dc (own := [("name", 2), ("columns", 3)]) (g := (gTup K 2 (gCons (gName 2) (gCons (gName 3) gNil)))) (tt := tYes) (tk := (tVar 2)) (tv := (tCB (rTuple1 K) (tCons (tVar 3) tNil))) rfl nd (pi_list (pv 1)) (blkOk_by (N := N_Schema_init_) (sc := defScope s_Schema_init_) (by decide +kernel)) (by intro _ _ _ _ _; exact (pg_tup (by rfl) (by exact (pgs_cons (by exact (pg_name (i := 2) nd (by rfl) (by first | exact .inl rfl | exact .inr rfl))) (by exact (pgs_cons (by exact (pg_name (i := 3) nd (by rfl) (by first | exact .inl rfl | exact .inr rfl))) (by exact pgs_nil))))))) (by intro _ _ _ _ _; exact pts_nil) (by intro _ _ _ _ _; exact (pv 2)) (by intro _ _ _ _ _; exact (pe_callTy call_tuple1 (by rfl) b_tuple (by decide +kernel) (pa_cons (pv 3) pa_nil)))) rfl)
      (pss_one (ps_fld (pv 0) (pe_def G_text_rows hr (by decide) (by rfl) (pa_cons (pv 1) pa_nil)) rfl)))), ?_⟩
  obtain ⟨p, dx, T, v, B0, H0, rfl, rfl, hp0, hd0, hne, e0, r0, hT, q⟩ := h
  have bp0 : B0 p = none := e0.free hp0
  have bd0 : B0 dx = none := e0.free hd0
  have s0 : Stp [] B0 H0 B0 (upd (upd H0 dx (.own p)) p (.ins C dx [])) := stp_upd (stp_upd (Stp.refl _ _ _) hd0) hp0
  have e1 : Ex B0 (upd (upd H0 dx (.own p)) p (.ins C dx [])) := ex_upd (ex_upd e0 bd0) bp0
  have hp : upd (upd H0 dx (.own p)) p (.ins C dx []) p = some (.ins C dx []) := upd_same
  generalize upd (upd H0 dx (.own p)) p (.ins C dx []) = H1 at s0 e1 hp ⊢
  obtain ⟨B, s1, o1⟩ := sta_start (vs := [.ref p, v]) (N := N_Schema_init_) (K := K) (P := []) (cs := []) (rs := [.val (.ref p), .dat (encTs T)]) e1 ⟨rfl, r0, True.intro⟩ True.intro
  have s01 := s0.trans s1
  have b1 : B p = none := by rw [s1.nb _ _ hp]; exact bp0
  refine st_seq (st_fldNew (K := K) (i := 0) (d := .nt (T.map fun t => .str t.1)) s01 o1 hp0 b1 rfl hp cl n1 (by decide) (ev_cb (ea_cons (EvF.ev (ef_mapE (l := T) (enc := encT) (wd_lst (ev_var (i := 1) rfl)) (fun t => .str t.1) (by have := hT.1.1; omega) (fun p i t acc hd' =>
    ⟨_, _, g_tup (g_cons g_name (g_cons g_name g_nil)), by decide, ev_var rfl⟩))) ea_nil) cb_tupleF) fun v1 B2 H2 s2 o2 e2 b2 hp2 r2 => ?_)
  dsimp only []
  refine st_seq (st_fldNew (K := K) (i := 0) (d := .dic (T.map fun t => ((Sum.inr t.1 : Key), .tup (t.2.map encC)))) s2 o2 hp0 b2 rfl hp2 cl n2 (by simp [putF]) (ev_dcE (l := T) (enc := encT) (wd_lst (ev_var (i := 1) rfl)) (fun t => t.1) (fun t => .tup (t.2.map encC)) (by have := hT.1.1; omega) hT.2 (fun i t hd' =>
    ⟨_, _, g_tup (g_cons g_name (g_cons g_name g_nil)), by decide, ev_var rfl, ev_cb (ea_cons (ev_var rfl) ea_nil) cb_tupleL⟩)) fun v2 B3 H3 s3 o3 e3 b3 hp3 r3 => ?_)
  refine st_fldNew (K := K) (i := 0) (d := .lst ((rowsOf T).map D.str)) s3 o3 hp0 b3 rfl hp3 cl n3 (by simp only [putF]; split <;> simp) (ev_call0 (ea_cons (ev_var (i := 1) rfl) ea_nil) ⟨T, rfl, hT.1, rfl, rfl, rfl, rfl⟩) fun v3 B4 H4 s4 o4 e4 b4 hp4 r4 => ?_
  refine q (upd B4 p (.ins C dx (putF "_rows" v3 (putF "_columns" v2 (putF "tables" v1 []))))) H4 ⟨s4.ex.trans (Ex.new b4), s4.fr, fun b u e => ?_, s4.dm⟩ (fun b u e => ?_) (Rp.obj upd_same ?_)
  · rw [upd_ne (ne_of_none e hp0)]; exact s4.nb b u e
  · by_cases hb : b = p
    · subst hb; rw [upd_same] at e; cases e; exact hp4
    · rw [upd_ne hb] at e; exact o4.ex b u e
  · have eB : Ex B4 (upd B4 p (.ins C dx (putF "_rows" v3 (putF "_columns" v2 (putF "tables" v1 []))))) := Ex.new b4
    have hf : putF "_rows" v3 (putF "_columns" v2 (putF "tables" v1 [])) = ([("tables", v1), ("_columns", v2), ("_rows", v3)] : List (Str × V)) := by
      have a1 : ¬ ("tables" : Str) = "_columns" := by decide +kernel
      have a2 : ¬ ("tables" : Str) = "_rows" := by decide +kernel
      have a3 : ¬ ("_columns" : Str) = "_rows" := by decide +kernel
      simp only [putF, if_neg a1, if_neg a2, if_neg a3]
    rw [hf] at eB ⊢
    exact .cons (r2.mono ((e3.trans e4).trans eB)) (.cons (r3.mono (e4.trans eB)) (.cons (r4.mono eB) .nil))
theorem ok_parse {f fR fI : Addr} {fd fdR fdI : FuncData} (F : Fun K "parse" "Schema.parse" s_Schema_parse f fd) (G_read_tables : Def P w K mg base 4 "read_tables" fR fdR ["text"] (spM K preRead)) (M_made : Mk K C fI) (G_init : FnOk P w K mg base CX0 3 fI fdI ["self", "tables"] (spInit K C)) (B_init : Binds K fdI ["self", "tables"] []) :
    FnOk P w K mg base CX0 5 f fd ["cls", "text"] (spM K (preParse C)) := by
  refine ok_body F sc_Schema_parse (fun rs Pl cs r cs' h => ?_) (fun X hX hr => ?_)
  · obtain ⟨x, T, rfl, _⟩ := h
    rfl
  obtain ⟨cdv, A, outer, s, H, E, rfl⟩ := hX
  have nd := sc_Schema_parse.nd
  refine ⟨_, (pss_one (ps_ret (pe_makeL (i := 0) M_made G_init B_init hr (by rfl) (.inl rfl) (pa_cons (pe_def G_read_tables hr (by decide) (by rfl) (pa_cons (pv 1) pa_nil)) pa_nil)))), ?_⟩
  intro rs Pl cs r cs' hp B0 H0 σ Dn st hP hd hn
  obtain ⟨x, T, rfl, hl, hs, hT, hk, rfl, rfl, rfl, rfl⟩ := hp
  exact st_ret st (ev_makeL (i := 0) rfl (ea_cons (ev_call0 (ea_cons (ev_var rfl) ea_nil) ⟨x, T, rfl, hl, hs, hT, rfl, rfl, rfl, rfl⟩) ea_nil) hk) hd
theorem un_negD {i : Int} : UnD K (rU fun i => .int (-i)) (.dat (.int i)) (.dat (.int (-i))) := fun B H x e h Q q => by
  have a' : Rp K B x (.int i) := h
  cases a'
  exact ⟨i, rfl, q _ B H (Stp.refl _ _ _) e (.int _)⟩
theorem text_small {T : List Tab} (hT : tabsOk T) : ((rowsOf T).map (·.length)).sum + (rowsOf T).length * ("\n" : Str).length ≤ 1000000 := by
  have h1 := sum_le (ls := rowsOf T) (k := 30) (fun l hl => (row_ok hT hl).2)
  have h2 := rows_len hT T.length
  rw [List.take_length] at h2
  have h3 := hT.1
  have h4 : ("\n" : Str).length = 1 := by decide +kernel
  rw [h4]
  omega
theorem ok_str {f : Addr} {fd : FuncData} (F : Fun K "__str__" "Schema.__str__" s_Schema_str_ f fd) (cl : Cls K C) (n3 : NoAttr K C "_rows") : FnOk P w K mg base CX0 1 f fd ["self"] (spM K (preStr C)) := by
  refine ok_body F sc_Schema_str_ (fun rs Pl cs r cs' h => ?_) (fun X hX hr => ?_)
  · obtain ⟨T, rfl, _⟩ := h
    rfl
  obtain ⟨cdv, A, outer, s, H, E, rfl⟩ := hX
  have nd := sc_Schema_str_.nd
  refine ⟨_, (pss_one (ps_ret (pe_join pe_str (pe_fld (pv 0) rfl)))), ?_⟩
  intro rs Pl cs r cs' hp B0 H0 σ Dn st hP hd hn
  obtain ⟨T, rfl, hT, rfl, rfl, rfl, rfl⟩ := hp
  exact st_ret st (ev_join ev_str (ev_fld (ev_var rfl) cl n3 rfl) (text_small hT)) hd
theorem ok_columns {f : Addr} {fd : FuncData} (F : Fun K "columns" "Schema.columns" s_Schema_columns f fd) (cl : Cls K C) (n2 : NoAttr K C "_columns") : FnOk P w K mg base CX0 1 f fd ["self", "table"] (spM K (preCols C)) := by
  refine ok_body F sc_Schema_columns (fun rs Pl cs r cs' h => ?_) (fun X hX hr => ?_)
  · obtain ⟨T, n, cols, rfl, _⟩ := h
    rfl
  obtain ⟨cdv, A, outer, s, H, E, rfl⟩ := hX
  have nd := sc_Schema_columns.nd
  refine ⟨_, (pss_one (ps_ret (pe_dget (hu_of hr) (pe_fld (pv 0) rfl) (pv 1) (fun _ _ => rfl)))), ?_⟩
  intro rs Pl cs r cs' hp B0 H0 σ Dn st hP hd hn
  obtain ⟨T, n, cols, rfl, hT, rfl, rfl, rfl, rfl⟩ := hp
  exact st_ret st (ev_dgetS (ev_fld (ev_var rfl) cl n2 rfl) (ev_var rfl) (valD_cols hT)) hd
theorem ok_eq {f : Addr} {fd : FuncData} (F : Fun K "__eq__" "Schema.__eq__" s_Schema_eq_ f fd) (sc : SchCls K C) (g_Schema : mg "Schema" = some (.ref C)) (b_isinstance : mg "isinstance" = none) : FnOk P w K mg base CX0 1 f fd ["self", "other"] (spM K (preSEq C)) := by
  refine ok_body F sc_Schema_eq_ (fun rs Pl cs r cs' h => ?_) (fun X hX hr => ?_)
  · obtain ⟨T, U, rfl, _⟩ := h
    rfl
  obtain ⟨cdv, A, outer, s, H, E, rfl⟩ := hX
  have nd := sc_Schema_eq_.nd
  refine ⟨_, (pss_one (ps_ret (pe_and (pe_callB call_isi (by rfl) b_isinstance (by decide +kernel) (pa_cons (pv 1) (pa_cons (pe_glob (v := .ref C) rfl g_Schema rfl) pa_nil))) (pe_one (pe_cmpR (op_eqA hr.units) (pe_fld (pv 0) rfl) (pe_fld (pv 1) rfl) (nomark _)))))), ?_⟩
  intro rs Pl cs r cs' hp B0 H0 σ Dn st hP hd hn
  obtain ⟨T, U, rfl, hT, hU, rfl, rfl, rfl, rfl⟩ := hp
  have e : (true && decide (rowsOf T = rowsOf U)) = decide (rowsOf T = rowsOf U) := Bool.true_and _
  rw [← e] at hd
  refine st_ret st (ev_andV (ev_cb (ea_cons (ev_var rfl) (ea_cons ev_val ea_nil)) (cb_isC sc)) (fun _ => ev_op (ev_fld (ev_var rfl) sc.cl sc.n3 rfl) (ev_fld (ev_var rfl) sc.cl sc.n3 rfl) (od_r (od_eq 1 1 (sh_strs fun w hw => (row_ok hT hw).1) (sh_strs fun w hw => (row_ok hU hw).1) (nb_strs _) (nb_strs _) ?_)))) hd
  exact decide_eq_true_iff.trans strs_inj.symm
end
end T3
/-! RG: cells that may change (a region): held beside the base, told to it while an expression reads them, hidden again behind it. -/
namespace RG
open PySem L2 DV
variable {K : PySem.W.Frag}
abbrev Cells := List (Addr × HO)
def pub (B : Hp) (L : Cells) : Hp := fun a => match L.lookup a with
  | some o => some o
  | none => B a
def off (B : Hp) (S : List Addr) : Hp := fun a => if a ∈ S then none else B a
def notTup : HO → Prop := fun o => (∀ xs, o ≠ .tup xs) ∧ ∀ u xs, o ≠ .frz u (.tup xs)
structure Held (B H : Hp) (L : Cells) : Prop where
  at' : ∀ p ∈ L, H p.1 = some p.2
  no : ∀ p ∈ L, B p.1 = none
theorem look_mem {L : Cells} {a : Addr} {o : HO} (h : L.lookup a = some o) : (a, o) ∈ L := by
  induction L with
  | nil => cases h
  | cons p L ih =>
    obtain ⟨b, u⟩ := p
    by_cases e : a = b
    · subst e
      have : u = o := by simpa [List.lookup] using h
      subst this
      exact List.mem_cons_self
    · have q : (a == b) = false := by simpa using e
      simp only [List.lookup, q] at h
      exact List.mem_cons_of_mem _ (ih h)
theorem look_none {L : Cells} {a : Addr} (h : L.lookup a = none) : ∀ p ∈ L, p.1 ≠ a := by
  induction L with
  | nil => intro p hp; cases hp
  | cons q L ih =>
    obtain ⟨b, u⟩ := q
    intro p hp z
    by_cases e : a = b
    · subst e; simp [List.lookup] at h
    · have q : (a == b) = false := by simpa using e
      simp only [List.lookup, q] at h
      rcases List.mem_cons.mp hp with rfl | hp
      · exact e z.symm
      · exact ih h p hp z
theorem pub_at {B : Hp} {L : Cells} {a : Addr} {o : HO} (h : L.lookup a = some o) : pub B L a = some o := by unfold pub; rw [h]
theorem pub_ne {B : Hp} {L : Cells} {a : Addr} (h : ∀ p ∈ L, p.1 ≠ a) : pub B L a = B a := by
  unfold pub
  cases e : L.lookup a with
  | none => rfl
  | some o => exact absurd rfl (h _ (look_mem e))
theorem pub_ex {B : Hp} {L : Cells} (h : ∀ p ∈ L, B p.1 = none) : Ex B (pub B L) := fun a o e => by
  rw [pub_ne fun p hp z => by rw [← z, h p hp] at e; cases e]
  exact e
theorem pub_in {B H : Hp} {L : Cells} (e : Ex B H) (h : Held B H L) : Ex (pub B L) H := fun a o q => by
  unfold pub at q
  cases z : L.lookup a with
  | none => rw [z] at q; exact e a o q
  | some u =>
    rw [z] at q
    cases q
    exact h.at' _ (look_mem z)
theorem pub_mem {B H : Hp} {L : Cells} (h : Held B H L) {p : Addr × HO} (hp : p ∈ L) : pub B L p.1 = some p.2 := by
  unfold pub
  cases z : L.lookup p.1 with
  | none => exact absurd rfl (look_none z p hp)
  | some u =>
    have := h.at' _ (look_mem z)
    rw [h.at' p hp] at this
    exact this.symm
theorem off_in {B : Hp} {S : List Addr} : Ex (off B S) B := fun a o h => by
  unfold off at h
  split at h
  · cases h
  · exact h
/-! data that reach no list, dict or object -/
mutual
def nd : D → Bool
  | .non => true
  | .bl _ => true
  | .int _ => true
  | .str _ => true
  | .tup ds => ndA ds
  | .lst _ => false
  | .dic _ => false
  | .obj _ _ => false
  | .fro _ => false
  | .nt _ => false
def ndA : List D → Bool
  | [] => true
  | d :: ds => nd d && ndA ds
end
mutual
theorem rp_off {B : Hp} {S : List Addr} (hS : ∀ a ∈ S, ∀ o, B a = some o → notTup o) : ∀ {v : V} {d : D}, Rp K B v d → nd d = true → Rp K (off B S) v d
  | _, _, .non, _ => .non
  | _, _, .bl b, _ => .bl b
  | _, _, .int i, _ => .int i
  | _, _, .str x, _ => .str x
  | _, _, .tup (a := a) h r, p => by
    have r' := rpA_off hS r (by simpa [nd] using p)
    refine .tup ?_ r'
    rcases h with h | ⟨u, h⟩
    · refine .inl ?_
      unfold off
      rw [if_neg fun z => (hS a z _ h).1 _ rfl]
      exact h
    · refine .inr ⟨u, ?_⟩
      unfold off
      rw [if_neg fun z => (hS a z _ h).2 _ _ rfl]
      exact h
  | _, _, .lst _ _, p => by simp [nd] at p
  | _, _, .dic _ _, p => by simp [nd] at p
  | _, _, .obj _ _, p => by simp [nd] at p
  | _, _, .fro _ _, p => by simp [nd] at p
  | _, _, .nt _ _ _, p => by simp [nd] at p
theorem rpA_off {B : Hp} {S : List Addr} (hS : ∀ a ∈ S, ∀ o, B a = some o → notTup o) : ∀ {vs : List V} {ds : List D}, RpA K B vs ds → ndA ds = true → RpA K (off B S) vs ds
  | _, _, .nil, _ => .nil
  | _, _, .cons h r, p => by
    have p' := p
    simp [ndA] at p'
    exact .cons (rp_off hS h p'.1) (rpA_off hS r p'.2)
end
theorem mu_off {B H : Hp} {S : List Addr} (hS : ∀ a ∈ S, ∀ o, B a = some o → notTup o) : ∀ {P : List Addr} {cs : List (List D)}, Mu K B H P cs → (∀ c ∈ cs, ndA c = true) → Mu K (off B S) H P cs
  | [], [], _, _ => True.intro
  | [], _ :: _, h, _ => h.elim
  | _ :: _, [], h, _ => h.elim
  | p :: P, ds :: cs, h, n => by
    obtain ⟨⟨vs, a, r⟩, b, c, m⟩ := h
    refine ⟨⟨vs, a, rpA_off hS r (n ds List.mem_cons_self)⟩, ?_, c, mu_off hS m fun c hc => n c (List.mem_cons_of_mem _ hc)⟩
    unfold off
    split
    · rfl
    · exact b
theorem mu_pub {B H : Hp} {L : Cells} (e : Ex B (pub B L)) : ∀ {P : List Addr} {cs : List (List D)}, (∀ p ∈ L, p.1 ∉ P) → Mu K B H P cs → Mu K (pub B L) H P cs := fun {P cs} hP m =>
  m.keep e (fun _ _ => rfl) fun p hp => by
    obtain ⟨_, _, b⟩ := m.mem hp
    rw [pub_ne fun q hq z => hP q hq (z ▸ hp)]
    exact b
/-! expressions beside a region -/
def EvR (K : PySem.W.Frag) (P : List Addr) (L : Cells) (F : Hp → Prop) (ss : List Sl) (cs : List (List D)) (te : TE) (r : Sl) (cs' : List (List D)) : Prop :=
  ∀ B H σ, Okk K P ss cs B H σ → Held B H L → F B → ∀ Q : VK, (∀ v B' H', Stp P B H B' H' → Okk K P ss cs' B' H' σ → Held B' H' L → F B' → RS K B' v r → Q v H') → te σ H Q
def EtR (K : PySem.W.Frag) (P : List Addr) (L : Cells) (F : Hp → Prop) (ss : List Sl) (cs : List (List D)) (tt : TT) (b : Bool) (cs' : List (List D)) : Prop :=
  ∀ B H σ, Okk K P ss cs B H σ → Held B H L → F B → ∀ Q : Bool → Hp → Prop, (∀ B' H', Stp P B H B' H' → Okk K P ss cs' B' H' σ → Held B' H' L → F B' → Q b H') → tt σ H Q
def Mono (F : Hp → Prop) : Prop := ∀ B B', Ex B B' → F B → F B'
theorem Held.step {P : List Addr} {L : Cells} {B H B' H' : Hp} (h : Held B H L) (s : Stp P B H B' H') (hP : ∀ p ∈ L, p.1 ∉ P) : Held B' H' L :=
  ⟨fun p hp => s.fr _ _ (hP p hp) (h.at' p hp), fun p hp => by rw [s.nb _ _ (h.at' p hp)]; exact h.no p hp⟩
section
variable {P : List Addr} {L : Cells} {F : Hp → Prop} {ss ss' : List Sl} {cs cs1 : List (List D)} {te : TE} {tt : TT} {r : Sl} {d : D} {b : Bool}
theorem EvR.of (hP : ∀ p ∈ L, p.1 ∉ P) (hF : Mono F) (h : Ev K P ss cs te r cs1) : EvR K P L F ss cs te r cs1 := fun B H σ o hh f Q q =>
  h B H σ o Q fun v B1 H1 s1 o1 v1 => q v B1 H1 s1 o1 (hh.step s1 hP) (hF _ _ s1.ex f) v1
theorem EtR.of (hP : ∀ p ∈ L, p.1 ∉ P) (hF : Mono F) (h : EvT K P ss cs tt b cs1) : EtR K P L F ss cs tt b cs1 := fun B H σ o hh f Q q =>
  h B H σ o Q fun B1 H1 s1 o1 => q B1 H1 s1 o1 (hh.step s1 hP) (hF _ _ s1.ex f)
/-- behind an expression that read the region -/
theorem hide {P : List Addr} {L : Cells} {F : Hp → Prop} {ss ss' : List Sl} {cs cs1 : List (List D)} {B H B2 H2 : Hp} {σ : L2.St} (hP : ∀ p ∈ L, p.1 ∉ P) (hT : ∀ p ∈ L, notTup p.2) (hF : Mono F) (hc : ∀ c ∈ cs1, ndA c = true)
    (o : Okk K P ss cs B H σ) (hh : Held B H L) (f : F B) (s : Stp P (pub B L) H B2 H2) (o2 : Okk K P ss' cs1 B2 H2 σ) :
    ∃ B3, B3 = off B2 (L.map (·.1)) ∧ Stp P B H B3 H2 ∧ Okk K P ss cs1 B3 H2 σ ∧ Held B3 H2 L ∧ F B3 ∧ ∀ {v : V} {d : D}, Rp K B2 v d → nd d = true → Rp K B3 v d := by
  have hS : ∀ a ∈ L.map (·.1), ∀ u, B2 a = some u → notTup u := fun a ha u hu => by
    obtain ⟨p, hp, rfl⟩ := List.mem_map.mp ha
    rw [s.nb _ _ (hh.at' p hp), pub_mem hh hp] at hu
    cases hu
    exact hT p hp
  have nin : ∀ a o, B a = some o → a ∉ L.map (·.1) := fun a u e z => by
    obtain ⟨p, hp, rfl⟩ := List.mem_map.mp z
    rw [hh.no p hp] at e; cases e
  have eB : Ex B (off B2 (L.map (·.1))) := fun a u e => by
    unfold off
    rw [if_neg (nin a u e)]
    exact s.ex a u (pub_ex hh.no a u e)
  have st : Stp P B H (off B2 (L.map (·.1))) H2 := ⟨eB, s.fr, fun c u e => by
    unfold off
    split
    · rename_i z
      obtain ⟨p, hp, rfl⟩ := List.mem_map.mp z
      exact (hh.no p hp).symm
    · rename_i z
      rw [s.nb c u e, pub_ne fun p hp w => z (List.mem_map.mpr ⟨p, hp, w⟩)], s.dm⟩
  exact ⟨_, rfl, st, ⟨fun a u e => o2.ex a u (off_in a u e), o.sl.mono eB, mu_off hS o2.mu hc⟩, hh.step st hP, hF _ _ eB f, fun r n => rp_off hS r n⟩
theorem EvR.pub (hP : ∀ p ∈ L, p.1 ∉ P) (hT : ∀ p ∈ L, notTup p.2) (hF : Mono F) (hc : ∀ c ∈ cs1, ndA c = true) (hs : ∀ B σ, (∀ p ∈ L, RG.pub B L p.1 = some p.2) → Ex B (RG.pub B L) → F B → Slots K B σ ss → Slots K (RG.pub B L) σ ss')
    (h : Ev K P ss' cs te (.dat d) cs1) (hd : nd d = true) : EvR K P L F ss cs te (.dat d) cs1 := fun B H σ o hh f Q q => by
  have e1 := pub_ex hh.no
  refine h (RG.pub B L) H σ ⟨pub_in o.ex hh, hs B σ (fun p hp => pub_mem hh hp) e1 f o.sl, mu_pub e1 hP o.mu⟩ Q fun v B2 H2 s2 o2 v2 => ?_
  obtain ⟨B3, _, st, o3, h3, f3, z⟩ := hide hP hT hF hc o hh f s2 o2
  exact q v B3 H2 st o3 h3 f3 (z v2 hd)
theorem EtR.pub (hP : ∀ p ∈ L, p.1 ∉ P) (hT : ∀ p ∈ L, notTup p.2) (hF : Mono F) (hc : ∀ c ∈ cs1, ndA c = true) (hs : ∀ B σ, (∀ p ∈ L, RG.pub B L p.1 = some p.2) → Ex B (RG.pub B L) → F B → Slots K B σ ss → Slots K (RG.pub B L) σ ss')
    (h : EvT K P ss' cs tt b cs1) : EtR K P L F ss cs tt b cs1 := fun B H σ o hh f Q q => by
  have e1 := pub_ex hh.no
  refine h (RG.pub B L) H σ ⟨pub_in o.ex hh, hs B σ (fun p hp => pub_mem hh hp) e1 f o.sl, mu_pub e1 hP o.mu⟩ Q fun B2 H2 s2 o2 => ?_
  obtain ⟨B3, _, st, o3, h3, f3, _⟩ := hide hP hT hF hc o hh f s2 o2
  exact q B3 H2 st o3 h3 f3
end
/-! statements beside a region: PS what may change since the entry -/
def StR (K : PySem.W.Frag) (PS P : List Addr) (B0 H0 : Hp) (L : Cells) (F : Hp → Prop) (ss : List Sl) (cs : List (List D)) (σ : L2.St) (H : Hp) : Prop := ∃ B, Stp PS B0 H0 B H ∧ Okk K P ss cs B H σ ∧ Held B H L ∧ F B
section
variable {PS P : List Addr} {B0 H0 H : Hp} {L : Cells} {F : Hp → Prop} {ss : List Sl} {cs cs1 : List (List DV.D)} {σ : L2.St} {De : Ends} {te : TE} {tt : TT} {t u : TS} {r : Sl}
theorem sr_asg {i : Nat} (hsub : ∀ p ∈ P, p ∈ PS) (h : StR K PS P B0 H0 L F ss cs σ H) (he : EvR K P L F ss cs te r cs1) (k : ∀ σ' H', StR K PS P B0 H0 L F (ss.set i r) cs1 σ' H' → De.nx σ' H') : tAsg te (gName i) De σ H := by
  obtain ⟨B, s, o, hh, f⟩ := h
  exact he B H σ o hh f _ fun v B1 H1 s1 o1 h1 f1 v1 => k _ _ ⟨B1, s.trans (s1.mono hsub), ⟨o1.ex, o1.sl.set v1, o1.mu⟩, h1, f1⟩
theorem sr_if {b : Bool} (hsub : ∀ p ∈ P, p ∈ PS) (h : StR K PS P B0 H0 L F ss cs σ H) (he : EtR K P L F ss cs tt b cs1) (h1 : b = true → ∀ H', StR K PS P B0 H0 L F ss cs1 σ H' → t De σ H') (h2 : b = false → ∀ H', StR K PS P B0 H0 L F ss cs1 σ H' → u De σ H') : tIfS tt t u De σ H := by
  obtain ⟨B, s, o, hh, f⟩ := h
  refine he B H σ o hh f _ fun B1 H1 s1 o1 h1' f1 => ?_
  cases b with
  | true => exact h1 rfl H1 ⟨B1, s.trans (s1.mono hsub), o1, h1', f1⟩
  | false => exact h2 rfl H1 ⟨B1, s.trans (s1.mono hsub), o1, h1', f1⟩
theorem sr_ret (hsub : ∀ p ∈ P, p ∈ PS) (h : StR K PS P B0 H0 L F ss cs σ H) (he : EvR K P L F ss cs te r cs1) (k : ∀ v B' H', Stp PS B0 H0 B' H' → Okk K P ss cs1 B' H' σ → Held B' H' L → F B' → RS K B' v r → De.rt v H') : tRet te De σ H := by
  obtain ⟨B, s, o, hh, f⟩ := h
  exact he B H σ o hh f _ fun v B1 H1 s1 o1 h1 f1 v1 => k v B1 H1 (s.trans (s1.mono hsub)) o1 h1 f1 v1
/-- a cell of the region is written -/
theorem StR.write {p : Addr} {o o' : HO} (h : StR K PS P B0 H0 L F ss cs σ H) (hp : (p, o) ∈ L) (hn : (L.map (·.1)).Nodup) (hPS : p ∈ PS) (hP : p ∉ P) :
    StR K PS P B0 H0 (L.map fun q => if q.1 = p then (p, o') else q) F ss cs σ (upd H p o') := by
  obtain ⟨B, s, ok, hh, f⟩ := h
  have hB : B p = none := hh.no _ hp
  have hH : H p = some o := hh.at' _ hp
  have s' : Stp [p] B H B (upd H p o') := ⟨Ex.refl _, fun b u n e => by rw [upd_ne (by simpa using n)]; exact e, fun _ _ _ => rfl, fun b u e => by
    by_cases hb : b = p
    · subst hb; exact ⟨_, upd_same⟩
    · exact ⟨u, by rw [upd_ne hb]; exact e⟩⟩
  refine ⟨B, s.trans (s'.mono fun x hx => by rw [List.mem_singleton.mp hx]; exact hPS), ⟨fun b u e => ?_, ok.sl, ok.mu.keep (Ex.refl _) (fun x hx => upd_ne fun z => hP (z ▸ hx)) fun x hx => (ok.mu.mem hx).choose_spec.2⟩, ⟨fun q hq => ?_, fun q hq => ?_⟩, f⟩
  · rw [upd_ne fun z => by rw [z, hB] at e; cases e]
    exact ok.ex b u e
  · obtain ⟨q0, hq0, rfl⟩ := List.mem_map.mp hq
    by_cases e : q0.1 = p
    · rw [if_pos e]; exact upd_same
    · rw [if_neg e, upd_ne e]; exact hh.at' _ hq0
  · obtain ⟨q0, hq0, rfl⟩ := List.mem_map.mp hq
    by_cases e : q0.1 = p
    · rw [if_pos e]; exact hB
    · rw [if_neg e]; exact hh.no _ hq0
end
end RG
/-! QD: == and != of dicts with int and text keys, whose values are plain data, or such dicts. -/
namespace QD
open PySem PySem.Spec PyProof.Rows L2
/-- the entries of one dict beside those of the other, by e -/
def Ents (K : PySem.W.Frag) (H : Hp) (ks ls : List (Key × V)) (e : Key → Bool) : Prop := ∀ p ∈ ks, ∀ y, valV ls p.1 = some y → ∃ d1 d2, Dp K H p.2 d1 ∧ Dp K H y d2 ∧ SeqAt.shaped d1 = true ∧ SeqAt.shaped d2 = true ∧ e p.1 = PyData.eqv d1 d2
def sameB (ks ls : List (Key × V)) (e : Key → Bool) : Bool := ks.length == ls.length && ks.all fun p => (valV ls p.1).isSome && e p.1
section
variable {X : Cx} {pins : List (Addr × Obj)} {σ : L2.St} {H : Hp} {s : Shared}
theorem relO_none {u : Option Value} (r : RelO none u) : u = none := by
  cases u with
  | none => rfl
  | some _ => exact (show False from r).elim
theorem hitsD (I : Inv X pins σ H s) {ls : List (Key × V)} {vb : List (Key × Value)} (rb : KV ls vb) (e : Key → Bool) {A : Around} (hu : A.units + 64 < cLine) {ks : List (Key × V)} {va : List (Key × Value)} (ra : KV ks va) :
    Ents X.K H ks ls e → PySem.W.KeqHits A s vb va (ks.all fun p => (valV ls p.1).isSome && e p.1) := by
  unfold KV at ra
  induction ra with
  | nil => intro _; exact .nil
  | @cons p q ps qs h t ih =>
    intro hp
    obtain ⟨h1, h2⟩ := h
    obtain ⟨k, v⟩ := q
    have h1' : p.1 = k := h1
    have rv := rb.val p.1
    cases hv : valV ls p.1 with
    | none =>
      rw [hv] at rv
      have hn := relO_none rv
      have q : ((p :: ps).all fun p => (valV ls p.1).isSome && e p.1) = false := by simp [hv]
      rw [q]
      exact .miss (by rw [← h1']; exact hn)
    | some y =>
      rw [hv] at rv
      obtain ⟨u, hu1, ry⟩ := rv.some_of
      obtain ⟨d1, d2, a1, a2, b1, b2, he⟩ := hp p List.mem_cons_self y hv
      obtain ⟨as, r1⟩ := Dp.reads I d1 p.2 v a1 h2
      obtain ⟨bs, r2⟩ := Dp.reads I d2 y u a2 ry
      have q : ((p :: ps).all fun p => (valV ls p.1).isSome && e p.1) = (PyData.eqv d1 d2 && (ps.all fun p => (valV ls p.1).isSome && e p.1)) := by simp [hv, he]
      rw [q]
      exact .hit (by rw [← h1']; exact hu1) (SeqAt.eqAt_reads d1 d2 A s v u as bs r1 r2 (SeqAt.canLay_of_shaped b1) (SeqAt.canLay_of_shaped b2) (SeqAt.room_of_shaped b1 hu)) (ih fun p' hm => hp p' (List.mem_cons_of_mem _ hm))
end
def rEqDD (K : PySem.W.Frag) (neg : Bool) : R2 := fun x y H Q => ∃ a b ks ls e, x = .ref a ∧ y = .ref b ∧ Rd H a (.dK ks) ∧ Rd H b (.dK ls) ∧ Ents K H ks ls e ∧ Q (.bl (if neg then !sameB ks ls e else sameB ks ls e)) H
theorem op_eqDD {X : Cx} (hu : X.A.in1.units + 64 < cLine) : OpR X (compareOp .Eq) (rEqDD X.K false) := by
  intro pins s σ H x y v u Q I rx ry h
  obtain ⟨a, b, ks, ls, e, rfl, rfl, ea, eb, hp, q⟩ := h
  obtain rfl : v = Value.ref a := rx
  obtain rfl : u = Value.ref b := ry
  obtain ⟨_, ya, va, ra, da⟩ := dk_rd I.hok ea
  obtain ⟨_, yb, vb, rb, db⟩ := dk_rd I.hok eb
  have hl : (va.length == vb.length) = (ks.length == ls.length) := by rw [← ra.length, ← rb.length]
  have hA : X.A.units < cLine := by have : X.A.in1.units = X.A.units + 1 := rfl; omega
  exact PySem.W.keq_eq (knd := mixKind X.prog X.w) ya yb da db hA (fun _ => hitsD I rb e hu ra hp) (fin_bl I q (by simp [sameB, hl]))
theorem op_neDD {X : Cx} (hu : X.A.in1.units + 64 < cLine) : OpR X (compareOp .NotEq) (rEqDD X.K true) := by
  intro pins s σ H x y v u Q I rx ry h
  obtain ⟨a, b, ks, ls, e, rfl, rfl, ea, eb, hp, q⟩ := h
  obtain rfl : v = Value.ref a := rx
  obtain rfl : u = Value.ref b := ry
  obtain ⟨_, ya, va, ra, da⟩ := dk_rd I.hok ea
  obtain ⟨_, yb, vb, rb, db⟩ := dk_rd I.hok eb
  have hl : (va.length == vb.length) = (ks.length == ls.length) := by rw [← ra.length, ← rb.length]
  have hA : X.A.units < cLine := by have : X.A.in1.units = X.A.units + 1 := rfl; omega
  exact PySem.W.keq_ne (knd := mixKind X.prog X.w) ya yb da db hA (fun _ => hitsD I rb e hu ra hp) (fin_bl I q (by simp [sameB, hl]))
/-! dicts of such dicts -/
def Ents2 (K : PySem.W.Frag) (H : Hp) (ks ls : List (Key × V)) (e : Key → Bool) : Prop := ∀ p ∈ ks, ∀ y, valV ls p.1 = some y →
  (p.2 = y ∧ e p.1 = true) ∨ ∃ a b k2 l2 e2, p.2 = .ref a ∧ y = .ref b ∧ a ≠ b ∧ Rd H a (.dK k2) ∧ Rd H b (.dK l2) ∧ Ents K H k2 l2 e2 ∧ e p.1 = sameB k2 l2 e2
theorem toIn {prog : Program} {w : World} {A : Around} {s : Shared} {kb : List (Key × Value)} : ∀ {l : List (Key × Value)} {b : Bool}, PySem.W.KeqHits A s kb l b → PySem.W.KeqHitsIn prog w A s kb l b
  | _, _, .nil => .nil
  | _, _, .miss h => .miss h
  | _, _, .hit h e r => .hit h (e.inModel prog w) (toIn r)
theorem hits2 {X : Cx} {pins : List (Addr × Obj)} {σ : L2.St} {H : Hp} {s : Shared} (I : Inv X pins σ H s) {ls : List (Key × V)} {vb : List (Key × Value)} (rb : KV ls vb) (e : Key → Bool) {A : Around} (hu : A.in1.units + 64 < cLine) {ks : List (Key × V)} {va : List (Key × Value)} (ra : KV ks va) :
    (∀ p ∈ ks, ∃ a, p.2 = .ref a) → Ents2 X.K H ks ls e → PySem.W.KeqHitsIn X.prog X.w A s vb va (ks.all fun p => (valV ls p.1).isSome && e p.1) := by
  unfold KV at ra
  induction ra with
  | nil => intro _ _; exact .nil
  | @cons p q ps qs h t ih =>
    intro hr hp
    obtain ⟨h1, h2⟩ := h
    obtain ⟨k, v⟩ := q
    have h1' : p.1 = k := h1
    have rv := rb.val p.1
    have ih' := ih (fun p' hm => hr p' (List.mem_cons_of_mem _ hm)) (fun p' hm => hp p' (List.mem_cons_of_mem _ hm))
    cases hv : valV ls p.1 with
    | none =>
      rw [hv] at rv
      have hn := relO_none rv
      have q : ((p :: ps).all fun p => (valV ls p.1).isSome && e p.1) = false := by simp [hv]
      rw [q]
      exact .miss (by rw [← h1']; exact hn)
    | some y =>
      rw [hv] at rv
      obtain ⟨u, hu1, ry⟩ := rv.some_of
      have q : ((p :: ps).all fun p => (valV ls p.1).isSome && e p.1) = (e p.1 && (ps.all fun p => (valV ls p.1).isSome && e p.1)) := by simp [hv]
      rw [q]
      refine .hit (by rw [← h1']; exact hu1) ?_ ih'
      obtain ⟨a0, ha0⟩ := hr p List.mem_cons_self
      rcases hp p List.mem_cons_self y hv with ⟨e1, e2⟩ | ⟨a, b, k2, l2, e2, ea, eb, hne, ra2, rb2, en, he⟩
      · rw [ha0] at e1 h2
        subst e1
        cases h2
        cases ry
        rw [e2]
        exact (SeqAt.EqAt.same _).inModel X.prog X.w
      · rw [ea] at h2
        subst eb
        cases h2
        cases ry
        rw [he]
        obtain ⟨_, ya, wa, sa, da⟩ := dk_rd I.hok ra2
        obtain ⟨_, yb, wb, sb, db⟩ := dk_rd I.hok rb2
        have hl : (wa.length == wb.length) = (k2.length == l2.length) := by rw [← sa.length, ← sb.length]
        have hA : A.units < cLine := by have : A.in1.units = A.units + 1 := rfl; omega
        refine SeqAt.EqIn.of_refs hne fun E Q hq => PySem.W.keq_eqIn (knd := mixKind X.prog X.w) (r := k2.all fun p => (valV l2 p.1).isSome && e2 p.1) ya yb da db hA (fun _ => ?_) (by
          have z : (wa.length == wb.length && k2.all fun p => (valV l2 p.1).isSome && e2 p.1) = sameB k2 l2 e2 := by rw [hl]; rfl
          rw [z]; exact hq)
        exact toIn (hitsD (A := A.in1) I sb e2 hu sa en)
def rEqD2 (K : PySem.W.Frag) : R2 := fun x y H Q => ∃ a b ks ls e, x = .ref a ∧ y = .ref b ∧ Rd H a (.dK ks) ∧ Rd H b (.dK ls) ∧ (∀ p ∈ ks, ∃ a, p.2 = .ref a) ∧ Ents2 K H ks ls e ∧ Q (.bl (sameB ks ls e)) H
/-- == of two dicts of dicts -/
theorem op_eqD2 {X : Cx} (hu : X.A.in1.in1.units + 64 < cLine) : OpR X (compareOp .Eq) (rEqD2 X.K) := by
  intro pins s σ H x y v u Q I rx ry h
  obtain ⟨a, b, ks, ls, e, rfl, rfl, ea, eb, hr, hp, q⟩ := h
  obtain rfl : v = Value.ref a := rx
  obtain rfl : u = Value.ref b := ry
  obtain ⟨_, ya, va, ra, da⟩ := dk_rd I.hok ea
  obtain ⟨_, yb, vb, rb, db⟩ := dk_rd I.hok eb
  have hl : (va.length == vb.length) = (ks.length == ls.length) := by rw [← ra.length, ← rb.length]
  have hA : X.A.units < cLine := by have : X.A.in1.in1.units = X.A.units + 2 := rfl; omega
  exact PySem.W.keq_eqIn (knd := mixKind X.prog X.w) ya yb da db hA (fun _ => hits2 I rb e hu ra hr hp) (fin_bl I q (by simp [sameB, hl]))
end QD
/-! LK: a dict that is walked: hidden from the base while the walk's lock holds it. -/
namespace LK
open PySem L2 DV RG
variable {K : PySem.W.Frag}
/-! data without dicts and objects -/
mutual
def ndL : D → Bool
  | .non => true
  | .bl _ => true
  | .int _ => true
  | .str _ => true
  | .tup ds => ndLA ds
  | .lst ds => ndLA ds
  | .fro ds => ndLA ds
  | .nt ds => ndLA ds
  | .dic _ => false
  | .obj _ _ => false
def ndLA : List D → Bool
  | [] => true
  | d :: ds => ndL d && ndLA ds
end
mutual
theorem rp_hide {B : Hp} {a : Addr} {kvs : List (Key × V)} (hS : B a = some (.dK kvs)) : ∀ {v : V} {d : D}, Rp K B v d → ndL d = true → Rp K (off B [a]) v d
  | _, _, .non, _ => .non
  | _, _, .bl b, _ => .bl b
  | _, _, .int i, _ => .int i
  | _, _, .str x, _ => .str x
  | _, _, .tup (a := b) h r, p => by
    refine .tup ?_ (rpA_hide hS r (by simpa [ndL] using p))
    rcases h with h | ⟨u, h⟩
    · exact .inl (by unfold off; rw [if_neg fun z => by rw [List.mem_singleton.mp z, hS] at h; cases h]; exact h)
    · exact .inr ⟨u, by unfold off; rw [if_neg fun z => by rw [List.mem_singleton.mp z, hS] at h; cases h]; exact h⟩
  | _, _, .lst (a := b) h r, p => by
    refine .lst ?_ (rpA_hide hS r (by simpa [ndL] using p))
    unfold off
    rw [if_neg fun z => by rw [List.mem_singleton.mp z, hS] at h; cases h]
    exact h
  | _, _, .nt (a := b) h n r, p => by
    refine .nt ?_ n (rpA_hide hS r (by simpa [ndL] using p))
    unfold off
    rw [if_neg fun z => by rw [List.mem_singleton.mp z, hS] at h; cases h]
    exact h
  | _, _, .fro (a := b) h r, p => by
    refine .fro ?_ (rpA_hide hS r (by simpa [ndL] using p))
    rcases h with h | h
    · refine .inl ?_
      rcases h with h | ⟨u, h⟩
      · exact .inl (by unfold off; rw [if_neg fun z => by rw [List.mem_singleton.mp z, hS] at h; cases h]; exact h)
      · exact .inr ⟨u, by unfold off; rw [if_neg fun z => by rw [List.mem_singleton.mp z, hS] at h; cases h]; exact h⟩
    · exact .inr h
  | _, _, .dic _ _, p => by simp [ndL] at p
  | _, _, .obj _ _, p => by simp [ndL] at p
theorem rpA_hide {B : Hp} {a : Addr} {kvs : List (Key × V)} (hS : B a = some (.dK kvs)) : ∀ {vs : List V} {ds : List D}, RpA K B vs ds → ndLA ds = true → RpA K (off B [a]) vs ds
  | _, _, .nil, _ => .nil
  | _, _, .cons h r, p => by
    have p' := p
    simp [ndLA] at p'
    exact .cons (rp_hide hS h p'.1) (rpA_hide hS r p'.2)
end
def low : Sl → Sl
  | .dat d => if ndL d then .dat d else .any
  | r => r
theorem slots_low {B : Hp} {a : Addr} {kvs : List (Key × V)} {σ : L2.St} {ss : List Sl} (hS : B a = some (.dK kvs)) (h : Slots K B σ ss) : Slots K (off B [a]) σ (ss.map low) := by
  refine ⟨by rw [List.length_map]; exact h.len, fun i r hi hn => ?_⟩
  rw [List.getElem?_map] at hi
  cases hr : ss[i]? with
  | none => rw [hr] at hi; cases hi
  | some r0 =>
    rw [hr] at hi
    have e : low r0 = r := Option.some.inj hi
    subst e
    obtain ⟨v, h1, h2⟩ := h.get i r0 hr (fun z => by rw [z] at hn; exact hn rfl)
    refine ⟨v, h1, ?_⟩
    cases r0 with
    | any => exact absurd rfl hn
    | val w => exact h2
    | dat d =>
      by_cases p : ndL d = true
      · have e : low (.dat d) = .dat d := if_pos p
        rw [e]
        exact rp_hide hS h2 p
      · have e : low (.dat d) = .any := if_neg p
        rw [e] at hn
        exact absurd rfl hn
theorem mu_hide {B H : Hp} {a : Addr} {kvs : List (Key × V)} (hS : B a = some (.dK kvs)) {o : HO} : ∀ {P : List Addr} {cs : List (List D)}, Mu K B H P cs → (∀ c ∈ cs, ndLA c = true) → Mu K (off B [a]) (upd H a o) P cs
  | [], [], _, _ => True.intro
  | [], _ :: _, h, _ => h.elim
  | _ :: _, [], h, _ => h.elim
  | p :: P, ds :: cs, h, n => by
    obtain ⟨⟨vs, x, r⟩, b, c, m⟩ := h
    have ne : p ≠ a := fun z => by rw [z, hS] at b; cases b
    refine ⟨⟨vs, by rw [upd_ne ne]; exact x, rpA_hide hS r (n ds List.mem_cons_self)⟩, ?_, c, mu_hide hS m fun c hc => n c (List.mem_cons_of_mem _ hc)⟩
    unfold off
    split
    · rfl
    · exact b
/-! within the lock: the base holds the dict's frozen cell, which no data reads -/
mutual
theorem rp_fz {B : Hp} {a : Addr} {od : Obj} {kvs : List (Key × V)} (hS : B a = some (.frz od (.dK kvs))) : ∀ {v : V} {d : D}, Rp K B v d → Rp K (off B [a]) v d
  | _, _, .non => .non
  | _, _, .bl b => .bl b
  | _, _, .int i => .int i
  | _, _, .str x => .str x
  | _, _, .tup (a := b) h r => by
    refine .tup ?_ (rpA_fz hS r)
    rcases h with h | ⟨u, h⟩
    · exact .inl (by unfold off; rw [if_neg fun z => by rw [List.mem_singleton.mp z, hS] at h; cases h]; exact h)
    · exact .inr ⟨u, by unfold off; rw [if_neg fun z => by rw [List.mem_singleton.mp z, hS] at h; cases h]; exact h⟩
  | _, _, .lst (a := b) h r => by
    refine .lst ?_ (rpA_fz hS r)
    unfold off
    rw [if_neg fun z => by rw [List.mem_singleton.mp z, hS] at h; cases h]
    exact h
  | _, _, .nt (a := b) h n r => by
    refine .nt ?_ n (rpA_fz hS r)
    unfold off
    rw [if_neg fun z => by rw [List.mem_singleton.mp z, hS] at h; cases h]
    exact h
  | _, _, .dic (a := b) h r => by
    refine .dic ?_ (rpK_fz hS r)
    unfold off
    rw [if_neg fun z => by rw [List.mem_singleton.mp z, hS] at h; cases h]
    exact h
  | _, _, .obj (a := b) (dx := dx) h r => by
    refine .obj (dx := dx) ?_ (rpF_fz hS r)
    unfold off
    rw [if_neg fun z => by rw [List.mem_singleton.mp z, hS] at h; cases h]
    exact h
  | _, _, .fro (a := b) h r => by
    refine .fro ?_ (rpA_fz hS r)
    rcases h with h | h
    · refine .inl ?_
      rcases h with h | ⟨u, h⟩
      · exact .inl (by unfold off; rw [if_neg fun z => by rw [List.mem_singleton.mp z, hS] at h; cases h]; exact h)
      · exact .inr ⟨u, by unfold off; rw [if_neg fun z => by rw [List.mem_singleton.mp z, hS] at h; cases h]; exact h⟩
    · exact .inr h
theorem rpA_fz {B : Hp} {a : Addr} {od : Obj} {kvs : List (Key × V)} (hS : B a = some (.frz od (.dK kvs))) : ∀ {vs : List V} {ds : List D}, RpA K B vs ds → RpA K (off B [a]) vs ds
  | _, _, .nil => .nil
  | _, _, .cons h r => .cons (rp_fz hS h) (rpA_fz hS r)
theorem rpK_fz {B : Hp} {a : Addr} {od : Obj} {kvs : List (Key × V)} (hS : B a = some (.frz od (.dK kvs))) : ∀ {vs : List (Key × V)} {ds : List (Key × D)}, RpK K B vs ds → RpK K (off B [a]) vs ds
  | _, _, .nil => .nil
  | _, _, .cons h r => .cons (rp_fz hS h) (rpK_fz hS r)
theorem rpF_fz {B : Hp} {a : Addr} {od : Obj} {kvs : List (Key × V)} (hS : B a = some (.frz od (.dK kvs))) : ∀ {vs : List (Str × V)} {ds : List (Str × D)}, RpF K B vs ds → RpF K (off B [a]) vs ds
  | _, _, .nil => .nil
  | _, _, .cons h r => .cons (rp_fz hS h) (rpF_fz hS r)
end
theorem off_upd {B : Hp} {a : Addr} {o : HO} : Ex (off B [a]) (upd B a o) := fun b u e => by
  unfold off at e
  split at e
  · cases e
  · rename_i n
    rw [upd_ne fun z => n (List.mem_singleton.mpr z)]
    exact e
theorem rp_un {B : Hp} {a : Addr} {od : Obj} {kvs : List (Key × V)} {o : HO} (hS : B a = some (.frz od (.dK kvs))) {v : V} {d : D} (h : Rp K B v d) : Rp K (upd B a o) v d := (rp_fz hS h).mono off_upd
theorem rs_un {B : Hp} {a : Addr} {od : Obj} {kvs : List (Key × V)} {o : HO} (hS : B a = some (.frz od (.dK kvs))) {v : V} : ∀ {r : Sl}, RS K B v r → RS K (upd B a o) v r
  | .any, _ => True.intro
  | .dat _, h => rp_un hS h
  | .val _, h => h
theorem mu_in {B H : Hp} {a : Addr} {kvs : List (Key × V)} (hS : B a = some (.dK kvs)) {o : HO} : ∀ {P : List Addr} {cs : List (List D)}, Mu K B H P cs → (∀ c ∈ cs, ndLA c = true) → Mu K (upd B a o) (upd H a o) P cs
  | [], [], _, _ => True.intro
  | [], _ :: _, h, _ => h.elim
  | _ :: _, [], h, _ => h.elim
  | p :: P, ds :: cs, h, n => by
    obtain ⟨⟨vs, x, r⟩, b, c, m⟩ := h
    have ne : p ≠ a := fun z => by rw [z, hS] at b; cases b
    exact ⟨⟨vs, by rw [upd_ne ne]; exact x, (rpA_hide hS r (n ds List.mem_cons_self)).mono off_upd⟩, by rw [upd_ne ne]; exact b, c, mu_in hS m fun c hc => n c (List.mem_cons_of_mem _ hc)⟩
theorem mu_un {B H : Hp} {a : Addr} {od : Obj} {kvs : List (Key × V)} (hS : B a = some (.frz od (.dK kvs))) {o : HO} : ∀ {P : List Addr} {cs : List (List D)}, Mu K B H P cs → Mu K (upd B a o) (upd H a o) P cs
  | [], [], _ => True.intro
  | [], _ :: _, h => h.elim
  | _ :: _, [], h => h.elim
  | p :: P, ds :: cs, h => by
    obtain ⟨⟨vs, x, r⟩, b, c, m⟩ := h
    have ne : p ≠ a := fun z => by rw [z, hS] at b; cases b
    exact ⟨⟨vs, by rw [upd_ne ne]; exact x, (rpA_fz hS r).mono off_upd⟩, by rw [upd_ne ne]; exact b, c, mu_un hS m⟩
theorem mu_no {B H : Hp} {a : Addr} {o : HO} (h : B a = some o) {P : List Addr} {cs : List (List D)} (m : Mu K B H P cs) : a ∉ P := fun z => by
  obtain ⟨_, _, b⟩ := m.mem z
  rw [h] at b; cases b
theorem okk_in {P : List Addr} {ss : List Sl} {cs : List (List D)} {B H : Hp} {σ : L2.St} {a : Addr} {kvs : List (Key × V)} (o : Okk K P ss cs B H σ) (hS : B a = some (.dK kvs)) (hc : ∀ c ∈ cs, ndLA c = true) (u : HO) :
    Okk K P (ss.map low) cs (upd B a u) (upd H a u) σ := ⟨Ex.updB o.ex, (slots_low hS o.sl).mono off_upd, mu_in hS o.mu hc⟩
/-- behind the lock -/
theorem lock_stp {P : List Addr} {B0 H0 B H B2 H2 : Hp} {a : Addr} {kvs : List (Key × V)} {od : Obj} (s0 : Stp P B0 H0 B H) (hS : B a = some (.dK kvs)) (hE : Ex B H) (hP : a ∉ P)
    (s : Stp P (upd B a (.frz od (.dK kvs))) (upd H a (.frz od (.dK kvs))) B2 H2) : H2 a = some (.frz od (.dK kvs)) ∧ B2 a = some (.frz od (.dK kvs)) ∧ Stp P B0 H0 (upd B2 a (.dK kvs)) (upd H2 a (.dK kvs)) ∧ Ex B (upd B2 a (.dK kvs)) := by
  have hf : H2 a = some (.frz od (.dK kvs)) := s.fr a _ hP upd_same
  have hb : B2 a = some (.frz od (.dK kvs)) := s.ex a _ upd_same
  have eB : Ex B (upd B2 a (.dK kvs)) := fun b u e => by
    by_cases z : b = a
    · subst z; rw [hS] at e; cases e; exact upd_same
    · rw [upd_ne z]; exact s.ex b u (by rw [upd_ne z]; exact e)
  refine ⟨hf, hb, s0.trans ⟨eB, fun b u n e => ?_, fun b u e => ?_, fun b u e => ?_⟩, eB⟩
  · by_cases z : b = a
    · subst z
      rw [hE _ _ hS] at e
      cases e
      exact upd_same
    · rw [upd_ne z]; exact s.fr b u n (by rw [upd_ne z]; exact e)
  · by_cases z : b = a
    · subst z; rw [upd_same, hS]
    · rw [upd_ne z, s.nb b u (by rw [upd_ne z]; exact e), upd_ne z]
  · by_cases z : b = a
    · subst z; exact ⟨_, upd_same⟩
    · obtain ⟨u', h'⟩ := s.dm b u (by rw [upd_ne z]; exact e)
      exact ⟨u', by rw [upd_ne z]; exact h'⟩
theorem ex_un {B2 H2 : Hp} {a : Addr} {o : HO} (e : Ex B2 H2) : Ex (upd B2 a o) (upd H2 a o) := Ex.updB e
theorem slots_un {B : Hp} {a : Addr} {od : Obj} {kvs : List (Key × V)} {o : HO} {σ : L2.St} {ss : List Sl} (hS : B a = some (.frz od (.dK kvs))) (h : Slots K B σ ss) : Slots K (upd B a o) σ ss :=
  ⟨h.len, fun i r hi hn => let ⟨v, h1, h2⟩ := h.get i r hi hn; ⟨v, h1, rs_un hS h2⟩⟩
/-- an expression that walks a dict of the base under a lock -/
theorem ev_lock {P : List Addr} {ss : List Sl} {cs cs1 : List (List D)} {te : TE} {r : Sl} (hm : ∀ {kvs}, Mut (some (HO.dK kvs))) (hc : ∀ c ∈ cs, ndLA c = true)
    (h : ∀ B H σ, Okk K P ss cs B H σ → ∃ a kvs, B a = some (.dK kvs) ∧ ∀ od, Okk K P (ss.map low) cs (upd B a (.frz od (.dK kvs))) (upd H a (.frz od (.dK kvs))) σ → ∀ Q : VK,
      (∀ v B' H', Stp P (upd B a (.frz od (.dK kvs))) (upd H a (.frz od (.dK kvs))) B' H' → Ex B' H' → Mu K B' H' P cs1 → RS K B' v r → Q v H') → te σ (upd H a (.frz od (.dK kvs))) Q) :
    Ev K P ss cs (tLockE te) r cs1 := fun B H σ o Q q => by
  obtain ⟨a, kvs, hS, h⟩ := h B H σ o
  have hn := mu_no hS o.mu
  refine ⟨a, .dK kvs, o.ex _ _ hS, hm, fun od => h od (okk_in o hS hc _) _ fun v B2 H2 s2 e2 m2 v2 => ?_⟩
  obtain ⟨hf, hb, st, eB⟩ := lock_stp (Stp.refl P B H) hS o.ex hn s2
  exact ⟨hf, q v _ _ st ⟨ex_un e2, o.sl.mono eB, mu_un hb m2⟩ (rs_un hb v2)⟩
/-- a statement that walks a dict of the base under a lock -/
theorem st_lock {P : List Addr} {B0 H0 H : Hp} {ss : List Sl} {cs cs' : List (List D)} {σ : L2.St} {Dn : Ends} {t : TS} {r : Sl} (h : Sta K P B0 H0 ss cs σ H) (hm : ∀ {kvs}, Mut (some (HO.dK kvs))) (hc : ∀ c ∈ cs, ndLA c = true) (hd : Done K P B0 H0 r cs' Dn.rt)
    (k : ∀ B, Stp P B0 H0 B H → Okk K P ss cs B H σ → ∃ a kvs, B a = some (.dK kvs) ∧ ∀ od (D' : Ends), Okk K P (ss.map low) cs (upd B a (.frz od (.dK kvs))) (upd H a (.frz od (.dK kvs))) σ →
      (∀ ss' cs2 σ' H', Sta K P (upd B a (.frz od (.dK kvs))) (upd H a (.frz od (.dK kvs))) ss' cs2 σ' H' → (∀ B2 H2, Stp P B0 H0 B2 H2 → Okk K P ss' cs2 B2 H2 σ' → Ex B B2 → Dn.nx σ' H2) → D'.nx σ' H') →
      Done K P (upd B a (.frz od (.dK kvs))) (upd H a (.frz od (.dK kvs))) r cs' D'.rt → t D' σ (upd H a (.frz od (.dK kvs)))) : tLock t Dn σ H := by
  obtain ⟨B, s, o⟩ := h
  obtain ⟨a, kvs, hS, k⟩ := k B s o
  have hn := mu_no hS o.mu
  refine ⟨a, .dK kvs, o.ex _ _ hS, hm, fun od => k od _ (okk_in o hS hc _) (fun ss' cs2 σ' H' hst kk => ?_) (fun v B2 H2 s2 e2 m2 v2 => ?_)⟩
  · obtain ⟨B2, s2, o2⟩ := hst
    obtain ⟨hf, hb, st, eB⟩ := lock_stp s hS o.ex hn s2
    exact ⟨hf, kk _ _ st ⟨ex_un o2.ex, slots_un hb o2.sl, mu_un hb o2.mu⟩ eB⟩
  · obtain ⟨hf, hb, st, eB⟩ := lock_stp s hS o.ex hn s2
    exact ⟨hf, hd v _ _ st (ex_un e2) (mu_un hb m2) (rs_un hb v2)⟩
/-- a loop over a walk that is known here alone -/
theorem st_forP {α : Type} {P : List Addr} {B0 H0 B H : Hp} {ss : List Sl} {cs cs1 : List (List D)} {σ : L2.St} {D : Ends} {wi : TI} {g : TG} {tb : TS} {ds : List DV.D} (s : Stp P B0 H0 B H) (o : Okk K P ss cs B H σ)
    (hw : ∀ R : It → Hp → Prop, (∀ J B1 H1, Stp P B H B1 H1 → Okk K P ss cs1 B1 H1 σ → Walks K B1 J ds → R J H1) → wi σ H R)
    (J : Nat → α → Prop) (S : Nat → α → List Sl) (C : Nat → α → List (List DV.D)) (z0 : α) (j0 : J 0 z0) (l0 : LeS ss (S 0 z0)) (c0 : cs1 = C 0 z0)
    (hs : ∀ B1 H1, Stp P B0 H0 B1 H1 → ∀ i d z, ds[i]? = some d → J i z → ∃ G W, GR K (S i z) g d G W ∧
      ∀ σ' H', Sta K P B1 H1 G (C i z) σ' H' → tb { D with nx := Turn' K P B1 H1 J S C (i + 1), ct := Turn' K P B1 H1 J S C (i + 1), bk := D.nx } σ' H')
    (hd : ∀ z σ' H', J ds.length z → Sta K P B0 H0 (S ds.length z) (C ds.length z) σ' H' → D.nx σ' H') : tFor wi g tb D σ H := by
  refine hw _ fun It B1 H1 s1 o1 wk => ?_
  have sB : Stp P B0 H0 B1 H1 := s.trans s1
  refine ⟨fun i m σ H => m = ds.length - i ∧ i ≤ ds.length ∧ Turn' K P B1 H1 J S C i σ H, ⟨ds.length, by simp, Nat.zero_le _, z0, j0, B1, Stp.refl _ _ _, ?_⟩, ?_⟩
  · rw [← c0]
    exact ⟨o1.ex, o1.sl.le l0, o1.mu⟩
  rintro i m σ' H' ⟨rfl, hi, z, jz, hst⟩
  obtain ⟨B2, s2, o2⟩ := id hst
  obtain ⟨w1, w2⟩ := wk i B2 H' s2.ex o2.ex
  by_cases hlt : i < ds.length
  · have hd' : ds[i]? = some ds[i] := List.getElem?_eq_getElem hlt
    obtain ⟨go, yl⟩ := w1 _ hd'
    obtain ⟨G, W, hg, body⟩ := hs B1 H1 sB i _ z hd' jz
    refine .inr ⟨go, Turn' K P B1 H1 J S C (i + 1), fun σ3 H3 q => ⟨ds.length - (i + 1), by omega, rfl, hlt, q⟩, fun x H3 y => ?_⟩
    obtain ⟨B3, s3, e3, x3⟩ := yl x H3 y
    have o3 := o2.step0 s3 e3
    exact hg B3 H3 σ' x o3.ex o3.sl x3 _ fun σ4 s4 _ => body σ4 H3 ⟨B3, s2.trans s3.ofNil, o3.ex, s4, o3.mu⟩
  · have e : i = ds.length := by omega
    subst e
    exact .inl ⟨w2 (Nat.le_refl _), hd z σ' H' jz (hst.base sB)⟩
theorem RpK.get {B : Hp} : ∀ {vs : List (Key × V)} {ds : List (Key × D)} {i : Nat} {k : Key} {d : D}, RpK K B vs ds → ds[i]? = some (k, d) → ∃ v, vs[i]? = some (k, v) ∧ Rp K B v d
  | _, _, _, _, _, .nil, e => by simp at e
  | _, _, 0, _, _, .cons h _, e => by simp at e; obtain ⟨rfl, rfl⟩ := e; exact ⟨_, rfl, h⟩
  | _, _, i + 1, k, d, .cons _ r, e => by
    obtain ⟨v, h1, h2⟩ := RpK.get (i := i) (k := k) (d := d) r (by simpa using e)
    exact ⟨v, by simpa using h1, h2⟩
theorem RpK.len {B : Hp} : ∀ {vs : List (Key × V)} {ds : List (Key × D)}, RpK K B vs ds → vs.length = ds.length
  | _, _, .nil => rfl
  | _, _, .cons _ r => by rw [List.length_cons, List.length_cons, RpK.len r]
/-- the values of a locked dict -/
theorem wk_vals {B1 : Hp} {a : Addr} {od : Obj} {kvs : List (Key × V)} {ks : List (Key × D)} (hS : B1 a = some (.frz od (.dK kvs))) (r : RpK K B1 kvs ks) : Walks K B1 (Itd a od kvs) (ks.map (·.2)) := fun i B H e1 e2 => by
  have q : H a = some (.frz od (.dK kvs)) := e2 _ _ (e1 _ _ hS)
  refine ⟨fun d hd => ?_, fun hl => ⟨q, by rw [RpK.len r]; simpa using hl⟩⟩
  rw [List.getElem?_map] at hd
  cases hk : ks[i]? with
  | none => rw [hk] at hd; cases hd
  | some p =>
    obtain ⟨k, d'⟩ := p
    rw [hk] at hd
    have e : d' = d := Option.some.inj hd
    subst e
    obtain ⟨v, h1, h2⟩ := RpK.get r hk
    refine ⟨⟨q, (List.getElem?_eq_some_iff.mp h1).1⟩, fun x H' y => ?_⟩
    obtain ⟨rfl, k', hk'⟩ := y
    rw [h1] at hk'
    cases hk'
    exact ⟨B, Stp.refl _ _ _, e2, h2.mono e1⟩
/-- .. its pairs -/
def keyD : Key → D
  | .inl i => .int i
  | .inr x => .str x
theorem wk_items {B1 : Hp} {a : Addr} {od : Obj} {kvs : List (Key × V)} {ks : List (Key × D)} (hS : B1 a = some (.frz od (.dK kvs))) (r : RpK K B1 kvs ks) : Walks K B1 (Iti a od kvs) (ks.map fun p => D.tup [keyD p.1, p.2]) := fun i B H e1 e2 => by
  have q : H a = some (.frz od (.dK kvs)) := e2 _ _ (e1 _ _ hS)
  refine ⟨fun d hd => ?_, fun hl => ⟨q, by rw [RpK.len r]; simpa using hl⟩⟩
  rw [List.getElem?_map] at hd
  cases hk : ks[i]? with
  | none => rw [hk] at hd; cases hd
  | some p =>
    obtain ⟨k, d'⟩ := p
    rw [hk] at hd
    have e : D.tup [keyD k, d'] = d := Option.some.inj hd
    subst e
    obtain ⟨v, h1, h2⟩ := RpK.get r hk
    refine ⟨⟨q, (List.getElem?_eq_some_iff.mp h1).1⟩, fun x H' y => ?_⟩
    obtain ⟨T, k', v', hk', rfl, hT, rfl⟩ := y
    rw [h1] at hk'
    cases hk'
    have s := stp_new (o := .tup [kV k, v]) e2 hT
    refine ⟨_, s, e2.updB, .tup (.inl upd_same) (.cons ?_ (.cons (h2.mono (e1.trans s.ex)) .nil))⟩
    cases k with
    | inl i => exact .int i
    | inr x => exact .str x
/-- .. its keys -/
theorem wk_keys {B1 : Hp} {a : Addr} {od : Obj} {kvs : List (Key × V)} {ks : List (Key × D)} (hS : B1 a = some (.frz od (.dK kvs))) (r : RpK K B1 kvs ks) : Walks K B1 (Itk a od kvs) (ks.map fun p => keyD p.1) := fun i B H e1 e2 => by
  have q : H a = some (.frz od (.dK kvs)) := e2 _ _ (e1 _ _ hS)
  refine ⟨fun d hd => ?_, fun hl => ⟨q, by rw [RpK.len r]; simpa using hl⟩⟩
  rw [List.getElem?_map] at hd
  cases hk : ks[i]? with
  | none => rw [hk] at hd; cases hd
  | some p =>
    obtain ⟨k, d'⟩ := p
    rw [hk] at hd
    have e : keyD k = d := Option.some.inj hd
    subst e
    obtain ⟨v, h1, h2⟩ := RpK.get r hk
    refine ⟨⟨q, (List.getElem?_eq_some_iff.mp h1).1⟩, fun x H' y => ?_⟩
    obtain ⟨rfl, k', v', hk', rfl⟩ := y
    rw [h1] at hk'
    cases hk'
    refine ⟨B, Stp.refl _ _ _, e2, ?_⟩
    cases k with
    | inl i => exact .int i
    | inr x => exact .str x
end LK
/-! ET: enumerate of a tuple. -/
namespace ET
open PySem PySem.Spec PyProof.Rows L2
/-- enumerate(v) with no start, v told by how its iterator begins -/
theorem newOne {v : Value} {o : Obj} {G : Heap → Prop} (Bg : Begins v o G) : Meets (Builtin.«enumerate.__new__» ⟨[.type "enumerate", v], []⟩) (fun _ R s => G s.heap ∧
    R (.ok (.ret (.ref (s.heap.push o).objs.size))) { s with heap := (s.heap.push o).push { cls := .type "enumerate", data := .fields #[.none, .bool false, .ref s.heap.objs.size, rawInt 0, .none, .none] } }) := .of_wp fun prog w A R s hh => by
  obtain ⟨hp, gs, dr, tk, os⟩ := s
  obtain ⟨hG, hh⟩ := hh
  have hs := sub_enumerate
  have it : ∀ {A1 : Around} {E : Value → Shared → Prop} {Q : Value → Shared → Prop}, Q (.ref hp.objs.size) ⟨hp.push o, gs, dr, tk, os⟩ → wpAny (model prog w) A1 (pyIter v) Q E ⟨hp, gs, dr, tk, os⟩ := fun q => Bg.iter prog w _ _ ⟨hp, gs, dr, tk, os⟩ _ hG q
  wp_walk using it
  refine wpAny_stack_any fun st => wpAny_pure ?_
  split
  · rename_i cl _ _ _ _ _
    cases (cl == Value.type "enumerate") <;> (wp_walk using it; exact ⟨_, rfl, hh⟩)
  · (wp_walk using it); exact ⟨_, rfl, hh⟩
section
variable {prog : Program} {w : World} {A : Around} {E : Value → Shared → Prop} {s : Shared}
theorem callOne {v : Value} {o : Obj} {G : Heap → Prop} {Q : Value → Shared → Prop} (Bg : Begins v o G) (hG : G s.heap)
    (h : ∀ h1, IsEnum h1 (s.heap.objs.size + 1) s.heap.objs.size 0 .none ∧ h1.get? s.heap.objs.size = some o ∧ (∀ b u, s.heap.get? b = some u → h1.get? b = some u) → Q (.ref (s.heap.objs.size + 1)) { s with heap := h1 }) :
    wpAny (model prog w) A (call (.type "enumerate") [v]) Q E s := by
  refine callType_new F.called_enumerate (by decide) (F.typeCall_enumerate_1 _) (F.newCall_enumerate_1 _) (fun ob => F.args_object_init_2 ob _) F.entry_enumerate_new (newOne Bg) ⟨hG, ?_⟩
  have sz : (s.heap.push o).objs.size = s.heap.objs.size + 1 := Heap.size_push ..
  have en : IsEnum ((s.heap.push o).push { cls := .type "enumerate", data := .fields #[.none, .bool false, .ref s.heap.objs.size, rawInt 0, .none, .none] }) (s.heap.objs.size + 1) s.heap.objs.size 0 .none := by
    have q := Heap.get?_push_size (s.heap.push o) (o := { cls := .type "enumerate", data := .fields #[.none, .bool false, .ref s.heap.objs.size, rawInt 0, .none, .none] }) rfl
    rw [sz] at q
    exact q
  show _ ∧ _
  rw [sz]
  exact ⟨⟨_, en, rfl⟩, h _ ⟨en, Heap.get?_push_of_some _ (Heap.get?_push_size _ Bg.free), fun b u x => Heap.get?_push_of_some _ (Heap.get?_push_of_some _ x)⟩⟩
end
/-- the tuple at a, each item in a new pair -/
def ItT (K : PySem.W.Frag) (a : Addr) (n : Nat) : It where
  go i H := ∃ xs x, SqT K H a xs ∧ xs[i]? = some x ∧ xs.length = n
  yld i H v H' := ∃ T x, v = .ref T ∧ H T = none ∧ H' = upd H T (.tup [.int (i : Nat), x]) ∧ ∀ xs, SqT K H a xs → xs[i]? = some x
  stop i H := ∃ xs, SqT K H a xs ∧ xs.length = n ∧ n ≤ i
def Cs (a e it : Addr) (n i : Nat) (h : Heap) : Prop := i ≤ n ∧ (∃ old, IsEnum h e it ((i : Nat) : Int) old) ∧ h.IsTupleIter it a i
theorem turnT {P : Program} {w : World} {K : PySem.W.Frag} {elts : List Expr} {kk : Nat} {tpos : Pos} {a e it : Addr} {n : Nat} (ne : e ≠ it) (na : a ≠ it) (nea : e ≠ a) : Turn P w K (.Tuple elts kk tpos) (ItT K a n) [e, it] e (Cs a e it n) where
  mem := List.mem_cons_self
  obj i h st b hb := by
    obtain ⟨_, ⟨old, p1⟩, ⟨o2, p2, _, d2⟩⟩ := st
    rcases (by simpa using hb : b = e ∨ b = it) with rfl | rfl
    · exact ⟨_, p1, nofun⟩
    · exact ⟨o2, p2, fun v q => by rw [d2] at q; cases q⟩
  keep i h h' st k := by
    obtain ⟨p0, ⟨old, p1⟩, p2⟩ := st
    exact ⟨p0, ⟨old, k e (by simp) _ p1⟩, p2.at (k it (by simp))⟩
  item := by
    intro X hP hw hK hc i pins s σ H E I free st go
    subst hP hw hK
    obtain ⟨p0, ⟨old, p1⟩, p2⟩ := st
    obtain ⟨xs, x, qa, ex, hn⟩ := go
    have hlt := (List.getElem?_eq_some_iff.mp ex).1
    obtain ⟨ua, ra, ta, _⟩ := I.tuple qa
    obtain ⟨u, eu, ru⟩ := ra.get ex
    have none1 : X.A.in1.handled = none := I.ok.hd hc
    have el : e < s.heap.objs.size := Heap.lt_size p1
    have il : it < s.heap.objs.size := by obtain ⟨_, q, _⟩ := p2; exact Heap.lt_size q
    refine PySem.wpAny_pyNext_enum_itemC (Draws.tuple none1 it a na ua.toArray) p1 ⟨p2, ta⟩ (by simpa using (List.getElem?_eq_some_iff.mp eu).1) ne (by simp [ne, nea]) fun v1 h1 tk e1 n1 n2 nT _ old1 => ?_
    have w1 : v1 = u := by simpa [eu] using e1.symm
    subst w1
    refine ⟨_, rfl, wpAny_letOwnedTupleGo_enum (s := { s with heap := h1, toks := tk + 1 }) n1 fun h2 m1 same => ?_⟩
    have newT : h2.get? s.heap.objs.size = some { cls := .type "tuple", data := .seq #[.int ((i : Nat) : Int) tk, v1] } := (same.2 _ (Nat.ne_of_gt el)).trans nT
    have I1 : Inv X pins σ (upd H s.heap.objs.size (.tup [.int (i : Nat), x])) { s with heap := h2, toks := tk + 1 } :=
      I.turnedNew (t' := tk + 1) (ch := [e, it]) (fun c o hn' q => (same.2 c fun z => hn' (by simp [z])).trans (old1 c o (fun z => hn' (by simp [z])) (fun z => hn' (by simp [z])) q)) free (Nat.le_refl _) ⟨by show 2 ≤ sizeLine; decide, [.int ((i : Nat) : Int) tk, v1], .cons ⟨_, rfl⟩ (.cons ru .nil), _, newT, rfl, _, rfl⟩
    refine ⟨.ref _, _, I1, rfl, ⟨_, x, rfl, I.hok.fresh (Nat.le_refl _), rfl, fun l q => I.tuple_inj q qa ▸ ex⟩, ⟨by omega, ⟨v1, ?_⟩, n2.1.at fun o q => (same.2 it (Ne.symm ne)).trans q⟩, fun c h => ?_⟩
    · have z : ((i + 1 : Nat) : Int) = (i : Int) + 1 := by omega
      rw [z]
      exact m1
    · rcases (by simpa using h : c = e ∨ c = it) with rfl | rfl
      · rw [upd_ne (Nat.ne_of_lt el)]; exact (free _ (by simp)).1
      · rw [upd_ne (Nat.ne_of_lt il)]; exact (free _ (by simp)).1
  done := by
    intro X hP hw hK hc i pins s σ H E I free st fin
    subst hP hw hK
    obtain ⟨p0, ⟨old, p1⟩, p2⟩ := st
    obtain ⟨xs, qa, hn, he⟩ := fin
    obtain ⟨ua, ra, ta, _⟩ := I.tuple qa
    have la := ra.length
    have none1 : X.A.in1.handled = none := I.ok.hd hc
    have ei : i = ua.toArray.size := by rw [List.size_toArray]; omega
    subst ei
    exact wpAny_pyNext_enum_endD (Draws.tuple none1 it a na ua.toArray) p1 ⟨p2, ta⟩ fun h1 old1 => ⟨rfl, I.turnedL (t' := s.toks) (ch := [e, it]) (fun c o n q => old1 c o (fun z => n (by simp [z])) q) free⟩
  self A i s Q E st h := let ⟨_, ⟨_, he⟩, _⟩ := st; wpAny_pyIter_enum he h
/-- enumerate(t) -/
def iEnumT (K : PySem.W.Frag) (ta : TA) : TI := fun σ H R => ta σ H fun vs H1 => ∃ a xs, vs = [.ref a] ∧ SqT K H1 a xs ∧ R (ItT K a xs.length) H1
theorem pi_enumT {X : Cx} {x : Expr} {ta : TA} {np cp tp : Pos} {elts : List Expr} {n : Nat} (hg : Gl X "enumerate") (hm : X.mg "enumerate" = none) (ha : PA X [x] ta) (hs : starEach [x] X.env = [(false, eval x X.env)] := by rfl) :
    PI X (.Tuple elts n tp) (.Call (.Name "enumerate" np) [x] [] cp) (iEnumT X.K ta) where
  run pins s σ H R I h := by
    refine Call_ (ld_blt I hg hm boot_enumerate (PyProof.Rows.callWith_type1 (thn (ha.run cp pins s σ H _ I h) fun us t ⟨vs, G, I1, rv, a, xs, ev, qa, q⟩ => ?_) hs rfl))
    subst ev
    obtain ⟨u1, rfl, r1⟩ := vals1 rv
    cases r1
    obtain ⟨ua, ra, ta', _⟩ := I1.tuple qa
    have at' := ta'
    obtain ⟨oa, ga, _⟩ := at'
    have al := Heap.lt_size ga
    have far : ∀ k, FpOk X pins G (t.heap.objs.size + k) := fun k => I1.fpOk (Nat.le_add_right _ _) (I1.hok.fresh (Nat.le_add_right _ _))
    refine callOne (begins_tuple a ua.toArray) ta' fun h1 ⟨z0, z1, old⟩ => wpAny_pyIter_enum z0 ⟨_, _, _, _, G, rfl, I1.kept (t' := t.toks) old, turnT (Nat.succ_ne_self _) (Nat.ne_of_lt al) (Nat.ne_of_gt (Nat.lt_succ_of_lt al)), ⟨Nat.zero_le _, ⟨.none, z0⟩, ⟨_, z1, rfl, rfl⟩⟩, fun c hc => ?_, q⟩
    rcases (by simpa using hc : c = t.heap.objs.size + 1 ∨ c = t.heap.objs.size) with rfl | rfl
    · exact far 1
    · exact far 0
end ET
namespace DV
open PySem L2
variable {K : PySem.W.Frag} {P : List Addr} {ss : List Sl} {cs cs1 : List (List D)} {ta : TA} {ds : List D}
theorem wd_enumT (h : EvA K P ss cs ta [.dat (.tup ds)] cs1) : WD K P ss cs (ET.iEnumT K ta) (enumD ds) cs1 := fun B H σ o R q =>
  h B H σ o _ fun vs B1 H1 s1 o1 r1 => by
    obtain ⟨v, rfl, h1⟩ := rs1 r1
    have a' : Rp K B1 v (.tup ds) := h1
    cases a' with
    | @tup a xs _ h5 r =>
      refine ⟨_, xs, rfl, .inl (RdEx o1.ex h5), q _ B1 H1 s1 o1 fun i B2 H2 e1 e2 => ?_⟩
      have z : SqT K H2 a xs := .inl (RdEx e2 (RdEx e1 h5))
      refine ⟨fun d hd => ?_, fun hl => ⟨xs, z, rfl, by rw [r.length]; rw [enumD_len] at hl; exact hl⟩⟩
      obtain ⟨e, he, rfl⟩ := enumD_get hd
      obtain ⟨v, h1, h2⟩ := r.get he
      refine ⟨⟨xs, v, z, h1, rfl⟩, fun x H' y => ?_⟩
      obtain ⟨T, x', rfl, hT, rfl, f⟩ := y
      have e := f xs z
      rw [h1] at e
      cases e
      have s := stp_new (o := .tup [.int (i : Nat), v]) e2 hT
      exact ⟨_, s, e2.updB, .tup (.inl upd_same) (.cons (.int _) (.cons (h2.mono (e1.trans s.ex)) .nil))⟩
end DV
/-! BM: rows, changes and bases as data; what the reading methods of a base tell. -/
namespace SP
open PySem L2 DV PM
abbrev Row := List Int
abbrev Rs := List (Str × List (Int × Row))
def rowD (r : Row) : D := .tup (r.map D.int)
def optD : Option Row → D
  | none => .non
  | some r => rowD r
inductive Ch where
  | ins (t : Str) (r : Row) | del (t : Str) (r : Row) | set (t : Str) (o n : Row)
namespace Ch
def tab : Ch → Str | .ins t _ => t | .del t _ => t | .set t _ _ => t
def old : Ch → Option Row | .ins _ _ => none | .del _ r => some r | .set _ o _ => some o
def new : Ch → Option Row | .ins _ r => some r | .del _ _ => none | .set _ _ n => some n
end Ch
def encCh : Ch → D
  | .ins t r => .tup [.str "insert", .str t, rowD r]
  | .del t r => .tup [.str "delete", .str t, rowD r]
  | .set t o n => .tup [.str "set", .str t, rowD o, rowD n]
def inD (l : List (Int × Row)) : D := .dic (l.map fun p => ((Sum.inl p.1 : Key), rowD p.2))
def tabD (R : Rs) : D := .dic (R.map fun t => ((Sum.inr t.1 : Key), inD t.2))
def baseD (CB C : Addr) (T : List Tab) (R : Rs) : D := .obj CB [("schema", schD C T), ("_tables", tabD R)]
def ledOf (cols : List Col) (row : Row) : List (Str × Int) := (List.zip cols row.tail).filterMap fun p => p.1.2.map fun t => (t, p.2)
/-- whether a row may stand in a base over a schema: the rows of a table, each under its id -/
def rowsOk (T : List Tab) (R : Rs) : Prop := R.map (·.1) = T.map (·.1) ∧ (∀ t ∈ R, (t.2.map (·.1)).Nodup ∧ t.2.length ≤ 1000) ∧ ∀ t ∈ R, ∀ p ∈ t.2, p.2.head? = some p.1 ∧ ∀ cols, T.lookup t.1 = some cols → p.2.length = cols.length + 1
def preOAN : Pre := fun rs Pl cs r cs' => ∃ c, rs = [.dat (encCh c)] ∧ Pl = [] ∧ cs = [] ∧ r = .dat (.tup [optD c.old, optD c.new]) ∧ cs' = []
def preLed (C : Addr) : Pre := fun rs Pl cs r cs' => ∃ T n cols row, rs = [.dat (schD C T), .dat (.str n), .dat (rowD row)] ∧ T.lookup n = some cols ∧ cols.length ≤ 1000 ∧ Pl = [] ∧ cs = [] ∧ r = .dat (.lst ((ledOf cols row).map fun p => D.tup [.str p.1, .int p.2])) ∧ cs' = []
def preRowAt (CB C : Addr) : Pre := fun rs Pl cs r cs' => ∃ T R n l k, rs = [.dat (baseD CB C T R), .dat (.str n), .dat (.int k)] ∧ R.lookup n = some l ∧ Pl = [] ∧ cs = [] ∧ r = .dat (optD (l.lookup k)) ∧ cs' = []
def placesOf (cols : List Col) (t : Str) : List Nat := ((cols.zipIdx 0).filter fun p => decide (p.1.2 = some t)).map fun p => p.2 + 1
def isLed (T : List Tab) (R : Rs) (t : Str) (k : Int) : Bool := T.any fun tab => ((R.lookup tab.1).getD []).any fun p => (placesOf tab.2 t).any fun i => decide (p.2.getD i 0 = k)
def preIsLed (CB C : Addr) : Pre := fun rs Pl cs r cs' => ∃ T R n k, rs = [.dat (baseD CB C T R), .dat (.str n), .dat (.int k)] ∧ schOk T ∧ rowsOk T R ∧ PyData.strOk n = true ∧ Pl = [] ∧ cs = [] ∧ r = .dat (.bl (isLed T R n k)) ∧ cs' = []
def getR (R : Rs) (t : Str) (k : Int) : Option Row := ((R.lookup t).getD []).lookup k
def keyOf (old new : Option Row) : Int := match old with
  | none => (new.getD []).headD 0
  | some o => o.headD 0
def tailB (T : List Tab) (R : Rs) (n : Str) (cols : List Col) (key : Int) : Option Row → Bool
  | none => !isLed T R n key
  | some nw => (ledOf cols nw).all fun p => (getR R p.1 p.2).isSome
def allowsB (T : List Tab) (R : Rs) (n : Str) (cols : List Col) (old new : Option Row) : Bool := decide (getR R n (keyOf old new) = old) && tailB T R n cols (keyOf old new) new
/-- references lead to tables that are there -/
def refsOk (T : List Tab) : Prop := ∀ t ∈ T, ∀ c ∈ t.2, ∀ m, c.2 = some m → m ∈ T.map (·.1)
/-- a change's rows: not both missing, not empty -/
def rowsCh (old new : Option Row) : Prop := (old.isSome = true ∨ new.isSome = true) ∧ (∀ o, old = some o → o ≠ []) ∧ ∀ o, new = some o → o ≠ []
def preAllows (CB C : Addr) : Pre := fun rs Pl cs r cs' => ∃ T R n cols old new, rs = [.dat (baseD CB C T R), .dat (.str n), .dat (optD old), .dat (optD new)] ∧ schOk T ∧ refsOk T ∧ rowsOk T R ∧ T.lookup n = some cols ∧ rowsCh old new ∧ Pl = [] ∧ cs = [] ∧ r = .dat (.bl (allowsB T R n cols old new)) ∧ cs' = []
def putL (l : List (Int × Row)) (i : Int) (r : Row) : List (Int × Row) := if (l.any fun p => decide (p.1 = i)) = true then l.map (fun p => if p.1 = i then (p.1, r) else p) else l ++ [(i, r)]
def delL (l : List (Int × Row)) (i : Int) : List (Int × Row) := l.filter fun p => decide (p.1 ≠ i)
def setT (R : Rs) (n : Str) (f : List (Int × Row) → List (Int × Row)) : Rs := R.map fun t => if t.1 = n then (t.1, f t.2) else t
def stepL (c : Ch) (l : List (Int × Row)) : List (Int × Row) := match c.new with
  | none => delL l (keyOf c.old c.new)
  | some r => putL l (r.headD 0) r
def stepCh (R : Rs) (c : Ch) : Rs := setT R c.tab (stepL c)
def okCh (T : List Tab) (R : Rs) (c : Ch) : Bool := allowsB T R c.tab ((T.lookup c.tab).getD []) c.old c.new
/-- the index of the first change that is not allowed, and the rows then -/
def advF (T : List Tab) : List Ch → Rs → Nat → Option Nat × Rs
  | [], R, _ => (none, R)
  | c :: cs, R, i => if okCh T R c = true then advF T cs (stepCh R c) (i + 1) else (some i, R)
/-- a change over a schema -/
def chOk (T : List Tab) (c : Ch) : Prop := ∃ cols, T.lookup c.tab = some cols ∧ (∀ r, c.old = some r → r.length = cols.length + 1) ∧ (∀ r, c.new = some r → r.length = cols.length + 1) ∧ (∀ o n, c.old = some o → c.new = some n → o.headD 0 = n.headD 0)
/-- what an instance of the class Base is told to be -/
structure BaseCls (K : PySem.W.Frag) (C : Addr) : Prop where
  cl : Cls K C
  n1 : NoAttr K C "schema"
  n2 : NoAttr K C "_tables"
section
variable {K : PySem.W.Frag} {P : List Addr} {ss : List Sl} {cs cs1 cs2 : List (List D)} {te tk : TE}
theorem RpK.valN {B : Hp} {k : Key} : ∀ {vs : List (Key × V)} {ds : List (Key × D)}, RpK K B vs ds → valD ds k = none → valV vs k = none
  | _, _, .nil, _ => rfl
  | _, _ :: ds, .cons (k := k') h r, e => by
    by_cases hk : k' = k
    · subst hk
      simp [valD] at e
    · have e' : valD ds k = none := by simpa [valD, List.find?_cons, hk] using e
      have := RpK.valN r e'
      simpa [valV, List.find?_cons, hk] using this
/-- d[k] with an int or a text -/
inductive KeyD : D → Key → Prop
  | int (i : Int) : KeyD (.int i) (.inl i)
  | str (x : Str) : KeyD (.str x) (.inr x)
theorem KeyD.val {B : Hp} {v : V} {d : D} {k : Key} (h : KeyD d k) (r : Rp K B v d) : v = kV k := by
  cases h <;> cases r <;> rfl
theorem ev_dgetK {ks : List (Key × D)} {dk d : D} {k : Key} (h : Ev K P ss cs te (.dat (.dic ks)) cs1) (hk : Ev K P ss cs1 tk (.dat dk) cs2) (hq : KeyD dk k) (hv : valD ks k = some d) : Ev K P ss cs (tDGet te tk) (.dat d) cs2 := fun B H σ o Q q =>
  h B H σ o _ fun v B1 H1 s1 o1 v1 => hk B1 H1 σ o1 _ fun u B2 H2 s2 o2 u2 => by
    have a' : Rp K B2 v (.dic ks) := Rp.mono s2.ex v1
    have e := hq.val (show Rp K B2 u dk from u2)
    subst e
    cases a' with
    | @dic a kvs _ h5 r =>
      obtain ⟨w, h1, h2⟩ := r.val hv
      exact ⟨_, w, rfl, .inl ⟨kvs, k, .inl (o2.ex _ _ h5), rfl, h1.symm⟩, q w B2 H2 (s1.trans s2) o2 h2⟩
/-- d.get(k) -/
theorem ev_dget1K {ks : List (Key × D)} {dk : D} {k : Key} (h : Ev K P ss cs te (.dat (.dic ks)) cs1) (hk : Ev K P ss cs1 tk (.dat dk) cs2) (hq : KeyD dk k) : Ev K P ss cs (tDGet1 te tk) (.dat ((valD ks k).getD .non)) cs2 := fun B H σ o Q q =>
  h B H σ o _ fun v B1 H1 s1 o1 v1 => by
    have a0 : Rp K B1 v (.dic ks) := v1
    cases a0 with
    | @dic a kvs _ h5 r =>
      refine ⟨a, rfl, .inl ⟨kvs, .inl (o1.ex _ _ h5)⟩, hk B1 H1 σ o1 _ fun u B2 H2 s2 o2 u2 => ?_⟩
      have e := hq.val (show Rp K B2 u dk from u2)
      subst e
      cases hv : valD ks k with
      | none =>
        have hn := RpK.valN r hv
        refine ⟨none, .inl ⟨kvs, k, .inl (o2.ex _ _ (s2.ex _ _ h5)), rfl, hn.symm⟩, ?_⟩
        rw [hv] at q
        exact q .non B2 H2 (s1.trans s2) o2 .non
      | some d =>
        obtain ⟨w, h1, h2⟩ := r.val hv
        refine ⟨some w, .inl ⟨kvs, k, .inl (o2.ex _ _ (s2.ex _ _ h5)), rfl, h1.symm⟩, ?_⟩
        rw [hv] at q
        exact q w B2 H2 (s1.trans s2) o2 (h2.mono s2.ex)
theorem valD_tab {R : Rs} {n : Str} {l : List (Int × Row)} (h : R.lookup n = some l) : valD (R.map fun t => ((Sum.inr t.1 : Key), inD t.2)) (.inr n) = some (inD l) := by
  induction R with
  | nil => cases h
  | cons t R ih =>
    obtain ⟨a, c⟩ := t
    by_cases e : n = a
    · subst e
      have : c = l := by simpa [List.lookup] using h
      subst this
      simp [valD]
    · have e' : (n == a) = false := by simpa using e
      have h2 : R.lookup n = some l := by simpa [List.lookup, e'] using h
      have := ih h2
      unfold valD at this ⊢
      have ne : ¬ (Sum.inr a : Key) = Sum.inr n := fun z => e (Sum.inr.inj z).symm
      simpa [List.find?_cons, ne] using this
theorem valD_in {l : List (Int × Row)} {k : Int} : (valD (l.map fun p => ((Sum.inl p.1 : Key), rowD p.2)) (.inl k)).getD .non = optD (l.lookup k) := by
  induction l with
  | nil => rfl
  | cons t l ih =>
    obtain ⟨a, c⟩ := t
    by_cases e : k = a
    · subst e
      simp [valD, List.lookup, optD]
    · have e' : (k == a) = false := by simpa using e
      unfold valD at ih ⊢
      have ne : ¬ (Sum.inl a : Key) = Sum.inl k := fun z => e (Sum.inl.inj z).symm
      simpa [List.find?_cons, List.lookup, e', ne] using ih
end
/-- where the dict of a table's rows lies -/
theorem path_in {K : PySem.W.Frag} {B : Hp} {v : V} {CB C : Addr} {T : List Tab} {R : Rs} {n : Str} {l : List (Int × Row)} (h : Rp K B v (baseD CB C T R)) (hR : R.lookup n = some l) :
    ∃ s dx fvs t kvo a kvi, v = .ref s ∧ B s = some (.ins CB dx fvs) ∧ fvs.lookup ("_tables" : Str) = some (.ref t) ∧ B t = some (.dK kvo) ∧ valV kvo (.inr n) = some (.ref a) ∧ B a = some (.dK kvi) ∧ RpK K B kvi (l.map fun p => ((Sum.inl p.1 : Key), rowD p.2)) ∧ s ≠ a ∧ t ≠ a := by
  unfold baseD at h
  cases h with
  | @obj s _ dx fvs _ h5 rf =>
    obtain ⟨vt, h1, h2⟩ := rf.lookup (f := "_tables") (d := tabD R) rfl
    unfold tabD at h2
    cases h2 with
    | @dic t kvo _ h6 rk =>
      obtain ⟨vi, h3, h4⟩ := rk.val (valD_tab hR)
      unfold inD at h4
      cases h4 with
      | @dic a kvi _ h7 ri =>
        refine ⟨s, dx, fvs, t, kvo, a, kvi, rfl, h5, h1, h6, h3, h7, ri, fun z => ?_, fun z => ?_⟩
        · subst z; rw [h5] at h7; cases h7
        · subst z
          rw [h6] at h7
          cases h7
          have e1 := RpK.valN ri (k := .inr n) (by
            unfold valD
            rw [List.find?_map]
            have : (l.find? ((fun kv => decide (kv.1 = (Sum.inr n : Key))) ∘ fun p => ((Sum.inl p.1 : Key), rowD p.2))) = none := by
              rw [List.find?_eq_none]
              intro x _
              simp
            rw [this]
            rfl)
          rw [h3] at e1
          cases e1
theorem led_filter {cols : List Col} {row : Row} : (((List.zip cols row.tail).filter fun p => p.1.2.isSome).map fun p => D.tup [.str (p.1.2.getD ""), .int p.2]) = (ledOf cols row).map fun p => D.tup [.str p.1, .int p.2] := by
  unfold ledOf
  generalize List.zip cols row.tail = l
  induction l with
  | nil => rfl
  | cons p l ih =>
    obtain ⟨⟨n, t⟩, v⟩ := p
    cases t with
    | none => simpa using ih
    | some t => simpa using ih
end SP
/-! EQ: == of the rows of tables. -/
namespace SP
open PySem L2 DV PM QD
variable {K : PySem.W.Frag}
theorem rpA_intsE {B : Hp} : ∀ {xs : List V} {ns : List Int}, RpA K B xs (ns.map D.int) → xs = ns.map V.int
  | _, [], .nil => rfl
  | _, n :: ns, .cons h r => by
    cases h
    rw [List.map_cons, rpA_intsE r]
theorem vints_inj : ∀ {a b : List Int}, a.map V.int = b.map V.int → a = b
  | [], [], _ => rfl
  | [], _ :: _, h => by cases h
  | _ :: _, [], h => by cases h
  | a :: as, b :: bs, h => by
    rw [List.map_cons, List.map_cons] at h
    injection h with h1 h2
    injection h1 with h1
    rw [h1, vints_inj h2]
theorem row_det {B : Hp} {v : V} {r r' : Row} (h : Rp K B v (rowD r)) (h' : Rp K B v (rowD r')) : r = r' := by
  unfold rowD at h h'
  cases h with
  | @tup a xs _ h1 r1 => cases h' with
    | @tup _ ys _ h2 r2 =>
      have e1 := rpA_intsE r1
      have e2 := rpA_intsE r2
      subst e1
      subst e2
      rcases h1 with h1 | ⟨o, h1⟩
      · rcases h2 with h2 | ⟨o', h2⟩
        · rw [h1] at h2
          injection h2 with h2
          injection h2 with h2
          exact vints_inj h2
        · rw [h1] at h2
          injection h2 with h2
          cases h2
      · rcases h2 with h2 | ⟨o', h2⟩
        · rw [h1] at h2
          injection h2 with h2
          cases h2
        · rw [h1] at h2
          injection h2 with h2
          injection h2 with _ h2
          injection h2 with h2
          exact vints_inj h2
theorem row_eqv (r r' : Row) : PyData.eqv (rowD r).py (rowD r').py = decide (r = r') := by
  have nbr : ∀ r : Row, D.nb (rowD r) = true := fun r => D.nbA_all fun d hd => by obtain ⟨i, _, rfl⟩ := List.mem_map.mp hd; rfl
  have q := D.eqv_iff (rowD r) (rowD r') (nbr r) (nbr r')
  by_cases e : r = r'
  · rw [decide_eq_true e]; exact q.mpr (by rw [e])
  · rw [decide_eq_false e]
    cases z : PyData.eqv (rowD r).py (rowD r').py with
    | false => rfl
    | true =>
      have h := q.mp z
      unfold rowD at h
      injection h with h
      have inj : ∀ {a b : List Int}, a.map D.int = b.map D.int → a = b := by
        intro a
        induction a with
        | nil => intro b h; cases b with | nil => rfl | cons _ _ => cases h
        | cons x a ih =>
          intro b h
          cases b with
          | nil => cases h
          | cons y b =>
            rw [List.map_cons, List.map_cons] at h
            injection h with h1 h2
            injection h1 with h1
            rw [h1, ih h2]
      exact absurd (inj h) e
def inKs (l : List (Int × Row)) : List (Key × D) := l.map fun p => ((Sum.inl p.1 : Key), rowD p.2)
def eqIn (l l' : List (Int × Row)) : Bool := l.length == l'.length && l.all fun p => decide (l'.lookup p.1 = some p.2)
def eIn (l l' : List (Int × Row)) : Key → Bool
  | .inl i => decide (l.lookup i = l'.lookup i)
  | .inr _ => false
theorem RpK.lenE {B : Hp} : ∀ {vs : List (Key × V)} {ds : List (Key × D)}, RpK K B vs ds → vs.length = ds.length
  | _, _, .nil => rfl
  | _, _, .cons _ r => by rw [List.length_cons, List.length_cons, RpK.lenE r]
theorem valD_inE {l : List (Int × Row)} {k : Int} : valD (inKs l) (.inl k) = (l.lookup k).map rowD := by
  induction l with
  | nil => rfl
  | cons t l ih =>
    obtain ⟨a, c⟩ := t
    by_cases e : k = a
    · subst e
      simp [inKs, valD, List.lookup]
    · have e' : (k == a) = false := by simpa using e
      unfold inKs valD at ih ⊢
      have ne : ¬ (Sum.inl a : Key) = Sum.inl k := fun z => e (Sum.inl.inj z).symm
      simpa [List.find?_cons, List.lookup, e', ne] using ih
theorem look_of {l : List (Int × Row)} (nd : (l.map (·.1)).Nodup) {p : Int × Row} (h : p ∈ l) : l.lookup p.1 = some p.2 := by
  induction l with
  | nil => cases h
  | cons t l ih =>
    obtain ⟨a, c⟩ := t
    rw [List.map_cons, List.nodup_cons] at nd
    rcases List.mem_cons.mp h with rfl | h
    · simp [List.lookup]
    · have ne : (p.1 == a) = false := by
        have : p.1 ≠ a := fun z => nd.1 (List.mem_map.mpr ⟨p, h, z⟩)
        simpa using this
      simp only [List.lookup, ne]
      exact ih nd.2 h
theorem RpK.memE {B : Hp} : ∀ {vs : List (Key × V)} {ds : List (Key × D)} {q : Key × V}, RpK K B vs ds → q ∈ vs → ∃ d, (q.1, d) ∈ ds ∧ Rp K B q.2 d
  | _, _, _, .nil, h => by cases h
  | _, _, q, .cons r1 r2, h => by
    rcases List.mem_cons.mp h with rfl | h
    · exact ⟨_, List.mem_cons_self, r1⟩
    · obtain ⟨d, h1, h2⟩ := RpK.memE r2 h
      exact ⟨d, List.mem_cons_of_mem _ h1, h2⟩
theorem ents_in {B H : Hp} (e : Ex B H) {ks ls : List (Key × V)} {l l' : List (Int × Row)} (r : RpK K B ks (inKs l)) (r' : RpK K B ls (inKs l')) (nd : (l.map (·.1)).Nodup) : Ents K H ks ls (eIn l l') := fun p hp y hy => by
  obtain ⟨d, h1, h2⟩ := RpK.memE r hp
  obtain ⟨x, hx, e1⟩ := List.mem_map.mp h1
  injection e1 with e1 e2
  subst e2
  have hl := look_of nd hx
  have hv : valD (inKs l') p.1 = (l'.lookup x.1).map rowD := by rw [← e1]; exact valD_inE
  cases hl' : l'.lookup x.1 with
  | none =>
    rw [hl'] at hv
    rw [RpK.valN r' hv] at hy
    cases hy
  | some r2 =>
    rw [hl'] at hv
    obtain ⟨y', hy', rr⟩ := r'.val hv
    rw [hy] at hy'
    cases hy'
    have sh : ∀ r : Row, D.sh 1 (rowD r) = true := fun r => D.shA_all fun d hd => by obtain ⟨i, _, rfl⟩ := List.mem_map.mp hd; rfl
    refine ⟨_, _, Rp.dp e h2 (D.sh_pl _ _ (sh _)), Rp.dp e rr (D.sh_pl _ _ (sh _)), D.shaped (sh _), D.shaped (sh _), ?_⟩
    rw [row_eqv, ← e1]
    show decide (l.lookup x.1 = l'.lookup x.1) = _
    rw [hl, hl']
    simp
theorem all_keys {B : Hp} {f : Key → Bool} : ∀ {vs : List (Key × V)} {ds : List (Key × D)}, RpK K B vs ds → (vs.all fun p => f p.1) = ds.all fun p => f p.1
  | _, _, .nil => rfl
  | _, _, .cons _ r => by rw [List.all_cons, List.all_cons, all_keys r]
theorem some_keys {B : Hp} {k : Key} {vs : List (Key × V)} {ds : List (Key × D)} (r : RpK K B vs ds) : (valV vs k).isSome = (valD ds k).isSome := by
  cases h : valD ds k with
  | none => rw [RpK.valN r h]; rfl
  | some d =>
    obtain ⟨v, h1, _⟩ := r.val h
    rw [h1]; rfl
theorem same_in {B : Hp} {ks ls : List (Key × V)} {l l' : List (Int × Row)} (r : RpK K B ks (inKs l)) (r' : RpK K B ls (inKs l')) (nd : (l.map (·.1)).Nodup) : sameB ks ls (eIn l l') = eqIn l l' := by
  unfold sameB eqIn
  have e1 : (ks.all fun p => (valV ls p.1).isSome && eIn l l' p.1) = l.all fun p => decide (l'.lookup p.1 = some p.2) := by
    rw [all_keys (f := fun k => (valV ls k).isSome && eIn l l' k) r]
    unfold inKs
    rw [List.all_map]
    have : ∀ p ∈ l, ((fun q : Key × D => (valV ls q.1).isSome && eIn l l' q.1) ∘ fun p => ((Sum.inl p.1 : Key), rowD p.2)) p = decide (l'.lookup p.1 = some p.2) := fun p hp => by
      show ((valV ls (Sum.inl p.1)).isSome && decide (l.lookup p.1 = l'.lookup p.1)) = _
      rw [some_keys r', valD_inE, look_of nd hp]
      cases l'.lookup p.1 with
      | none => simp
      | some x => simp [eq_comm]
    rw [List.all_eq, List.all_eq]
    congr 1
    apply propext
    constructor
    · intro h x hx; rw [← this x hx]; exact h x hx
    · intro h x hx; rw [this x hx]; exact h x hx
  rw [e1, RpK.lenE r, RpK.lenE r']
  simp [inKs]
theorem od_eqIn {l l' : List (Int × Row)} {neg : Bool} (nd : (l.map (·.1)).Nodup) : OpD K (rEqDD K neg) (.dat (inD l)) (.dat (inD l')) (.dat (.bl (if neg then !eqIn l l' else eqIn l l'))) := fun B H x y e h1 h2 Q q => by
  have a' : Rp K B x (.dic (inKs l)) := h1
  have b' : Rp K B y (.dic (inKs l')) := h2
  cases a' with
  | @dic a ks _ h5 r => cases b' with
    | @dic b ls _ h6 r' =>
      refine ⟨a, b, ks, ls, eIn l l', rfl, rfl, .inl (e _ _ h5), .inl (e _ _ h6), ents_in e r r' nd, ?_⟩
      rw [same_in r r' nd]
      exact q _ B H (Stp.refl _ _ _) e (.bl _)
theorem in_det {B : Hp} : ∀ {kvs : List (Key × V)} {l l' : List (Int × Row)}, RpK K B kvs (inKs l) → RpK K B kvs (inKs l') → l = l'
  | [], l, l', h, h' => by
    have e1 := RpK.lenE h
    have e2 := RpK.lenE h'
    unfold inKs at e1 e2
    rw [List.length_map] at e1 e2
    rw [List.length_eq_zero_iff.mp e1.symm, List.length_eq_zero_iff.mp e2.symm]
  | (k, v) :: kvs, l, l', h, h' => by
    cases l with
    | nil => have e1 := RpK.lenE h; simp [inKs] at e1
    | cons t l => cases l' with
      | nil => have e1 := RpK.lenE h'; simp [inKs] at e1
      | cons t' l' =>
        obtain ⟨a, c⟩ := t
        obtain ⟨a', c'⟩ := t'
        have g : RpK K B ((k, v) :: kvs) (((Sum.inl a : Key), rowD c) :: inKs l) := h
        have g' : RpK K B ((k, v) :: kvs) (((Sum.inl a' : Key), rowD c') :: inKs l') := h'
        cases g with
        | cons r1 r2 =>
          cases g' with
          | cons r1' r2' =>
            rw [row_det r1 r1', in_det r2 r2']
theorem eqIn_self {l : List (Int × Row)} (nd : (l.map (·.1)).Nodup) : eqIn l l = true := by
  unfold eqIn
  simp only [beq_self_eq_true, Bool.true_and, List.all_eq_true, decide_eq_true_eq]
  exact fun p hp => look_of nd hp
def tabKs (R : Rs) : List (Key × D) := R.map fun t => ((Sum.inr t.1 : Key), inD t.2)
def eqTab (R R' : Rs) : Bool := R.length == R'.length && R.all fun t => match R'.lookup t.1 with
  | some l' => eqIn t.2 l'
  | none => false
def eTab (R R' : Rs) : Key → Bool
  | .inr n => match R.lookup n, R'.lookup n with
    | some l, some l' => eqIn l l'
    | _, _ => false
  | .inl _ => false
theorem look_ofT {α : Type} {l : List (Str × α)} (nd : (l.map (·.1)).Nodup) {p : Str × α} (h : p ∈ l) : l.lookup p.1 = some p.2 := by
  induction l with
  | nil => cases h
  | cons t l ih =>
    obtain ⟨a, c⟩ := t
    rw [List.map_cons, List.nodup_cons] at nd
    rcases List.mem_cons.mp h with rfl | h
    · simp [List.lookup]
    · have ne : (p.1 == a) = false := by
        have : p.1 ≠ a := fun z => nd.1 (List.mem_map.mpr ⟨p, h, z⟩)
        simpa using this
      simp only [List.lookup, ne]
      exact ih nd.2 h
theorem valD_tabN {R : Rs} {n : Str} (h : R.lookup n = none) : valD (tabKs R) (.inr n) = none := by
  induction R with
  | nil => rfl
  | cons t R ih =>
    obtain ⟨a, c⟩ := t
    by_cases e : n = a
    · subst e; simp [List.lookup] at h
    · have e' : (n == a) = false := by simpa using e
      have := ih (by simpa [List.lookup, e'] using h)
      unfold tabKs valD at this ⊢
      have ne : ¬ (Sum.inr a : Key) = Sum.inr n := fun z => e (Sum.inr.inj z).symm
      simpa [List.find?_cons, ne] using this
theorem od_eqTab {R R' : Rs} (nd : (R.map (·.1)).Nodup) (ni : ∀ t ∈ R, (t.2.map (·.1)).Nodup) : OpD K (rEqD2 K) (.dat (tabD R)) (.dat (tabD R')) (.dat (.bl (eqTab R R'))) := fun B H x y ex h1 h2 Q q => by
  have a' : Rp K B x (.dic (tabKs R)) := h1
  have b' : Rp K B y (.dic (tabKs R')) := h2
  cases a' with
  | @dic a ks _ h5 r => cases b' with
    | @dic b ls _ h6 r' =>
      refine ⟨a, b, ks, ls, eTab R R', rfl, rfl, .inl (ex _ _ h5), .inl (ex _ _ h6), fun p hp => ?_, fun p hp y hy => ?_, ?_⟩
      · obtain ⟨d, hd, rp⟩ := RpK.memE r hp
        obtain ⟨t, ht, e1⟩ := List.mem_map.mp hd
        injection e1 with e1 e2
        subst e2
        unfold inD at rp
        generalize p.2 = v at rp
        cases rp
        exact ⟨_, rfl⟩
      · obtain ⟨d, hd, rp⟩ := RpK.memE r hp
        obtain ⟨t, ht, e1⟩ := List.mem_map.mp hd
        injection e1 with e1 e2
        subst e2
        have hl := look_ofT nd ht
        cases hl' : R'.lookup t.1 with
        | none =>
          have := RpK.valN r' (valD_tabN hl')
          rw [e1, hy] at this
          cases this
        | some l' =>
          obtain ⟨y', hy', rr⟩ := r'.val (valD_tab hl')
          rw [e1, hy] at hy'
          cases hy'
          have hee : eTab R R' p.1 = eqIn t.2 l' := by
            rw [← e1]
            show (match R.lookup t.1, R'.lookup t.1 with | some l, some l' => eqIn l l' | _, _ => false) = _
            rw [hl, hl']
          rw [hee]
          unfold inD at rp rr
          generalize p.2 = v at rp
          cases rp with
          | @dic a1 k2 _ c1 s1 => cases rr with
            | @dic b1 l2 _ c2 s2 =>
              by_cases e : a1 = b1
              · subst e
                rw [c1] at c2
                injection c2 with c2
                injection c2 with c2
                subst c2
                have := in_det (l := t.2) (l' := l') s1 s2
                subst this
                exact .inl ⟨rfl, eqIn_self (ni t ht)⟩
              · exact .inr ⟨a1, b1, k2, l2, eIn t.2 l', rfl, rfl, e, .inl (ex _ _ c1), .inl (ex _ _ c2), ents_in ex s1 s2 (ni t ht), (same_in s1 s2 (ni t ht)).symm⟩
      · have es : sameB ks ls (eTab R R') = eqTab R R' := by
          unfold sameB eqTab
          have e1 : (ks.all fun p => (valV ls p.1).isSome && eTab R R' p.1) = R.all fun t => match R'.lookup t.1 with
              | some l' => eqIn t.2 l'
              | none => false := by
            rw [all_keys (f := fun k => (valV ls k).isSome && eTab R R' k) r]
            unfold tabKs
            rw [List.all_map]
            have : ∀ t ∈ R, ((fun q : Key × D => (valV ls q.1).isSome && eTab R R' q.1) ∘ fun t => ((Sum.inr t.1 : Key), inD t.2)) t = (match R'.lookup t.1 with | some l' => eqIn t.2 l' | none => false) := fun t ht => by
              show ((valV ls (Sum.inr t.1)).isSome && (match R.lookup t.1, R'.lookup t.1 with | some l, some l' => eqIn l l' | _, _ => false)) = _
              rw [some_keys r', look_ofT nd ht]
              cases hl' : R'.lookup t.1 with
              | none => rw [valD_tabN hl']; rfl
              | some l' =>
                have z : valD (tabKs R') (.inr t.1) = some (inD l') := valD_tab hl'
                rw [z]; rfl
            rw [List.all_eq, List.all_eq]
            congr 1
            apply propext
            constructor
            · intro h x hx; rw [← this x hx]; exact h x hx
            · intro h x hx; rw [this x hx]; exact h x hx
          rw [e1, RpK.lenE r, RpK.lenE r']
          simp [tabKs]
        rw [es]
        exact q _ B H (Stp.refl _ _ _) ex (.bl _)
end SP
namespace T3
open PySem L2 DV PM SP
abbrev s_old_and_new : Stmt := topS 6
abbrev N_old_and_new : List Str := ["change"]
theorem sc_old_and_new : FnScope N_old_and_new ["change"] (defScope s_old_and_new) := ⟨rfl, rfl, rfl, by decide +kernel, rfl, by decide +kernel, by decide +kernel⟩

abbrev s_led_to : Stmt := topS 7
abbrev N_led_to : List Str := ["schema", "table", "row", "part", "name", "target"]
theorem sc_led_to : FnScope N_led_to ["schema", "table", "row"] (defScope s_led_to) := ⟨rfl, rfl, rfl, by decide +kernel, rfl, by decide +kernel, by decide +kernel⟩

abbrev s_Base_row_at : Stmt := inClass (topS 5) 3
abbrev N_Base_row_at : List Str := ["self", "table", "key"]
theorem sc_Base_row_at : FnScope N_Base_row_at ["self", "table", "key"] (defScope s_Base_row_at) := ⟨rfl, rfl, rfl, by decide +kernel, rfl, by decide +kernel, by decide +kernel⟩

section
variable {P : Program} {w : World} {K : PySem.W.Frag} {mg : Str → Option Value} {base : Heap} {C CB : Addr}
theorem ok_old_and_new {f : Addr} {fd : FuncData} (F : Fun K "old_and_new" "old_and_new" s_old_and_new f fd) : FnOk P w K mg base CX0 1 f fd ["change"] (spM K preOAN) := by
  refine ok_body F sc_old_and_new (fun rs Pl cs r cs' h => ?_) (fun X hX hr => ?_)
  · obtain ⟨c, rfl, _⟩ := h
    rfl
  obtain ⟨cdv, A, outer, s, H, E, rfl⟩ := hX
  have nd := sc_old_and_new.nd
  refine ⟨_, (pss_cons (ps_if (pt_cmpR (op_eqA hr.units) (pe_ix ix_seq (pv 0) pe_int (fun _ _ => rfl)) pe_str (nomark _)) (pss_one (ps_ret (pe_tup (pa_cons pe_non (pa_cons (pe_ix ix_seq (pv 0) pe_int (fun _ _ => rfl)) pa_nil))))) pss_nil)
      (pss_cons (ps_if (pt_cmpR (op_eqA hr.units) (pe_ix ix_seq (pv 0) pe_int (fun _ _ => rfl)) pe_str (nomark _)) (pss_one (ps_ret (pe_tup (pa_cons (pe_ix ix_seq (pv 0) pe_int (fun _ _ => rfl)) (pa_cons pe_non pa_nil))))) pss_nil)
      (pss_one (ps_ret (pe_tup (pa_cons (pe_ix ix_seq (pv 0) pe_int (fun _ _ => rfl)) (pa_cons (pe_ix ix_seq (pv 0) pe_int (fun _ _ => rfl)) pa_nil))))))), ?_⟩
  intro rs Pl cs r cs' hp B0 H0 σ Dn st hP hd hn
  obtain ⟨c, rfl, rfl, rfl, rfl, rfl⟩ := hp
  cases c with
  | ins t r =>
    exact st_seq (st_if (b := decide (("insert" : Str) = "insert")) st (et_test (ev_op (ev_op (ev_var rfl) ev_int (od_ixT (by exact rfl))) ev_str od_eqS)) (fun _ H1 st1 => st_ret st1 (ev_tup (ds := [_, _]) (ea_cons ev_non (ea_cons (ev_op (ev_var rfl) ev_int (od_ixT (by exact rfl))) ea_nil)) (by simp)) hd) (fun z => absurd z (by decide +kernel)))
  | del t r =>
    have v0 : ∀ {cs : List (List D)}, Ev K [] (([Sl.dat (encCh (.del t r))] : List Sl) ++ List.replicate (N_old_and_new.length - [Sl.dat (encCh (.del t r))].length) .any) cs (tVar 0) (.dat (.tup [.str "delete", .str t, rowD r])) cs := ev_var (i := 0) rfl
    refine st_seq (st_if (b := decide (("delete" : Str) = "insert")) st (et_test (ev_op (ev_op v0 (ev_int (i := 0)) (od_ixT (d := .str "delete") rfl)) ev_str od_eqS)) (fun z => absurd z (by decide +kernel)) (fun _ H1 st1 => st_ns ?_))
    exact (st_if (b := decide (("delete" : Str) = "delete")) st1 (et_test (ev_op (ev_op v0 (ev_int (i := 0)) (od_ixT (d := .str "delete") rfl)) ev_str od_eqS)) (fun _ H2 st2 => st_ret st2 (ev_tup (ds := [_, _]) (ea_cons (ev_op v0 (ev_int (i := 2)) (od_ixT (d := rowD r) rfl)) (ea_cons ev_non ea_nil)) (by simp)) hd) (fun z => absurd z (by decide +kernel)))
  | set t o n =>
    have v0 : ∀ {cs : List (List D)}, Ev K [] (([Sl.dat (encCh (.set t o n))] : List Sl) ++ List.replicate (N_old_and_new.length - [Sl.dat (encCh (.set t o n))].length) .any) cs (tVar 0) (.dat (.tup [.str "set", .str t, rowD o, rowD n])) cs := ev_var (i := 0) rfl
    refine st_seq (st_if (b := decide (("set" : Str) = "insert")) st (et_test (ev_op (ev_op v0 (ev_int (i := 0)) (od_ixT (d := .str "set") rfl)) ev_str od_eqS)) (fun z => absurd z (by decide +kernel)) (fun _ H1 st1 => st_ns ?_))
    refine (st_if (b := decide (("set" : Str) = "delete")) st1 (et_test (ev_op (ev_op v0 (ev_int (i := 0)) (od_ixT (d := .str "set") rfl)) ev_str od_eqS)) (fun z => absurd z (by decide +kernel)) (fun _ H2 st2 => st_next ?_))
    exact st_ret st2 (ev_tup (ds := [_, _]) (ea_cons (ev_op v0 (ev_int (i := 2)) (od_ixT (d := rowD o) rfl)) (ea_cons (ev_op v0 (ev_int (i := 3)) (od_ixT (d := rowD n) rfl)) ea_nil)) (by simp)) hd
theorem ok_led_to {f fC : Addr} {fd fdC : FuncData} (F : Fun K "led_to" "led_to" s_led_to f fd) (cls_S : Cls K C) (M_columns : Meth K C "columns" fC) (G_columns : FnOk P w K mg base CX0 1 fC fdC ["self", "table"] (spM K (preCols C))) (B_columns : Binds K fdC ["self", "table"] []) (b_zip : mg "zip" = none) :
    FnOk P w K mg base CX0 2 f fd ["schema", "table", "row"] (spM K (preLed C)) := by
  refine ok_body F sc_led_to (fun rs Pl cs r cs' h => ?_) (fun X hX hr => ?_)
  · obtain ⟨T, n, cols, row, rfl, _⟩ := h
    rfl
  obtain ⟨cdv, A, outer, s, H, E, rfl⟩ := hX
  have nd := sc_led_to.nd
  refine ⟨_, (pss_one (ps_ret (pe_lc (own := [("part", 3), ("name", 4), ("target", 5)]) (g := (gTup K 2 (gCons (gTup K 2 (gCons (gName 4) (gCons (gName 5) gNil))) (gCons (gName 3) gNil)))) (tt := (tTest (tOp rNotN (tVar 5) (tC .non)))) (te := (tTup (tCons (tVar 5) (tCons (tVar 3) tNil)))) rfl nd (RZ.pi_zipA (by rfl) b_zip (pa_cons (pe_meth (pv 0) cls_S M_columns G_columns (hr.mono (by decide)) B_columns .nil pass0 (pa_cons (pv 1) pa_nil)) (pa_cons (pe_slice sl_3 (pv 2) (po_some pe_int) po_none) pa_nil))) (blkOk_by (N := N_led_to) (sc := defScope s_led_to) (by decide +kernel)) (by intro _ _ _ _ _; exact (pg_tup (by rfl) (by exact (pgs_cons (by exact (pg_tup (by rfl) (by exact (pgs_cons (by exact (pg_name (i := 4) nd (by rfl) (by first | exact .inl rfl | exact .inr rfl))) (by exact (pgs_cons (by exact (pg_name (i := 5) nd (by rfl) (by first | exact .inl rfl | exact .inr rfl))) (by exact pgs_nil))))))) (by exact (pgs_cons (by exact (pg_name (i := 3) nd (by rfl) (by first | exact .inl rfl | exact .inr rfl))) (by exact pgs_nil))))))) (by intro _ _ _ _ _; exact (pts_one (pt_cmpR op_notN' (pv 5) pe_non (nomark _)))) (by intro _ _ _ _ _; exact (pe_tup (pa_cons (pv 5) (pa_cons (pv 3) pa_nil))))))), ?_⟩
  intro rs Pl cs r cs' hp B0 H0 σ Dn st hP hd hn
  obtain ⟨T, n, cols, row, rfl, hT, hc, rfl, rfl, rfl, rfl⟩ := hp
  rw [← led_filter] at hd
  have e3 : zipD (cols.map encC) (cutD (row.map D.int) (some 1) none) = (List.zip cols row.tail).map fun p => D.tup [encC p.1, .int p.2] := by
    have e : cutD (row.map D.int) (some 1) none = row.tail.map D.int := by
      rw [List.map_tail]
      unfold cutD
      rw [HT.sIx_none, ← List.drop_one]
      cases row with
      | nil => rfl
      | cons a r =>
        have : HT.sIx (((a :: r).map D.int).length) 0 (some 1) = 1 := by
          show (if (1 : Int) < 0 then ((1 : Int) + (((a :: r).map D.int).length : Int)).toNat else min (1 : Int).toNat ((a :: r).map D.int).length) = 1
          rw [if_neg (by decide)]
          simp
        rw [this, List.take_of_length_le (by simp)]
    rw [e]
    unfold zipD
    rw [List.zipWith_map, List.zip, List.map_zipWith]
  refine st_ret st (EvF.ev (ef_filterE (l := List.zip cols row.tail) (enc := fun p => D.tup [encC p.1, .int p.2]) (e3 ▸ wd_zipTT (ea_cons (ev_meth1 (ev_var rfl) rfl (ea_cons (ev_var rfl) ea_nil) ⟨T, n, cols, rfl, hT, rfl, rfl, rfl, rfl⟩) (ea_cons (ev_sl (ev_var rfl) (eo_some ev_int) eo_none sd_T) ea_nil))) _ _ (by rw [List.length_zip]; omega) (fun p i x acc hd' => ?_))) hd
  obtain ⟨⟨nm, t⟩, v⟩ := x
  cases t with
  | none => exact ⟨_, _, g_tup (g_cons (g_tup (g_cons g_name (g_cons g_name g_nil))) (g_cons g_name g_nil)), by decide, et_test (ev_op (ev_var rfl) ev_non od_notN), fun z => by cases z⟩
  | some t => exact ⟨_, _, g_tup (g_cons (g_tup (g_cons g_name (g_cons g_name g_nil))) (g_cons g_name g_nil)), by decide, et_test (ev_op (ev_var rfl) ev_non od_notN), fun _ => ev_tup (ds := [_, _]) (ea_cons (ev_var rfl) (ea_cons (ev_var rfl) ea_nil)) (by simp)⟩
theorem ok_row_at {f : Addr} {fd : FuncData} (F : Fun K "row_at" "Base.row_at" s_Base_row_at f fd) (c : BaseCls K CB) : FnOk P w K mg base CX0 1 f fd ["self", "table", "key"] (spM K (preRowAt CB C)) := by
  refine ok_body F sc_Base_row_at (fun rs Pl cs r cs' h => ?_) (fun X hX hr => ?_)
  · obtain ⟨T, R, n, l, k, rfl, _⟩ := h
    rfl
  obtain ⟨cdv, A, outer, s, H, E, rfl⟩ := hX
  have nd := sc_Base_row_at.nd
  refine ⟨_, (pss_one (ps_ret (pe_dget1 (hu_of hr) (pe_dget (hu_of hr) (pe_fld (pv 0) rfl) (pv 1) (fun _ _ => rfl)) (pv 2) ⟨rfl, rfl, rfl, rfl⟩))), ?_⟩
  intro rs Pl cs r cs' hp B0 H0 σ Dn st hP hd hn
  obtain ⟨T, R, n, l, k, rfl, hR, rfl, rfl, rfl, rfl⟩ := hp
  rw [← valD_in] at hd
  exact st_ret st (ev_dget1K (ev_dgetK (ev_fld (ev_var rfl) c.cl c.n2 rfl) (ev_var rfl) (.str n) (valD_tab hR)) (ev_var rfl) (.int k)) hd
end
end T3
namespace SP
open PySem L2 DV PM LK
variable {K : PySem.W.Frag}
theorem rpA_ints {B : Hp} : ∀ {xs : List V} {ns : List Int}, RpA K B xs (ns.map D.int) → xs = ns.map V.int
  | _, [], .nil => rfl
  | _, n :: ns, .cons h r => by
    cases h
    rw [List.map_cons, rpA_ints r]
theorem inV_ints {k : Int} : ∀ ns : List Int, inV (.int k) (ns.map V.int) = decide (k ∈ ns)
  | [] => rfl
  | n :: ns => by
    have ih := inV_ints (k := k) ns
    unfold inV at ih ⊢
    rw [List.map_cons, List.any_cons, ih]
    by_cases hk : k = n
    · subst hk; simp [eqV]
    · simp [eqV, hk, Ne.symm hk]
/-- x in ns, numbers -/
theorem od_inI {k : Int} {ns : List Int} : OpD K (rIn K false) (.dat (.int k)) (.dat (.lst (ns.map D.int))) (.dat (.bl (decide (k ∈ ns)))) := fun B H v y e h1 h2 Q q => by
  have a' : Rp K B v (.int k) := h1
  have b' : Rp K B y (.lst (ns.map D.int)) := h2
  cases a'
  cases b' with
  | @lst a xs _ h5 r =>
    have ex := rpA_ints r
    subst ex
    refine ⟨a, _, rfl, .inl (.inl (.inl (e _ _ h5))), rfl, by simp [flatV], ?_⟩
    rw [if_neg Bool.false_ne_true, inV_ints]
    exact q _ B H (Stp.refl _ _ _) e (.bl _)
theorem slots_val {B : Hp} {σ : L2.St} {ss : List Sl} {i : Nat} {v : V} (h : Slots K B σ ss) (hv : σ[i]? = some (some v)) : Slots K B σ (ss.set i (.val v)) := by
  have q := h.set (i := i) (v := v) (r := .val v) rfl
  have e : σ.set i (some v) = σ := by
    apply List.ext_getElem?
    intro j
    rw [List.getElem?_set]
    by_cases hj : i = j
    · subst hj
      rw [if_pos rfl, if_pos (List.getElem?_eq_some_iff.mp hv).1, hv]
    · rw [if_neg hj]
  rw [e] at q
  exact q
theorem slots_dat {B : Hp} {σ : L2.St} {ss : List Sl} {i : Nat} {v : V} {d : D} (h : Slots K B σ ss) (hi : ss[i]? = some (.val v)) (hv : Rp K B v d) : Slots K B σ (ss.set i (.dat d)) := by
  obtain ⟨w, h1, h2⟩ := h.get i _ hi (by intro z; cases z)
  cases (show w = v from h2)
  have q := h.set (i := i) (v := v) (r := .dat d) hv
  have e : σ.set i (some v) = σ := by
    apply List.ext_getElem?
    intro j
    rw [List.getElem?_set]
    by_cases hj : i = j
    · subst hj
      rw [if_pos rfl, if_pos (List.getElem?_eq_some_iff.mp h1).1, h1]
    · rw [if_neg hj]
  rw [e] at q
  exact q
theorem rpK_hide {B : Hp} {a : Addr} {kvs : List (Key × V)} (hS : B a = some (.dK kvs)) : ∀ {vs : List (Key × V)} {ds : List (Key × D)}, RpK K B vs ds → (∀ p ∈ ds, ndL p.2 = true) → RpK K (RG.off B [a]) vs ds
  | _, _, .nil, _ => .nil
  | _, _, .cons h r, p => .cons (rp_hide hS h (p _ List.mem_cons_self)) (rpK_hide hS r fun q hq => p q (List.mem_cons_of_mem _ hq))
theorem ndLA_ints (ns : List Int) : ndLA (ns.map D.int) = true := by
  induction ns with
  | nil => rfl
  | cons n ns ih => simp [ndLA, ndL, ih]
theorem ndLA_all : ∀ {ds : List D}, (∀ d ∈ ds, ndL d = true) → ndLA ds = true
  | [], _ => rfl
  | d :: ds, h => by simp [ndLA, h d List.mem_cons_self, ndLA_all fun e he => h e (List.mem_cons_of_mem _ he)]
theorem ndL_row (r : Row) : ndL (rowD r) = true := by
  unfold rowD
  simp [ndL, ndLA_ints]
theorem lookup_mem {α : Type} : ∀ {T : List (Str × α)} {t : Str × α}, (T.map (·.1)).Nodup → t ∈ T → T.lookup t.1 = some t.2
  | [], t, _, h => by cases h
  | (a, c) :: T, t, nd, h => by
    rw [List.map_cons, List.nodup_cons] at nd
    rcases List.mem_cons.mp h with rfl | h
    · simp [List.lookup]
    · have ne : (t.1 == a) = false := by
        have : t.1 ≠ a := fun z => nd.1 (List.mem_map.mpr ⟨t, h, z⟩)
        simpa using this
      simp only [List.lookup, ne]
      exact lookup_mem nd.2 h
theorem mem_lookup {α : Type} : ∀ {T : List (Str × α)} {n : Str} {x : α}, T.lookup n = some x → (n, x) ∈ T
  | [], _, _, h => by cases h
  | (a, c) :: T, n, x, h => by
    by_cases e : n = a
    · subst e
      have : c = x := by simpa [List.lookup] using h
      subst this
      exact List.mem_cons_self
    · have e' : (n == a) = false := by simpa using e
      exact List.mem_cons_of_mem _ (mem_lookup (by simpa [List.lookup, e'] using h))
theorem places_lt {cols : List Col} {t : Str} {i : Nat} (h : i ∈ placesOf cols t) : i < cols.length + 1 := by
  unfold placesOf at h
  obtain ⟨p, hp, rfl⟩ := List.mem_map.mp h
  have := List.mem_filter.mp hp
  obtain ⟨c, j⟩ := p
  have h1 := List.mem_zipIdx this.1
  simp at h1
  omega
end SP
namespace T3
open PySem L2 DV PM SP LK
abbrev s_Base_is_led_to : Stmt := inClass (topS 5) 9
abbrev N_Base_is_led_to : List Str := ["self", "table", "key", "other", "places", "row", "at", "name", "target"]
theorem sc_Base_is_led_to : FnScope N_Base_is_led_to ["self", "table", "key"] (defScope s_Base_is_led_to) := ⟨rfl, rfl, rfl, by decide +kernel, rfl, by decide +kernel, by decide +kernel⟩

section
variable {P : Program} {w : World} {K : PySem.W.Frag} {mg : Str → Option Value} {base : Heap} {C CB : Addr}
theorem ok_is_led_to {f fC : Addr} {fd fdC : FuncData} (F : Fun K "_is_led_to" "Base._is_led_to" s_Base_is_led_to f fd) (c : BaseCls K CB) (cs : SchCls K C) (cls_S : Cls K C) (M_columns : Meth K C "columns" fC) (G_columns : FnOk P w K mg base CX0 1 fC fdC ["self", "table"] (spM K (preCols C))) (B_columns : Binds K fdC ["self", "table"] []) (b_enumerate : mg "enumerate" = none) :
    FnOk P w K mg base CX0 2 f fd ["self", "table", "key"] (spM K (preIsLed CB C)) := by
  refine ok_body F sc_Base_is_led_to (fun rs Pl cs r cs' h => ?_) (fun X hX hr => ?_)
  · obtain ⟨T, R, n, k, rfl, _⟩ := h
    rfl
  obtain ⟨cdv, A, outer, s, H, E, rfl⟩ := hX
  have nd := sc_Base_is_led_to.nd
  refine ⟨_, (pss_cons (ps_for PassesOwn.never rfl (pi_tup (pe_fld (pe_fld (pv 0) rfl) rfl)) (pg_name (i := 3) nd (by rfl) (by first | exact .inl rfl | exact .inr rfl)) (pss_cons (ps_setLc (i := 4) (own := [("at", 6), ("name", 7), ("target", 8)]) (g := (gTup K 2 (gCons (gName 6) (gCons (gTup K 2 (gCons (gName 7) (gCons (gName 8) gNil))) gNil)))) (tt := (tTest (tOp (eqA K) (tVar 8) (tVar 1)))) (te := (tOp (addA K) (tVar 6) (tC (.int 1)))) rfl nd rfl rfl (sw_true rfl rfl rfl (by decide +kernel)) (ET.pi_enumT (by rfl) b_enumerate (pa_cons (pe_meth (pe_fld (pv 0) rfl) cls_S M_columns G_columns (hr.mono (by decide)) B_columns .nil pass0 (pa_cons (pv 3) pa_nil)) pa_nil)) (blkOk_by (N := N_Base_is_led_to) (sc := defScope s_Base_is_led_to) (by decide +kernel)) (by intro _ _ _ _ _; exact (pg_tup (by rfl) (by exact (pgs_cons (by exact (pg_name (i := 6) nd (by rfl) (by first | exact .inl rfl | exact .inr rfl))) (by exact (pgs_cons (by exact (pg_tup (by rfl) (by exact (pgs_cons (by exact (pg_name (i := 7) nd (by rfl) (by first | exact .inl rfl | exact .inr rfl))) (by exact (pgs_cons (by exact (pg_name (i := 8) nd (by rfl) (by first | exact .inl rfl | exact .inr rfl))) (by exact pgs_nil))))))) (by exact pgs_nil))))))) (by intro _ _ _ _ _; exact (pts_one (pt_cmpR (op_eqA hr.units) (pv 8) (pv 1) (nomark _)))) (by intro _ _ _ _ _; exact (pe_op op_addA (pv 6) pe_int)))
      (pss_one (ps_lock (ps_for PassesOwn.never rfl (pi_values (pe_dget (hu_of hr) (pe_fld (pv 0) rfl) (pv 3) (fun _ _ => rfl))) (pg_name (i := 5) nd (by rfl) (by first | exact .inl rfl | exact .inr rfl)) (pss_one (ps_if (pt_cmpR op_in_seq (pv 2) (pe_lc (own := [("at", 6)]) (g := (gName 6)) (tt := tYes) (te := (tOp (rIx K) (tVar 5) (tVar 6))) rfl nd (pi_list (pv 4)) (blkOk_by (N := N_Base_is_led_to) (sc := defScope s_Base_is_led_to) (by decide +kernel)) (by intro _ _ _ _ _; exact (pg_name (i := 6) nd (by rfl) (by first | exact .inl rfl | exact .inr rfl))) (by intro _ _ _ _ _; exact pts_nil) (by intro _ _ _ _ _; exact (pe_ix ix_seq (pv 5) (pv 6) (fun _ _ => rfl)))) (by rfl)) (pss_one (ps_ret pe_bl)) pss_nil)))))))
      (pss_one (ps_ret pe_bl))), ?_⟩
  intro rs Pl cl r cs' hp B0 H0 σ Dn st hP hd hn
  obtain ⟨T, R, n, k, rfl, hT, hR, hno, rfl, rfl, rfl, rfl⟩ := hp
  have hit : ∀ tab ∈ T, ∀ l, R.lookup tab.1 = some l → ∀ p ∈ l, k ∈ (placesOf tab.2 n).map (fun i => p.2.getD i 0) → isLed T R n k = true := fun tab ht l hl p hp hk => by
    unfold isLed
    rw [List.any_eq_true]
    refine ⟨tab, ht, ?_⟩
    rw [hl, Option.getD_some, List.any_eq_true]
    refine ⟨p, hp, ?_⟩
    rw [List.any_eq_true]
    obtain ⟨i, hi, e⟩ := List.mem_map.mp hk
    exact ⟨i, hi, by simpa using e⟩
  refine st_seq (st_for (α := Unit) st (wd_tup (ev_nt (ev_fld (ev_fld (ev_var rfl) c.cl c.n1 rfl) cs.cl cs.n1 rfl))) (fun i _ => ∀ tab ∈ T.take i, ∀ l, R.lookup tab.1 = some l → ∀ p ∈ l, ¬ k ∈ (placesOf tab.2 n).map (fun i => p.2.getD i 0))
    (fun _ _ => [.dat (baseD CB C T R), .dat (.str n), .dat (.int k), .any, .any, .any, .any, .any, .any]) (fun _ _ => []) () (by simp) ⟨.rfl _, .rfl _, .rfl _, .any _, .any _, .any _, .any _, .any _, .any _, True.intro⟩ rfl (fun B1 H1 s01 i d z hd' jz => ?_) (fun z σ' H' jz st' => ?_))
  · rw [List.getElem?_map] at hd'
    cases htab : T[i]? with
    | none => rw [htab] at hd'; cases hd'
    | some tab =>
    rw [htab] at hd'
    have ed : D.str tab.1 = d := Option.some.inj hd'
    subst ed
    have hmem : tab ∈ T := List.mem_of_getElem? htab
    have hcols : T.lookup tab.1 = some tab.2 := lookup_mem hT.2 hmem
    obtain ⟨l, hl⟩ : ∃ l, R.lookup tab.1 = some l := by
      have : tab.1 ∈ R.map (·.1) := by rw [hR.1]; exact List.mem_map.mpr ⟨tab, hmem, rfl⟩
      obtain ⟨t, ht, e⟩ := List.mem_map.mp this
      have nd' : (R.map (·.1)).Nodup := by rw [hR.1]; exact hT.2
      exact ⟨t.2, by rw [← e]; exact lookup_mem nd' ht⟩
    have hl1000 : tab.2.length ≤ 1000 := by have := (hT.1.2 tab hmem).2.1; omega
    refine ⟨_, _, g_name, fun σ2 H2 st2 => ?_⟩
    have ep : ((tab.2.zipIdx 0).filter fun p => decide (p.1.2 = some n)).map (fun p => D.int ((p.2 : Int) + 1)) = (placesOf tab.2 n).map fun (i : Nat) => D.int (i : Int) := by
      unfold placesOf
      rw [List.map_map]
      rfl
    have ee : enumD (tab.2.map encC) = (tab.2.zipIdx 0).map fun p => D.tup [.int (p.2 : Nat), encC p.1] := by
      unfold enumD
      rw [List.zipIdx_map, List.map_map]
      rfl
    refine st_seq (st_asg (cs1 := []) (i := 4) (r := .dat (.lst ((placesOf tab.2 n).map fun (i : Nat) => D.int (i : Int)))) st2 (ep ▸ EvF.ev (ef_filterE (l := tab.2.zipIdx 0) (enc := fun p => D.tup [.int (p.2 : Nat), encC p.1]) (ee ▸ wd_enumT (ea_cons (ev_meth1 (ev_fld (ev_var rfl) c.cl c.n1 rfl) rfl (ea_cons (ev_var rfl) ea_nil) ⟨T, tab.1, tab.2, rfl, hcols, rfl, rfl, rfl, rfl⟩) ea_nil)) _ _ (by rw [List.length_zipIdx]; omega) (fun p i x acc hx => ?_))) (fun σ3 H3 st3 => ?_))
    · obtain ⟨⟨nm, t⟩, j⟩ := x
      cases t with
      | none => exact ⟨_, _, g_tup (g_cons g_name (g_cons (g_tup (g_cons g_name (g_cons g_name g_nil))) g_nil)), by decide, et_test (ev_op (ev_var rfl) (ev_var rfl) (od_r (od_eq (b := decide ((none : Option Str) = some n)) 0 0 rfl (by simpa [D.sh] using hno) rfl rfl (by simp)))), fun _ => ev_op (ev_var rfl) ev_int od_addI⟩
      | some t => exact ⟨_, _, g_tup (g_cons g_name (g_cons (g_tup (g_cons g_name (g_cons g_name g_nil))) g_nil)), by decide, EvT.eq (et_test (ev_op (ev_var rfl) (ev_var rfl) od_eqS)) (by simp), fun _ => ev_op (ev_var rfl) ev_int od_addI⟩
    · dsimp only []
      have hd1 : Done K [] B1 H1 (.dat (.bl (isLed T R n k))) [] Dn.rt := hd.base s01
      refine st_lock (r := .dat (.bl (isLed T R n k))) (cs' := []) st3 (fun {_} => True.intro) (by simp) hd1 (fun B3 s3 o3 => ?_)
      obtain ⟨v0, hv0, rv0⟩ := o3.sl.get 0 (.dat (baseD CB C T R)) rfl (by intro z; cases z)
      obtain ⟨sa, dx, fvs, ta, kvo, a, kvi, e0, hs5, hl5, ht5, hval, ha5, rk, nsa, nta⟩ := path_in (show Rp K B3 v0 (baseD CB C T R) from rv0) hl
      refine ⟨a, kvi, ha5, fun od D' ok hnx hrt => ?_⟩
      have slv : Slots K B3 σ3 [.val v0, .dat (.str n), .dat (.int k), .dat (.str tab.1), .dat (.lst ((placesOf tab.2 n).map fun (i : Nat) => D.int (i : Int))), .any, .any, .any, .any] := slots_val o3.sl hv0
      have pl : ndL (.lst ((placesOf tab.2 n).map fun (i : Nat) => D.int (i : Int))) = true := by
        show ndLA _ = true
        exact ndLA_all fun d hd => by obtain ⟨i, _, rfl⟩ := List.mem_map.mp hd; rfl
      have okv : Okk K [] [.val v0, .dat (.str n), .dat (.int k), .dat (.str tab.1), .dat (.lst ((placesOf tab.2 n).map fun (i : Nat) => D.int (i : Int))), .any, .any, .any, .any] [] (upd B3 a (.frz od (.dK kvi))) (upd H3 a (.frz od (.dK kvi))) σ3 := by
        have q := okk_in (⟨o3.ex, slv, o3.mu⟩ : Okk K [] _ [] B3 H3 σ3) ha5 (by simp) (.frz od (.dK kvi))
        have e : ([.val v0, .dat (.str n), .dat (.int k), .dat (.str tab.1), .dat (.lst ((placesOf tab.2 n).map fun (i : Nat) => D.int (i : Int))), .any, .any, .any, .any] : List Sl).map low = [.val v0, .dat (.str n), .dat (.int k), .dat (.str tab.1), .dat (.lst ((placesOf tab.2 n).map fun (i : Nat) => D.int (i : Int))), .any, .any, .any, .any] := by
          have e1 : low (.dat (.lst ((placesOf tab.2 n).map fun (i : Nat) => D.int (i : Int)))) = .dat (.lst ((placesOf tab.2 n).map fun (i : Nat) => D.int (i : Int))) := if_pos pl
          simp only [List.map_cons, List.map_nil, e1]
          rfl
        rw [e] at q
        exact q
      have rkf : RpK K (upd B3 a (.frz od (.dK kvi))) kvi (l.map fun p => ((Sum.inl p.1 : Key), rowD p.2)) := (rpK_hide ha5 rk fun p hp => by obtain ⟨x, _, rfl⟩ := List.mem_map.mp hp; exact ndL_row _).mono off_upd
      have wkv := wk_vals (od := od) (upd_same (H := B3)) rkf
      have ev : (l.map fun p => ((Sum.inl p.1 : Key), rowD p.2)).map (·.2) = l.map fun p => rowD p.2 := by rw [List.map_map]; rfl
      rw [ev] at wkv
      refine st_forP (α := Unit) (Stp.refl [] _ _) okv (ds := l.map fun p => rowD p.2) (cs1 := []) (fun Rr q => ?_) (fun i _ => ∀ p ∈ l.take i, ¬ k ∈ (placesOf tab.2 n).map (fun i => p.2.getD i 0))
        (fun _ _ => [.val v0, .dat (.str n), .dat (.int k), .dat (.str tab.1), .dat (.lst ((placesOf tab.2 n).map fun (i : Nat) => D.int (i : Int))), .any, .any, .any, .any]) (fun _ _ => []) () (by simp) ⟨.rfl _, .rfl _, .rfl _, .rfl _, .rfl _, .any _, .any _, .any _, .any _, True.intro⟩ rfl (fun B4 H4 s04 i4 d4 z4 hd4 jz4 => ?_) (fun z5 σ5 H5 jz5 st5 => ?_)
      · have h0 : σ3[0]? = some (some (.ref sa)) := by rw [hv0, e0]
        obtain ⟨v3, hv3, rv3⟩ := o3.sl.get 3 (.dat (.str tab.1)) rfl (by intro z; cases z)
        have ev3 : v3 = .str tab.1 := by
          cases (show Rp K B3 v3 (.str tab.1) from rv3)
          rfl
        subst ev3
        refine ⟨.ref sa, h0, sa, CB, dx, fvs, .ref ta, rfl, by rw [upd_ne nsa]; exact o3.ex _ _ hs5, c.cl, c.n2, hl5, .str tab.1, hv3, ta, .ref a, rfl, .inl ⟨kvo, .inr tab.1, .inl (by rw [upd_ne nta]; exact o3.ex _ _ ht5), rfl, hval.symm⟩, a, od, kvi, rfl, upd_same, q _ _ _ (Stp.refl _ _ _) okv wkv⟩
      · rw [List.getElem?_map] at hd4
        cases hp4 : l[i4]? with
        | none => rw [hp4] at hd4; cases hd4
        | some p =>
        rw [hp4] at hd4
        have ed : rowD p.2 = d4 := Option.some.inj hd4
        subst ed
        have hpl : p ∈ l := List.mem_of_getElem? hp4
        have hlen : p.2.length = tab.2.length + 1 := by
          have hr1 : (tab.1, l) ∈ R := mem_lookup hl
          exact (hR.2.2 _ hr1 p hpl).2 tab.2 hcols
        refine ⟨_, _, g_name, fun σ6 H6 st6 => ?_⟩
        have hget : ∀ x ∈ placesOf tab.2 n, (p.2.map D.int)[x]? = some (D.int (p.2.getD x 0)) := fun x hx => by
          have hx' : x < p.2.length := by have := places_lt hx; omega
          rw [List.getElem?_map, List.getElem?_eq_getElem hx', List.getD_eq_getElem?_getD, List.getElem?_eq_getElem hx']
          rfl
        have en : ((placesOf tab.2 n).map fun i => p.2.getD i 0).map D.int = (placesOf tab.2 n).map fun i => D.int (p.2.getD i 0) := by rw [List.map_map]; rfl
        refine st_if (b := decide (k ∈ (placesOf tab.2 n).map (fun i => p.2.getD i 0))) st6 (et_test (ev_op (ev_var rfl) (en ▸ EvF.ev (ef_mapE (l := placesOf tab.2 n) (enc := fun (i : Nat) => D.int (i : Int)) (wd_lst (ev_var (i := 4) rfl)) (fun i => D.int (p.2.getD i 0)) (by unfold placesOf; rw [List.length_map]; have h1 := List.length_filter_le (fun p => decide (p.1.2 = some n)) (tab.2.zipIdx 0); rw [List.length_zipIdx] at h1; omega) (fun pp i x acc hx => ⟨_, _, g_name, by decide, ev_op (ev_var rfl) (ev_var rfl) (od_ixT (atI_nat (hget x (List.mem_of_getElem? hx))))⟩))) od_inI)) (fun hb H7 st7 => ?_) (fun hb H7 st7 => ?_)
        · have ht := hit tab hmem l hl p hpl (of_decide_eq_true hb)
          rw [ht] at hrt
          exact st_ret st7 ev_bl (hrt.base s04)
        · refine ⟨(), fun q hq => ?_, st7.le ⟨.rfl _, .rfl _, .rfl _, .rfl _, .rfl _, .any _, .any _, .any _, .any _, True.intro⟩⟩
          rw [List.take_add_one, hp4] at hq
          rcases List.mem_append.mp hq with hq | hq
          · exact jz4 q hq
          · have : q = p := by simpa using hq
            subst this
            exact of_decide_eq_false hb
      · refine hnx _ _ σ5 H5 st5 fun B6 H6 s6 o6 eB => ?_
        refine ⟨(), fun t ht l' hl' => ?_, B6, s6, o6.ex, (slots_dat (i := 0) (v := v0) (d := baseD CB C T R) o6.sl rfl (rv0.mono eB)).le ⟨.rfl _, .rfl _, .rfl _, .any _, .any _, .any _, .any _, .any _, .any _, True.intro⟩, o6.mu⟩
        rw [List.take_add_one, htab] at ht
        rcases List.mem_append.mp ht with ht | ht
        · exact jz t ht l' hl'
        · have : t = tab := by simpa using ht
          subst this
          rw [hl] at hl'
          cases hl'
          rw [List.length_map, List.take_length] at jz5
          exact jz5
  · refine st_next ?_
    rw [List.length_map, List.take_length] at jz
    have ef : isLed T R n k = false := by
      unfold isLed
      rw [List.any_eq_false]
      intro tab ht hc
      cases hl : R.lookup tab.1 with
      | none => rw [hl] at hc; simp at hc
      | some l =>
        rw [hl, Option.getD_some, List.any_eq_true] at hc
        obtain ⟨p, hp, h2⟩ := hc
        rw [List.any_eq_true] at h2
        obtain ⟨i, hi, h3⟩ := h2
        exact jz tab ht l hl p hp (List.mem_map.mpr ⟨i, hi, of_decide_eq_true h3⟩)
    rw [ef] at hd
    exact st_ret st' ev_bl hd
end
end T3
namespace SP
open PySem L2 DV PM LK
variable {K : PySem.W.Frag}
theorem sh_opt (o : Option Row) : D.sh 1 (optD o) = true := by
  cases o with
  | none => rfl
  | some r =>
    show D.shA 0 (r.map D.int) = true
    exact D.shA_all fun d hd => by obtain ⟨i, _, rfl⟩ := List.mem_map.mp hd; rfl
theorem nb_opt (o : Option Row) : D.nb (optD o) = true := by
  cases o with
  | none => rfl
  | some r =>
    show D.nbA (r.map D.int) = true
    exact D.nbA_all fun d hd => by obtain ⟨i, _, rfl⟩ := List.mem_map.mp hd; rfl
theorem ints_inj : ∀ {a b : List Int}, a.map D.int = b.map D.int → a = b
  | [], [], _ => rfl
  | [], _ :: _, h => by cases h
  | _ :: _, [], h => by cases h
  | a :: as, b :: bs, h => by
    rw [List.map_cons, List.map_cons] at h
    injection h with h1 h2
    injection h1 with h1
    rw [h1, ints_inj h2]
theorem opt_inj {a b : Option Row} : optD a = optD b ↔ a = b := by
  constructor
  · intro h
    cases a with
    | none => cases b with
      | none => rfl
      | some b => cases h
    | some a => cases b with
      | none => cases h
      | some b =>
        have : D.tup (a.map D.int) = D.tup (b.map D.int) := h
        injection this with h1
        rw [ints_inj h1]
  · intro h; rw [h]
end SP
namespace T3
open PySem L2 DV PM SP LK
abbrev s_Base_allows : Stmt := inClass (topS 5) 8
abbrev N_Base_allows : List Str := ["self", "table", "old", "new", "key", "led", "target", "place"]
theorem sc_Base_allows : FnScope N_Base_allows ["self", "table", "old", "new"] (defScope s_Base_allows) := ⟨rfl, rfl, rfl, by decide +kernel, rfl, by decide +kernel, by decide +kernel⟩

section
variable {P : Program} {w : World} {K : PySem.W.Frag} {mg : Str → Option Value} {base : Heap} {C CB : Addr}
theorem ok_allows {f fR fI fL : Addr} {fd fdR fdI fdL : FuncData} (F : Fun K "_allows" "Base._allows" s_Base_allows f fd) (c : BaseCls K CB) (cls_B : Cls K CB) (M_row_at : Meth K CB "row_at" fR) (G_row_at : FnOk P w K mg base CX0 1 fR fdR ["self", "table", "key"] (spM K (preRowAt CB C))) (B_row_at : Binds K fdR ["self", "table", "key"] [])
    (M__is_led_to : Meth K CB "_is_led_to" fI) (G__is_led_to : FnOk P w K mg base CX0 2 fI fdI ["self", "table", "key"] (spM K (preIsLed CB C))) (B__is_led_to : Binds K fdI ["self", "table", "key"] []) (G_led_to : Def P w K mg base 2 "led_to" fL fdL ["schema", "table", "row"] (spM K (preLed C))) (b_all : mg "all" = none) :
    FnOk P w K mg base CX0 3 f fd ["self", "table", "old", "new"] (spM K (preAllows CB C)) := by
  refine ok_body F sc_Base_allows (fun rs Pl cs r cs' h => ?_) (fun X hX hr => ?_)
  · obtain ⟨T, R, n, cols, old, new, rfl, _⟩ := h
    rfl
  obtain ⟨cdv, A, outer, s, H, E, rfl⟩ := hX
  have nd := sc_Base_allows.nd
  refine ⟨_, (pss_cons (ps_set (i := 4) nd rfl (.inl rfl) (pe_ifExp (pt_cmpR op_isN' (pv 2) pe_non (nomark _)) (pe_ix ix_seq (pv 3) pe_int (fun _ _ => rfl)) (pe_ix ix_seq (pv 2) pe_int (fun _ _ => rfl))))
      (pss_cons (ps_if (pt_cmpR (op_neA hr.units) (pe_meth (pv 0) cls_B M_row_at G_row_at (hr.mono (by decide)) B_row_at .nil pass0 (pa_cons (pv 1) (pa_cons (pv 4) pa_nil))) (pv 2) (nomark _)) (pss_one (ps_ret pe_bl)) pss_nil)
      (pss_cons (ps_if (pt_cmpR op_isN' (pv 3) pe_non (nomark _)) (pss_one (ps_ret (pe_not (pe_meth (pv 0) cls_B M__is_led_to G__is_led_to (hr.mono (by decide)) B__is_led_to .nil pass0 (pa_cons (pv 1) (pa_cons (pv 4) pa_nil)))))) pss_nil)
      (pss_cons (ps_set (i := 5) nd rfl (.inl rfl) (pe_def G_led_to hr (by decide) (by rfl) (pa_cons (pe_fld (pv 0) rfl) (pa_cons (pv 1) (pa_cons (pv 3) pa_nil)))))
      (pss_one (ps_ret (pe_callB (cr_all rfl) (by rfl) b_all (by decide +kernel) (pa_cons (pe_lc (own := [("target", 6), ("place", 7)]) (g := (gTup K 2 (gCons (gName 6) (gCons (gName 7) gNil)))) (tt := tYes) (te := (tOp rNotN _ (tC .non))) rfl nd (pi_list (pv 5)) (blkOk_by (N := N_Base_allows) (sc := defScope s_Base_allows) (by decide +kernel)) (by intro _ _ _ _ _; exact (pg_tup (by rfl) (by exact (pgs_cons (by exact (pg_name (i := 6) nd (by rfl) (by first | exact .inl rfl | exact .inr rfl))) (by exact (pgs_cons (by exact (pg_name (i := 7) nd (by rfl) (by first | exact .inl rfl | exact .inr rfl))) (by exact pgs_nil))))))) (by intro _ _ _ _ _; exact pts_nil) (by intro _ _ _ _ _; exact (pe_cmpR op_notN' (pe_meth (pv 0) cls_B M_row_at G_row_at (hr.mono (by decide)) B_row_at .nil pass0 (pa_cons (pv 6) (pa_cons (pv 7) pa_nil))) pe_non (nomark _)))) pa_nil)))))))), ?_⟩
  intro rs Pl cl r cs' hp B0 H0 σ Dn st hP hd hn
  obtain ⟨T, R, n, cols, old, new, rfl, hT, hX, hR, hcols, hch, rfl, rfl, rfl, rfl⟩ := hp
  have nd' : (R.map (·.1)).Nodup := by rw [hR.1]; exact hT.2
  have hget : ∀ m, m ∈ T.map (·.1) → ∃ l, R.lookup m = some l := fun m hm => by
    rw [← hR.1] at hm
    obtain ⟨t, ht, e⟩ := List.mem_map.mp hm
    exact ⟨t.2, by rw [← e]; exact lookup_mem nd' ht⟩
  have hnT : n ∈ T.map (·.1) := List.mem_map.mpr ⟨(n, cols), mem_lookup hcols, rfl⟩
  obtain ⟨l, hl⟩ := hget n hnT
  have hg : getR R n (keyOf old new) = l.lookup (keyOf old new) := by unfold getR; rw [hl]; rfl
  refine st_seq (st_asg (cs1 := []) (i := 4) (r := .dat (.int (keyOf old new))) st (ev_if (b := (optD old).isN) (et_test (ev_op (ev_var (i := 2) (r := .dat (optD old)) rfl) ev_non od_isN)) (fun hb => ?_) (fun hb => ?_)) (fun σ1 H1 st1 => ?_))
  · cases old with
    | some o => cases hb
    | none => cases new with
      | none => rcases hch.1 with h | h <;> cases h
      | some nw => cases nw with
        | nil => exact absurd rfl (hch.2.2 _ rfl)
        | cons a t => exact ev_op (ev_var (i := 3) (r := .dat (.tup (D.int a :: t.map D.int))) rfl) (ev_int (i := 0)) (od_ixT (d := .int a) (atI_nat (xs := D.int a :: t.map D.int) (j := 0) rfl))
  · cases old with
    | none => cases hb
    | some o => cases o with
      | nil => exact absurd rfl (hch.2.1 _ rfl)
      | cons a t => exact ev_op (ev_var (i := 2) (r := .dat (.tup (D.int a :: t.map D.int))) rfl) (ev_int (i := 0)) (od_ixT (d := .int a) (atI_nat (xs := D.int a :: t.map D.int) (j := 0) rfl))
  dsimp only []
  generalize hk : keyOf old new = key at st1 hg
  have hall : allowsB T R n cols old new = (decide (l.lookup key = old) && tailB T R n cols key new) := by
    unfold allowsB
    rw [hk, hg]
  have hst1 : Sta K [] B0 H0 [.dat (baseD CB C T R), .dat (.str n), .dat (optD old), .dat (optD new), .dat (.int key), .any, .any, .any] [] σ1 H1 := st1
  refine st_seq (st_if (cs1 := []) (b := !decide (l.lookup key = old)) hst1 (et_test (ev_op (ev_meth1 (ev_var (i := 0) rfl) rfl (ea_cons (ev_var (i := 1) rfl) (ea_cons (ev_var (i := 4) rfl) ea_nil)) ⟨T, R, n, l, key, rfl, hl, rfl, rfl, rfl, rfl⟩) (ev_var (i := 2) (r := .dat (optD old)) rfl) (od_r (od_ne 1 1 (sh_opt _) (sh_opt _) (nb_opt _) (nb_opt _) (by simp [opt_inj]))))) (fun hb H2 st2 => ?_) (fun hb H2 st2 => ?_))
  · have e : allowsB T R n cols old new = false := by
      rw [hall]
      have : decide (l.lookup key = old) = false := by simpa using hb
      rw [this, Bool.false_and]
    rw [e] at hd
    exact st_ret st2 ev_bl hd
  have hb' : decide (l.lookup key = old) = true := by simpa using hb
  rw [hall, hb', Bool.true_and] at hd
  refine st_ns ?_
  refine st_seq (st_if (cs1 := []) (b := (optD new).isN) st2 (et_test (ev_op (ev_var (i := 3) (r := .dat (optD new)) rfl) ev_non od_isN)) (fun hb2 H3 st3 => ?_) (fun hb2 H3 st3 => ?_))
  · cases new with
    | some nw => cases hb2
    | none => exact st_ret st3 (ev_notV (ev_meth1 (ev_var (i := 0) rfl) rfl (ea_cons (ev_var (i := 1) rfl) (ea_cons (ev_var (i := 4) rfl) ea_nil)) ⟨T, R, n, key, rfl, hT, hR, (hT.1.2 (n, cols) (mem_lookup hcols)).1.2.2.2, rfl, rfl, rfl, rfl⟩)) hd
  cases new with
  | none => cases hb2
  | some nw =>
  refine st_ns ?_
  have hc1000 : cols.length ≤ 1000 := by
    have h2 : cols.length ≤ 4 := (hT.1.2 (n, cols) (mem_lookup hcols)).2.1
    omega
  refine st_seq (st_asg (cs1 := []) (i := 5) (r := .dat (.lst ((ledOf cols nw).map fun p => D.tup [.str p.1, .int p.2]))) st3 (ev_call0 (ea_cons (ev_fld (ev_var (i := 0) rfl) c.cl c.n1 rfl) (ea_cons (ev_var (i := 1) rfl) (ea_cons (ev_var (i := 3) (r := .dat (rowD nw)) rfl) ea_nil))) ⟨T, n, cols, nw, rfl, hcols, hc1000, rfl, rfl, rfl, rfl⟩) (fun σ4 H4 st4 => ?_))
  dsimp only []
  have hll : (ledOf cols nw).length ≤ 1000 := by
    unfold ledOf
    have h1 := List.length_filterMap_le (fun (p : Col × Int) => p.1.2.map fun t => (t, p.2)) (List.zip cols nw.tail)
    rw [List.length_zip] at h1
    omega
  have e5 : ((ledOf cols nw).all fun p => (getR R p.1 p.2).isSome) = (((ledOf cols nw).map fun p => (getR R p.1 p.2).isSome).all id) := by rw [List.all_map]; rfl
  have e7 : tailB T R n cols key (some nw) = (((ledOf cols nw).map fun p => (getR R p.1 p.2).isSome).all id) := e5
  rw [e7] at hd
  have hled : ∀ p ∈ ledOf cols nw, ∃ l', R.lookup p.1 = some l' := fun p hp => by
    unfold ledOf at hp
    obtain ⟨⟨cc, v⟩, hz, hm⟩ := List.mem_filterMap.mp hp
    obtain ⟨nm, t⟩ := cc
    cases t with
    | none => cases hm
    | some t =>
      have e : (t, v) = p := Option.some.inj hm
      subst e
      exact hget t (hX (n, cols) (mem_lookup hcols) (nm, some t) (List.of_mem_zip hz).1 t rfl)
  refine st_ret st4 (ev_cb (ea_cons (EvF.ev (?_ : EvF _ _ _ _ _ (((ledOf cols nw).map fun p => (getR R p.1 p.2).isSome).map D.bl) _)) ea_nil) cb_all) hd
  rw [List.map_map]
  refine ef_mapE (l := ledOf cols nw) (enc := fun p => D.tup [.str p.1, .int p.2]) (wd_lst (ev_var (i := 5) rfl)) _ (by omega) (fun p i x acc hx => ?_)
  obtain ⟨l', hl'⟩ := hled x (List.mem_of_getElem? hx)
  have e6 : D.bl (getR R x.1 x.2).isSome = D.bl (!(optD (l'.lookup x.2)).isN) := by
    unfold getR
    rw [hl', Option.getD_some]
    cases l'.lookup x.2 <;> rfl
  refine ⟨_, _, g_tup (g_cons g_name (g_cons g_name g_nil)), by decide, ?_⟩
  show Ev _ _ _ _ _ (.dat (D.bl (getR R x.1 x.2).isSome)) _
  rw [e6]
  exact ev_op (ev_meth1 (ev_var rfl) rfl (ea_cons (ev_var rfl) (ea_cons (ev_var rfl) ea_nil)) ⟨T, R, x.1, l', x.2, rfl, hl', rfl, rfl, rfl, rfl⟩) ev_non od_notN
end
end T3
/-! TB: the rows of tables, held as dicts that may change. -/
namespace SP
open PySem L2 DV PM QD RG
variable {K : PySem.W.Frag}
theorem rpK_app {B : Hp} : ∀ {vs ws : List (Key × V)} {ds es : List (Key × D)}, RpK K B vs ds → RpK K B ws es → RpK K B (vs ++ ws) (ds ++ es)
  | _, _, _, _, .nil, s => s
  | _, _, _, _, .cons h r, s => .cons h (rpK_app r s)
theorem any_in {B : Hp} {kvs : List (Key × V)} {l : List (Int × Row)} {i : Int} (h : RpK K B kvs (inKs l)) : (kvs.any fun kv => decide (kv.1 = (Sum.inl i : Key))) = l.any fun p => decide (p.1 = i) := by
  have e := valV_any (Sum.inl i : Key) kvs
  rw [e, some_keys h, valD_inE]
  clear e h
  induction l with
  | nil => rfl
  | cons t l ih =>
    obtain ⟨a, c⟩ := t
    by_cases e : i = a
    · subst e; simp [List.lookup]
    · have e' : (i == a) = false := by simpa using e
      have e2 : decide (a = i) = false := by simpa using fun z => e z.symm
      simp only [List.lookup, e', List.any_cons, e2, Bool.false_or]
      exact ih
theorem rpK_repl {B : Hp} {v : V} {r : Row} {i : Int} (hv : Rp K B v (rowD r)) : ∀ {kvs : List (Key × V)} {l : List (Int × Row)}, RpK K B kvs (inKs l) →
    RpK K B (kvs.map fun kv => if kv.1 = (Sum.inl i : Key) then (kv.1, v) else kv) (inKs (l.map fun p => if p.1 = i then (p.1, r) else p))
  | _, [], h => by
    have : RpK K B _ [] := h
    cases this
    exact .nil
  | _, (a, c) :: l, h => by
    have g : RpK K B _ (((Sum.inl a : Key), rowD c) :: inKs l) := h
    cases g with
    | cons h1 h2 =>
      rw [List.map_cons, List.map_cons]
      by_cases e : a = i
      · subst e
        rw [if_pos rfl, if_pos rfl]
        exact .cons hv (rpK_repl hv h2)
      · rw [if_neg (fun z => e (Sum.inl.inj z)), if_neg e]
        exact .cons h1 (rpK_repl hv h2)
theorem rpK_put {B : Hp} {v : V} {r : Row} {i : Int} {kvs : List (Key × V)} {l : List (Int × Row)} (h : RpK K B kvs (inKs l)) (hv : Rp K B v (rowD r)) : RpK K B (putK kvs (.inl i) v) (inKs (putL l i r)) := by
  unfold putK putL
  rw [any_in h]
  by_cases e : (l.any fun p => decide (p.1 = i)) = true
  · rw [if_pos e, if_pos e]; exact rpK_repl hv h
  · rw [if_neg e, if_neg e]
    have : inKs (l ++ [(i, r)]) = inKs l ++ [((Sum.inl i : Key), rowD r)] := by simp [inKs]
    rw [this]
    exact rpK_app h (.cons hv .nil)
theorem rpK_del {B : Hp} {i : Int} : ∀ {kvs : List (Key × V)} {l : List (Int × Row)}, RpK K B kvs (inKs l) → RpK K B (dropK kvs (.inl i)) (inKs (delL l i))
  | _, [], h => by
    have : RpK K B _ [] := h
    cases this
    exact .nil
  | _, (a, c) :: l, h => by
    have g : RpK K B _ (((Sum.inl a : Key), rowD c) :: inKs l) := h
    cases g with
    | @cons _ v _ vs _ h1 h2 =>
      have ih := rpK_del (i := i) h2
      unfold dropK delL at ih ⊢
      by_cases e : a = i
      · subst e
        rw [List.filter_cons_of_neg (by simp), List.filter_cons_of_neg (by simp)]
        exact ih
      · rw [List.filter_cons_of_pos (by simpa using e), List.filter_cons_of_pos (by simpa using e)]
        exact .cons h1 ih
/-- a dict of tables at t, the dicts of their rows at as -/
structure Tabs (K : PySem.W.Frag) (B H : Hp) (t : Addr) (as : List Addr) (R : Rs) : Prop where
  len : as.length = R.length
  top : H t = some (.dK (List.zipWith (fun r a => ((Sum.inr r.1 : Key), V.ref a)) R as))
  inn : ∀ (i : Nat) (a : Addr) (r : Str × List (Int × Row)), as[i]? = some a → R[i]? = some r → ∃ vs, H a = some (.dK vs) ∧ RpK K B vs (inKs r.2)
  nd : (t :: as).Nodup
  no : ∀ a ∈ t :: as, B a = none
theorem Tabs.has {B H : Hp} {t : Addr} {as : List Addr} {R : Rs} (h : Tabs K B H t as R) : ∀ a ∈ t :: as, ∃ kvs, H a = some (.dK kvs) := fun a ha => by
  rcases List.mem_cons.mp ha with rfl | ha
  · exact ⟨_, h.top⟩
  · obtain ⟨i, hi, e⟩ := List.getElem_of_mem ha
    have hR : i < R.length := by rw [← h.len]; exact hi
    obtain ⟨vs, h1, _⟩ := h.inn i a R[i] (by rw [List.getElem?_eq_getElem hi, e]) (List.getElem?_eq_getElem hR)
    exact ⟨vs, h1⟩
theorem Tabs.step {P : List Addr} {B H B' H' : Hp} {t : Addr} {as : List Addr} {R : Rs} (h : Tabs K B H t as R) (s : Stp P B H B' H') (hP : ∀ a ∈ t :: as, a ∉ P) : Tabs K B' H' t as R where
  len := h.len
  top := s.fr _ _ (hP t List.mem_cons_self) h.top
  inn i a r ha hr := by
    obtain ⟨vs, h1, h2⟩ := h.inn i a r ha hr
    exact ⟨vs, s.fr _ _ (hP a (List.mem_cons_of_mem _ (List.mem_of_getElem? ha))) h1, RpK.mono s.ex h2⟩
  nd := h.nd
  no a ha := by
    obtain ⟨kvs, hk⟩ := h.has a ha
    rw [s.nb a _ hk]
    exact h.no a ha
theorem nodup_at {α : Type} {l : List α} (nd : l.Nodup) {i j : Nat} (hi : i < l.length) (hj : j < l.length) (e : l[i] = l[j]) : i = j := by
  rcases Nat.lt_trichotomy i j with h | h | h
  · exact absurd e (List.pairwise_iff_getElem.mp nd i j hi hj h)
  · exact h
  · exact absurd e.symm (List.pairwise_iff_getElem.mp nd j i hj hi h)
/-- the rows of one table change -/
theorem Tabs.write {B H : Hp} {t : Addr} {as : List Addr} {R : Rs} (h : Tabs K B H t as R) {i : Nat} {a : Addr} {n : Str} {l l' : List (Int × Row)} {vs' : List (Key × V)} (ha : as[i]? = some a) (hr : R[i]? = some (n, l)) (r' : RpK K B vs' (inKs l')) :
    Tabs K B (upd H a (.dK vs')) t as (R.set i (n, l')) where
  len := by rw [List.length_set]; exact h.len
  top := by
    have ne : t ≠ a := fun z => (List.nodup_cons.mp h.nd).1 (z ▸ List.mem_of_getElem? ha)
    rw [upd_ne ne, h.top]
    congr 2
    apply List.ext_getElem?
    intro j
    rw [List.getElem?_zipWith, List.getElem?_zipWith, List.getElem?_set]
    by_cases e : i = j
    · subst e
      rw [if_pos rfl, if_pos (List.getElem?_eq_some_iff.mp hr).1, hr]
      cases as[i]? <;> rfl
    · rw [if_neg e]
  inn j b r hb hrj := by
    rw [List.getElem?_set] at hrj
    by_cases e : i = j
    · subst e
      rw [if_pos rfl, if_pos (List.getElem?_eq_some_iff.mp hr).1] at hrj
      cases hrj
      rw [ha] at hb
      cases hb
      exact ⟨vs', upd_same, r'⟩
    · rw [if_neg e] at hrj
      obtain ⟨vs, h1, h2⟩ := h.inn j b r hb hrj
      refine ⟨vs, ?_, h2⟩
      rw [upd_ne fun z => ?_]
      · exact h1
      · subst z
        obtain ⟨i1, g1⟩ := List.getElem?_eq_some_iff.mp ha
        obtain ⟨i2, g2⟩ := List.getElem?_eq_some_iff.mp hb
        exact e (nodup_at (List.nodup_cons.mp h.nd).2 i1 i2 (g1.trans g2.symm))
  nd := h.nd
  no := h.no
/-! the tables told to the base while an expression reads them -/
def cellsOf (H : Hp) (S : List Addr) : Cells := S.filterMap fun a => (H a).map fun o => (a, o)
theorem cells_mem {H : Hp} {S : List Addr} {p : Addr × HO} : p ∈ cellsOf H S ↔ p.1 ∈ S ∧ H p.1 = some p.2 := by
  unfold cellsOf
  rw [List.mem_filterMap]
  constructor
  · rintro ⟨a, ha, e⟩
    cases ho : H a with
    | none => rw [ho] at e; cases e
    | some o =>
      rw [ho] at e
      have e' : (a, o) = p := Option.some.inj e
      subst e'
      exact ⟨ha, ho⟩
  · rintro ⟨h1, h2⟩
    exact ⟨p.1, h1, by rw [h2]; rfl⟩
theorem held_of {B H : Hp} {S : List Addr} (no : ∀ a ∈ S, B a = none) : Held B H (cellsOf H S) := ⟨fun p hp => (cells_mem.mp hp).2, fun p hp => no _ (cells_mem.mp hp).1⟩
theorem Tabs.pub {B H : Hp} {t : Addr} {as : List Addr} {R : Rs} (h : Tabs K B H t as R) {S : List Addr} (hS : ∀ a ∈ t :: as, a ∈ S) (no : ∀ a ∈ S, B a = none) : Rp K (RG.pub B (cellsOf H S)) (.ref t) (tabD R) := by
  have hh := held_of (B := B) (H := H) no
  have at' : ∀ a ∈ t :: as, ∀ o, H a = some o → RG.pub B (cellsOf H S) a = some o := fun a ha o ho => pub_mem hh (p := (a, o)) (cells_mem.mpr ⟨hS a ha, ho⟩)
  have eB := RG.pub_ex hh.no
  unfold tabD
  refine .dic (at' t List.mem_cons_self _ h.top) ?_
  have gen : ∀ (R : Rs) (bs : List Addr), bs.length = R.length → (∀ (i : Nat) (a : Addr) (r : Str × List (Int × Row)), bs[i]? = some a → R[i]? = some r → a ∈ t :: as ∧ ∃ vs, H a = some (.dK vs) ∧ RpK K B vs (inKs r.2)) →
      RpK K (RG.pub B (cellsOf H S)) (List.zipWith (fun r a => ((Sum.inr r.1 : Key), V.ref a)) R bs) (R.map fun t => ((Sum.inr t.1 : Key), inD t.2)) := by
    intro R
    induction R with
    | nil => intro bs _ _; exact .nil
    | cons r R ih =>
      intro bs hl hin
      cases bs with
      | nil => cases hl
      | cons b bs =>
        obtain ⟨hm, vs, h1, h2⟩ := hin 0 b r rfl rfl
        refine .cons (.dic (at' b hm _ h1) (RpK.mono eB h2)) (ih bs (by simpa using hl) fun i a r' ha hr => hin (i + 1) a r' (by simpa using ha) (by simpa using hr))
  exact gen R as h.len fun i a r ha hr => ⟨List.mem_cons_of_mem _ (List.mem_of_getElem? ha), h.inn i a r ha hr⟩
/-- a base that may change: its object, its tables -/
structure BaseAt (K : PySem.W.Frag) (B H : Hp) (p dx t : Addr) (as : List Addr) (CB C : Addr) (v0 : V) (T : List Tab) (R : Rs) : Prop where
  obj : H p = some (.ins CB dx [("schema", v0), ("_tables", .ref t)])
  nop : B p = none
  out : p ∉ t :: as
  tabs : Tabs K B H t as R
  sch : Rp K B v0 (schD C T)
theorem BaseAt.step {P : List Addr} {B H B' H' : Hp} {p dx t : Addr} {as : List Addr} {CB C : Addr} {v0 : V} {T : List Tab} {R : Rs} (h : BaseAt K B H p dx t as CB C v0 T R) (s : Stp P B H B' H') (hP : ∀ a ∈ p :: t :: as, a ∉ P) : BaseAt K B' H' p dx t as CB C v0 T R where
  obj := s.fr _ _ (hP p List.mem_cons_self) h.obj
  nop := by rw [s.nb _ _ h.obj]; exact h.nop
  out := h.out
  tabs := h.tabs.step s fun a ha => hP a (List.mem_cons_of_mem _ ha)
  sch := h.sch.mono s.ex
theorem BaseAt.no {B H : Hp} {p dx t : Addr} {as : List Addr} {CB C : Addr} {v0 : V} {T : List Tab} {R : Rs} (h : BaseAt K B H p dx t as CB C v0 T R) : ∀ a ∈ p :: t :: as, B a = none := fun a ha => by
  rcases List.mem_cons.mp ha with rfl | ha
  · exact h.nop
  · exact h.tabs.no a ha
theorem BaseAt.pub {B H : Hp} {p dx t : Addr} {as : List Addr} {CB C : Addr} {v0 : V} {T : List Tab} {R : Rs} (h : BaseAt K B H p dx t as CB C v0 T R) : Rp K (RG.pub B (cellsOf H (p :: t :: as))) (.ref p) (baseD CB C T R) := by
  have hh := held_of (B := B) (H := H) h.no
  unfold baseD
  refine .obj (pub_mem hh (p := (p, _)) (cells_mem.mpr ⟨List.mem_cons_self, h.obj⟩)) (.cons (h.sch.mono (RG.pub_ex hh.no)) (.cons (h.tabs.pub (fun a ha => List.mem_cons_of_mem _ ha) h.no) .nil))
theorem BaseAt.notTup {B H : Hp} {p dx t : Addr} {as : List Addr} {CB C : Addr} {v0 : V} {T : List Tab} {R : Rs} (h : BaseAt K B H p dx t as CB C v0 T R) : ∀ q ∈ cellsOf H (p :: t :: as), notTup q.2 := fun q hq => by
  obtain ⟨h1, h2⟩ := cells_mem.mp hq
  rcases List.mem_cons.mp h1 with e | h1
  · rw [e, h.obj] at h2
    injection h2 with h2
    rw [← h2]
    exact ⟨fun xs z => (by cases z), fun u xs z => (by cases z)⟩
  · obtain ⟨kvs, hk⟩ := h.tabs.has _ h1
    rw [hk] at h2
    injection h2 with h2
    rw [← h2]
    exact ⟨fun xs z => (by cases z), fun u xs z => (by cases z)⟩
/-- an expression that reads a base that may change, as data -/
theorem BaseAt.read {P : List Addr} {B H : Hp} {p dx t : Addr} {as : List Addr} {CB C : Addr} {v0 : V} {T : List Tab} {R : Rs} {ss : List Sl} {cs cs1 : List (List D)} {σ : L2.St} {te : TE} {d : D} {i : Nat} (h : BaseAt K B H p dx t as CB C v0 T R) (o : Okk K P ss cs B H σ) (hP : ∀ a ∈ p :: t :: as, a ∉ P) (hc : ∀ c ∈ cs1, ndA c = true) (hi : ss[i]? = some (.val (.ref p)))
    (he : Ev K P (ss.set i (.dat (baseD CB C T R))) cs te (.dat d) cs1) (hd : nd d = true) {Q : VK} (q : ∀ v B' H', Stp P B H B' H' → Okk K P ss cs1 B' H' σ → BaseAt K B' H' p dx t as CB C v0 T R → Rp K B' v d → Q v H') : te σ H Q := by
  have hh := held_of (B := B) (H := H) h.no
  have e1 := RG.pub_ex hh.no
  have hP' : ∀ q ∈ cellsOf H (p :: t :: as), q.1 ∉ P := fun q hq => hP _ (cells_mem.mp hq).1
  refine he (RG.pub B (cellsOf H (p :: t :: as))) H σ ⟨RG.pub_in o.ex hh, slots_dat (o.sl.mono e1) hi h.pub, RG.mu_pub e1 hP' o.mu⟩ Q fun v B2 H2 s2 o2 v2 => ?_
  obtain ⟨B3, _, st, o3, h3, f3, z⟩ := RG.hide (F := fun _ => True) hP' h.notTup (fun _ _ _ _ => True.intro) hc o hh True.intro s2 o2
  exact q v B3 H2 st o3 (h.step st hP) (z v2 hd)
theorem BaseAt.readT {P : List Addr} {B H : Hp} {p dx t : Addr} {as : List Addr} {CB C : Addr} {v0 : V} {T : List Tab} {R : Rs} {ss : List Sl} {cs cs1 : List (List D)} {σ : L2.St} {tt : TT} {b : Bool} {i : Nat} (h : BaseAt K B H p dx t as CB C v0 T R) (o : Okk K P ss cs B H σ) (hP : ∀ a ∈ p :: t :: as, a ∉ P) (hc : ∀ c ∈ cs1, ndA c = true) (hi : ss[i]? = some (.val (.ref p)))
    (he : EvT K P (ss.set i (.dat (baseD CB C T R))) cs tt b cs1) {Q : Bool → Hp → Prop} (q : ∀ B' H', Stp P B H B' H' → Okk K P ss cs1 B' H' σ → BaseAt K B' H' p dx t as CB C v0 T R → Q b H') : tt σ H Q := by
  have hh := held_of (B := B) (H := H) h.no
  have e1 := RG.pub_ex hh.no
  have hP' : ∀ q ∈ cellsOf H (p :: t :: as), q.1 ∉ P := fun q hq => hP _ (cells_mem.mp hq).1
  refine he (RG.pub B (cellsOf H (p :: t :: as))) H σ ⟨RG.pub_in o.ex hh, slots_dat (o.sl.mono e1) hi h.pub, RG.mu_pub e1 hP' o.mu⟩ Q fun B2 H2 s2 o2 => ?_
  obtain ⟨B3, _, st, o3, h3, f3, z⟩ := RG.hide (F := fun _ => True) hP' h.notTup (fun _ _ _ _ => True.intro) hc o hh True.intro s2 o2
  exact q B3 H2 st o3 (h.step st hP)
/-- a loop beside something else that holds between two turns -/
def TurnX (K : PySem.W.Frag) {α : Type} (PS P : List Addr) (B1 H1 : Hp) (J : Nat → α → Prop) (S : Nat → α → List Sl) (C : Nat → α → List (List D)) (X : Nat → α → Hp → Hp → Prop) (i : Nat) (σ : L2.St) (H : Hp) : Prop := ∃ z, J i z ∧ ∃ B, Stp PS B1 H1 B H ∧ Okk K P (S i z) (C i z) B H σ ∧ X i z B H
theorem st_forX {α : Type} {PS P : List Addr} {B0 H0 B H : Hp} {ss : List Sl} {cs cs1 : List (List D)} {σ : L2.St} {De : Ends} {wi : TI} {g : TG} {tb : TS} {ds : List D} (hsub : ∀ p ∈ P, p ∈ PS) (s : Stp PS B0 H0 B H) (o : Okk K P ss cs B H σ) (hw : WD K P ss cs wi ds cs1)
    (J : Nat → α → Prop) (S : Nat → α → List Sl) (C : Nat → α → List (List D)) (X : Nat → α → Hp → Hp → Prop) (z0 : α) (j0 : J 0 z0) (l0 : LeS ss (S 0 z0)) (c0 : cs1 = C 0 z0) (x0 : ∀ B1 H1, Stp P B H B1 H1 → X 0 z0 B1 H1) (sb : ∀ i z B H B' H', X i z B H → Stp [] B H B' H' → X i z B' H')
    (hs : ∀ B1 H1, Stp PS B0 H0 B1 H1 → ∀ i d z, ds[i]? = some d → J i z → ∃ G W, GR K (S i z) g d G W ∧
      ∀ B2 σ' H', Stp PS B1 H1 B2 H' → Okk K P G (C i z) B2 H' σ' → X i z B2 H' → tb { De with nx := TurnX K PS P B1 H1 J S C X (i + 1), ct := TurnX K PS P B1 H1 J S C X (i + 1), bk := De.nx } σ' H')
    (hd : ∀ z B2 σ' H', J ds.length z → Stp PS B0 H0 B2 H' → Okk K P (S ds.length z) (C ds.length z) B2 H' σ' → X ds.length z B2 H' → De.nx σ' H') : tFor wi g tb De σ H := by
  refine hw B H σ o _ fun It B1 H1 s1 o1 wk => ?_
  have sB : Stp PS B0 H0 B1 H1 := s.trans (s1.mono hsub)
  refine ⟨fun i m σ H => m = ds.length - i ∧ i ≤ ds.length ∧ TurnX K PS P B1 H1 J S C X i σ H, ⟨ds.length, by simp, Nat.zero_le _, z0, j0, B1, Stp.refl _ _ _, ?_, x0 B1 H1 s1⟩, ?_⟩
  · rw [← c0]
    exact ⟨o1.ex, o1.sl.le l0, o1.mu⟩
  rintro i m σ' H' ⟨rfl, hi, z, jz, B2, s2, o2, x2⟩
  obtain ⟨w1, w2⟩ := wk i B2 H' s2.ex o2.ex
  by_cases hlt : i < ds.length
  · have hd' : ds[i]? = some ds[i] := List.getElem?_eq_getElem hlt
    obtain ⟨go, yl⟩ := w1 _ hd'
    obtain ⟨G, W, hg, body⟩ := hs B1 H1 sB i _ z hd' jz
    refine .inr ⟨go, TurnX K PS P B1 H1 J S C X (i + 1), fun σ3 H3 q => ⟨ds.length - (i + 1), by omega, rfl, hlt, q⟩, fun x H3 y => ?_⟩
    obtain ⟨B3, s3, e3, x3⟩ := yl x H3 y
    have o3 := o2.step0 s3 e3
    exact hg B3 H3 σ' x o3.ex o3.sl x3 _ fun σ4 s4 _ => body B3 σ4 H3 (s2.trans s3.ofNil) ⟨o3.ex, s4, o3.mu⟩ (sb _ _ _ _ _ _ x2 s3)
  · have e : i = ds.length := by omega
    subst e
    exact .inl ⟨w2 (Nat.le_refl _), hd z B2 σ' H' jz (sB.trans s2) o2 x2⟩
end SP
namespace SP
open PySem L2 DV PM LK
variable {K : PySem.W.Frag}
/-- a dict comprehension over a walk that is known here alone -/
theorem dc_at {β : Type} {ss : List Sl} {g : TG} {tk tv : TE} {vs : List Nat} {l : List β} {enc kd : β → D} {It : It} {B1 H1 : Hp} {σ : L2.St} {Q : VK} (o1 : Okk K [] ss [] B1 H1 σ) (wk : Walks K B1 It (l.map enc)) (key : β → Key) (hkey : ∀ x, KeyD (kd x) (key x)) (val : β → D) (hz : l.length ≤ 1000000) (nd : (l.map key).Nodup)
    (hs : ∀ (i : Nat) (x : β), l[i]? = some x → ∃ G W, GR K (wipeS ss vs) g (enc x) G W ∧ (∀ k ∈ W, k ∈ vs) ∧ Ev K [] G [] tk (.dat (kd x)) [] ∧ Ev K [] G [] tv (.dat (val x)) [])
    (q : ∀ v B' H', Stp [] B1 H1 B' H' → Okk K [] ss [] B' H' σ → Rp K B' v (.dic (l.map fun x => (key x, val x))) → Q v H') :
    ∀ Dp, H1 Dp = none → ∃ W : Nat → Nat → Hp → Prop, (∃ m, W 0 m (upd H1 Dp (.dK []))) ∧ ∀ i m H, W i m H →
      (It.stop i H ∧ Q (.ref Dp) H) ∨ (It.go i H ∧ ∃ Nx : Hp → Prop, (∀ H', Nx H' → ∃ m', m' < m ∧ W (i + 1) m' H') ∧ ∀ x H', It.yld i H x H' → g x (wipe σ vs) H' fun σ2 H2 => wipe σ2 vs = wipe σ vs ∧ tYes σ2 H2 fun b H3 =>
        if b = true then tk σ2 H3 fun y H4 => tv σ2 H4 fun z H5 => ∃ kvs k, y = kV k ∧ H5 Dp = some (.dK kvs) ∧ kvs.length < sizeLine ∧ Nx (upd H5 Dp (.dK (putK kvs k z))) else Nx H3) := by
  intro Dp hDp
  have hB1 : B1 Dp = none := o1.ex.free hDp
  let out : Nat → List (Key × D) := fun i => (l.take i).map fun x => (key x, val x)
  let I : Nat → Hp → Prop := fun i H' => ∃ B' kvs, Stp [] B1 H1 B' H' ∧ Okk K [] ss [] B' H' σ ∧ H' Dp = some (.dK kvs) ∧ B' Dp = none ∧ RpK K B' kvs (out i)
  have i0 : I 0 (upd H1 Dp (.dK [])) :=
    ⟨B1, [], ⟨Ex.refl _, fun b u n e => Ex.new hDp b u e, fun _ _ _ => rfl, fun b u e => ⟨u, Ex.new hDp b u e⟩⟩, ⟨fun b u e => Ex.new hDp b u (o1.ex b u e), o1.sl, True.intro⟩, upd_same, hB1, .nil⟩
  refine ⟨fun i m H' => m = l.length - i ∧ i ≤ l.length ∧ I i H', ⟨l.length, by simp, Nat.zero_le _, i0⟩, ?_⟩
  rintro i m H' ⟨rfl, hi, B2, kvs, s2, o2, hd2, hb2, r2⟩
  obtain ⟨w1, w2⟩ := wk i B2 H' s2.ex o2.ex
  by_cases hlt : i < l.length
  · have hx : l[i]? = some l[i] := List.getElem?_eq_getElem hlt
    generalize l[i] = x at hx
    have hd' : (l.map enc)[i]? = some (enc x) := by rw [List.getElem?_map, hx]; rfl
    obtain ⟨go, yl⟩ := w1 _ hd'
    obtain ⟨G, W, hg, hW, hk, hv⟩ := hs i x hx
    refine .inr ⟨go, I (i + 1), fun H3 q => ⟨l.length - (i + 1), by omega, rfl, hlt, q⟩, fun y H3 hy => ?_⟩
    obtain ⟨B3, s3, e3, x3⟩ := yl y H3 hy
    have o3 := o2.step0 s3 e3
    refine hg B3 H3 (wipe σ vs) y o3.ex (o3.sl.wipe vs) x3 _ fun σ4 s4 on => ⟨on.wipe hW, ?_⟩
    show tk σ4 H3 _
    refine hk B3 H3 σ4 ⟨o3.ex, s4, True.intro⟩ _ fun kv B5 H5 s5 o5 v5 => ?_
    have ekv := (hkey x).val (show Rp K B5 kv (kd x) from v5)
    subst ekv
    refine hv B5 H5 σ4 o5 _ fun v B6 H6 s6 o6 v6 => ?_
    have s26 : Stp [] B2 H' B6 H6 := (s3.trans s5).trans s6
    have hd6 : H6 Dp = some (.dK kvs) := s26.fr _ _ (by simp) hd2
    have hb6 : B6 Dp = none := by rw [s26.nb _ _ hd2]; exact hb2
    have r6 : RpK K B6 kvs (out i) := RpK.mono s26.ex r2
    have hl : kvs.length = i := by rw [r6.length]; show ((l.take i).map _).length = i; rw [List.length_map, List.length_take]; omega
    have hnew : ∀ p ∈ kvs, p.1 ≠ key x := fun p hp z => by
      have h1 : p.1 ∈ kvs.map (·.1) := List.mem_map.mpr ⟨p, hp, rfl⟩
      rw [r6.keys, z] at h1
      obtain ⟨q', hq', eq'⟩ := List.mem_map.mp h1
      obtain ⟨y', hy', rfl⟩ := List.mem_map.mp hq'
      have ek : key y' = key x := eq'
      obtain ⟨j, hj, ej⟩ := List.getElem_of_mem hy'
      have hj' : j < i := by rw [List.length_take] at hj; omega
      have hjl : l[j]? = some y' := by
        rw [List.getElem_take] at ej
        rw [List.getElem?_eq_getElem (by omega), ej]
      have a1 : (l.map key)[j]? = some (key x) := by rw [List.getElem?_map, hjl, ← ek]; rfl
      have a2 : (l.map key)[i]? = some (key x) := by rw [List.getElem?_map, hx]; rfl
      obtain ⟨l1, g1⟩ := List.getElem?_eq_some_iff.mp a1
      obtain ⟨l2, g2⟩ := List.getElem?_eq_some_iff.mp a2
      exact List.pairwise_iff_getElem.mp nd j i l1 l2 hj' (g1.trans g2.symm)
    refine ⟨kvs, key x, rfl, hd6, lt_line (by omega), ?_⟩
    rw [putK_new hnew]
    have key' : ∀ b, b ≠ Dp → upd H6 Dp (.dK (kvs ++ [(key x, v)])) b = H6 b := fun b n => upd_ne n
    have hne : ∀ b u, H1 b = some u → b ≠ Dp := fun b u e z => by rw [z, hDp] at e; cases e
    have s16 := s2.trans s26
    refine ⟨B6, _, ⟨s16.ex, fun b u n e => by rw [key' b (hne b u e)]; exact s16.fr b u n e, s16.nb, fun b u e => by rw [key' b (hne b u e)]; exact s16.dm b u e⟩, ⟨fun b u e => ?_, o2.sl.mono s26.ex, True.intro⟩, upd_same, hb6, ?_⟩
    · rw [key' b (fun z => by rw [z, hb6] at e; cases e)]; exact o6.ex b u e
    · show RpK K B6 _ ((l.take (i + 1)).map _)
      rw [List.take_add_one, hx, List.map_append]
      exact RpK.append r6 (.cons v6 .nil)
  · have e : i = l.length := by omega
    subst e
    have ho : out l.length = l.map fun x => (key x, val x) := by show (l.take l.length).map _ = _; rw [List.take_length]
    rw [ho] at r2
    have eB : Ex B2 (upd B2 Dp (.dK kvs)) := Ex.new hb2
    refine .inl ⟨w2 (by rw [List.length_map]; exact Nat.le_refl _), q _ (upd B2 Dp (.dK kvs)) H' ⟨s2.ex.trans eB, s2.fr, fun b u e => ?_, s2.dm⟩ ⟨fun b u e => ?_, o2.sl.mono eB, True.intro⟩ (Rp.dic upd_same (RpK.mono eB r2))⟩
    · rw [upd_ne (ne_of_none e hDp)]
      exact s2.nb b u e
    · by_cases hb : b = Dp
      · subst hb; rw [upd_same] at e; cases e; exact hd2
      · rw [upd_ne hb] at e; exact o2.ex b u e
theorem rpK_mono {B B' : Hp} (e : Ex B B') {vs : List (Key × V)} {ds : List (Key × D)} (h : RpK K B vs ds) : RpK K B' vs ds := RpK.mono e h
end SP
namespace SP
open PySem L2 DV PM
def preBRows (CB C : Addr) : Pre := fun rs Pl cs r cs' => ∃ T R n l, rs = [.dat (baseD CB C T R), .dat (.str n)] ∧ R.lookup n = some l ∧ (l.map (·.1)).Nodup ∧ l.length ≤ 1000 ∧ Pl = [] ∧ cs = [] ∧ r = .dat (inD l) ∧ cs' = []
end SP
namespace T3
open PySem L2 DV PM SP LK
abbrev s_Base_rows : Stmt := inClass (topS 5) 2
abbrev N_Base_rows : List Str := ["self", "table", "key", "row"]
theorem sc_Base_rows : FnScope N_Base_rows ["self", "table"] (defScope s_Base_rows) := ⟨rfl, rfl, rfl, by decide +kernel, rfl, by decide +kernel, by decide +kernel⟩

section
variable {P : Program} {w : World} {K : PySem.W.Frag} {mg : Str → Option Value} {base : Heap} {C CB : Addr}
theorem ok_brows {f : Addr} {fd : FuncData} (F : Fun K "rows" "Base.rows" s_Base_rows f fd) (c : BaseCls K CB) : FnOk P w K mg base CX0 1 f fd ["self", "table"] (spM K (preBRows CB C)) := by
  refine ok_body F sc_Base_rows (fun rs Pl cs r cs' h => ?_) (fun X hX hr => ?_)
  · obtain ⟨T, R, n, l, rfl, _⟩ := h
    rfl
  obtain ⟨cdv, A, outer, s, H, E, rfl⟩ := hX
  have nd := sc_Base_rows.nd
  refine ⟨_, (pss_one (ps_ret (pe_lock (pe_dc (own := [("key", 2), ("row", 3)]) (g := (gTup K 2 (gCons (gName 2) (gCons (gName 3) gNil)))) (tt := tYes) (tk := (tVar 2)) (tv := (tVar 3)) rfl nd (pi_items (pe_dget (hu_of hr) (pe_fld (pv 0) rfl) (pv 1) (fun _ _ => rfl))) (blkOk_by (N := N_Base_rows) (sc := defScope s_Base_rows) (by decide +kernel)) (by intro _ _ _ _ _; exact (pg_tup (by rfl) (by exact (pgs_cons (by exact (pg_name (i := 2) nd (by rfl) (by first | exact .inl rfl | exact .inr rfl))) (by exact (pgs_cons (by exact (pg_name (i := 3) nd (by rfl) (by first | exact .inl rfl | exact .inr rfl))) (by exact pgs_nil))))))) (by intro _ _ _ _ _; exact pts_nil) (by intro _ _ _ _ _; exact (pv 2)) (by intro _ _ _ _ _; exact (pv 3)))))), ?_⟩
  intro rs Pl cl r cs' hp B0 H0 σ Dn st hP hd hn
  obtain ⟨T, R, n, l, rfl, hl, hnd, hz, rfl, rfl, rfl, rfl⟩ := hp
  refine st_ret st (ev_lock (fun {_} => True.intro) (by simp) (fun B H σ o => ?_)) hd
  obtain ⟨v0, hv0, rv0⟩ := o.sl.get 0 (.dat (baseD CB C T R)) rfl (by intro z; cases z)
  obtain ⟨v1, hv1, rv1⟩ := o.sl.get 1 (.dat (.str n)) rfl (by intro z; cases z)
  cases (show Rp K B v1 (.str n) from rv1)
  obtain ⟨sa, dx, fvs, ta, kvo, a, kvi, e0, hs5, hl5, ht5, hval, ha5, rk, nsa, nta⟩ := path_in (show Rp K B v0 (baseD CB C T R) from rv0) hl
  subst e0
  refine ⟨a, kvi, ha5, fun od ok Q q => ?_⟩
  have rkf : RpK K (upd B a (.frz od (.dK kvi))) kvi (l.map fun p => ((Sum.inl p.1 : Key), rowD p.2)) := (rpK_hide ha5 rk fun p hp => by obtain ⟨x, _, rfl⟩ := List.mem_map.mp hp; exact ndL_row _).mono off_upd
  have wk := wk_items (od := od) (upd_same (H := B)) rkf
  have ev : (l.map fun p => ((Sum.inl p.1 : Key), rowD p.2)).map (fun p => D.tup [keyD p.1, p.2]) = l.map fun p => D.tup [.int p.1, rowD p.2] := by rw [List.map_map]; rfl
  rw [ev] at wk
  refine ⟨.ref sa, hv0, sa, CB, dx, fvs, .ref ta, rfl, by rw [upd_ne nsa]; exact o.ex _ _ hs5, c.cl, c.n2, hl5, .str n, hv1, ta, .ref a, rfl, .inl ⟨kvo, .inr n, .inl (by rw [upd_ne nta]; exact o.ex _ _ ht5), rfl, hval.symm⟩, a, od, kvi, rfl, upd_same, ?_⟩
  refine dc_at (l := l) (enc := fun p => D.tup [.int p.1, rowD p.2]) ok wk (fun p => (Sum.inl p.1 : Key)) (kd := fun p => D.int p.1) (fun p => .int p.1) (fun p => rowD p.2) (by omega) (by
    have : l.map (fun p => (Sum.inl p.1 : Key)) = (l.map (·.1)).map Sum.inl := by rw [List.map_map]; rfl
    rw [this]
    exact List.Pairwise.map _ (fun a b h z => h (Sum.inl.inj z)) hnd) (fun i x hx => ⟨_, _, g_tup (g_cons g_name (g_cons g_name g_nil)), by decide, ev_var rfl, ev_var rfl⟩) (fun v B2 H2 s2 o2 r2 => ?_)
  exact q v B2 H2 s2 o2.ex o2.mu r2
end
end T3
/-! H1: the laws' own rows: columns of a table, whether a row's targets are there. -/
namespace SP
open PySem L2 DV PM LK
variable {K : PySem.W.Frag} {P : List Addr} {ss : List Sl} {cs cs1 cs2 : List (List D)} {te tk : TE}
/-- k not in d -/
theorem ev_dnotin {ks : List (Key × D)} {dk : D} {k : Key} (hk : Ev K P ss cs tk (.dat dk) cs1) (h : Ev K P ss cs1 te (.dat (.dic ks)) cs2) (hq : KeyD dk k) : Ev K P ss cs (tDNotIn tk te) (.dat (.bl (!(valD ks k).isSome))) cs2 := fun B H σ o Q q =>
  hk B H σ o _ fun u B1 H1 s1 o1 u1 => h B1 H1 σ o1 _ fun v B2 H2 s2 o2 v2 => by
    have e := hq.val (show Rp K B1 u dk from u1)
    subst e
    have a' : Rp K B2 v (.dic ks) := v2
    cases a' with
    | @dic a kvs _ h5 r =>
      refine ⟨a, valV kvs k, rfl, .inl ⟨kvs, k, .inl (o2.ex _ _ h5), rfl, rfl⟩, ?_⟩
      rw [some_keys r]
      exact q _ B2 H2 (s1.trans s2) o2 (.bl _)
def preLCols : Pre := fun rs Pl cs r cs' => ∃ T n cols, rs = [.dat (encTs T), .dat (.str n)] ∧ tabsOk T ∧ (T.map (·.1)).Nodup ∧ T.lookup n = some cols ∧ Pl = [] ∧ cs = [] ∧ r = .dat (.lst (cols.map encC)) ∧ cs' = []
def hasT (R : Rs) (cols : List Col) (row : Row) : Bool := (cols.zipIdx 0).all fun p => match p.1.2 with
  | none => true
  | some t => (((R.lookup t).getD []).lookup (row.getD (p.2 + 1) 0)).isSome
def preHasT : Pre := fun rs Pl cs r cs' => ∃ T R n cols row, rs = [.dat (encTs T), .dat (tabD R), .dat (.str n), .dat (rowD row)] ∧ schOk T ∧ refsOk T ∧ R.map (·.1) = T.map (·.1) ∧ T.lookup n = some cols ∧ row.length = cols.length + 1 ∧ Pl = [] ∧ cs = [] ∧ r = .dat (.bl (hasT R cols row)) ∧ cs' = []
theorem filter_look {α : Type} {n : Str} {x : α} : ∀ {T : List (Str × α)}, (T.map (·.1)).Nodup → T.lookup n = some x → (T.filter fun t => decide (t.1 = n)).map (·.2) = [x]
  | [], _, h => by cases h
  | (a, c) :: T, nd, h => by
    rw [List.map_cons, List.nodup_cons] at nd
    by_cases e : n = a
    · subst e
      have : c = x := by simpa [List.lookup] using h
      subst this
      rw [List.filter_cons_of_pos (by simp)]
      have : (T.filter fun t => decide (t.1 = n)) = [] := by
        rw [List.filter_eq_nil_iff]
        intro t ht z
        exact nd.1 (List.mem_map.mpr ⟨t, ht, of_decide_eq_true z⟩)
      rw [this]
      rfl
    · have e' : (n == a) = false := by simpa using e
      rw [List.filter_cons_of_neg (by simpa using fun z => e z.symm)]
      exact filter_look nd.2 (by simpa [List.lookup, e'] using h)
end SP
namespace T3
open PySem L2 DV PM SP LK
section
variable {P : Program} {w : World} {K : PySem.W.Frag} {mg : Str → Option Value} {base : Heap}
end
end T3
/-! NV: expressions and defs whose value is one of several. -/
namespace NV
open PySem L2 DV PM QD RG SP
variable {K : PySem.W.Frag}
abbrev Wh := Sl → List (List D) → Prop
def EvN (K : PySem.W.Frag) (P : List Addr) (ss : List Sl) (cs : List (List D)) (te : TE) (W : Wh) : Prop :=
  ∀ B H σ, Okk K P ss cs B H σ → ∀ Q : VK, (∀ r cs' v B' H', W r cs' → Stp P B H B' H' → Okk K P ss cs' B' H' σ → RS K B' v r → Q v H') → te σ H Q
abbrev PreN := List Sl → List Addr → List (List D) → Wh → Prop
def spN (K : PySem.W.Frag) (pre : PreN) : Sp := fun vs H Q _ => ∃ B rs P cs W, pre rs P cs W ∧ Ex B H ∧ RSs K B vs rs ∧ Mu K B H P cs ∧
  ∀ r cs' v B' H', W r cs' → Stp P B H B' H' → Ex B' H' → Mu K B' H' P cs' → RS K B' v r → Q v H'
def DoneN (K : PySem.W.Frag) (P : List Addr) (B0 H0 : Hp) (W : Wh) (Q : VK) : Prop := ∀ r cs', W r cs' → Done K P B0 H0 r cs' Q
section
variable {P : List Addr} {ss : List Sl} {cs cs1 cs2 : List (List D)} {te : TE} {tA : TA} {rs : List Sl} {r : Sl} {W : Wh} {pre : PreN}
theorem EvN.of (h : Ev K P ss cs te r cs1) : EvN K P ss cs te (fun r' c' => r' = r ∧ c' = cs1) := fun B H σ o Q q => h B H σ o Q fun v B1 H1 s1 o1 v1 => q r cs1 v B1 H1 ⟨rfl, rfl⟩ s1 o1 v1
theorem EvN.imp {W' : Wh} (h : EvN K P ss cs te W) (i : ∀ r c, W r c → W' r c) : EvN K P ss cs te W' := fun B H σ o Q q => h B H σ o Q fun r c v B1 H1 w s1 o1 v1 => q r c v B1 H1 (i r c w) s1 o1 v1
theorem en_call0 (ha : EvA K P ss cs tA rs cs1) (hp : pre rs [] [] W) : EvN K P ss cs (tCall (spN K pre) [] E0 tA) (fun r c => (∃ c0, W r c0) ∧ c = cs1) := fun B H σ o Q q =>
  ha B H σ o _ fun vs B1 H1 s1 o1 r1 => by
    show spN K pre (vs ++ []) H1 Q E0
    rw [List.append_nil]
    refine ⟨B1, rs, [], [], W, hp, o1.ex, r1, True.intro, fun r c0 v B2 H2 w s2 e2 _ v2 => ?_⟩
    exact q r cs1 v B2 H2 ⟨⟨c0, w⟩, rfl⟩ (s1.trans s2.ofNil) (o1.step0 s2 e2) v2
theorem en_call1 {j : Nat} {p : Addr} {ds : List D} (ha : EvA K P ss cs tA rs cs1) (hP : P[j]? = some p) (hc : cs1[j]? = some ds) (hp : pre rs [p] [ds] W) : EvN K P ss cs (tCall (spN K pre) [] E0 tA) (fun r c => ∃ ds', W r [ds'] ∧ c = cs1.set j ds') := fun B H σ o Q q =>
  ha B H σ o _ fun vs B1 H1 s1 o1 r1 => by
    show spN K pre (vs ++ []) H1 Q E0
    rw [List.append_nil]
    obtain ⟨hL, hB⟩ := o1.mu.get hP hc
    refine ⟨B1, rs, [p], [ds], W, hp, o1.ex, r1, ⟨hL, hB, by simp, True.intro⟩, fun r c0 v B2 H2 w s2 e2 m2 v2 => ?_⟩
    obtain ⟨ds', rfl⟩ : ∃ ds', c0 = [ds'] := by
      match c0, m2 with
      | [d], _ => exact ⟨d, rfl⟩
    obtain ⟨⟨ws, hw, hr⟩, _⟩ := m2
    have sp : Stp P B1 H1 B2 H2 := s2.mono fun x hx => by
      have e : x = p := by simpa using hx
      subst e
      exact List.mem_of_getElem? hP
    refine q r _ v B2 H2 ⟨ds', w, rfl⟩ (s1.trans sp) ⟨e2, o1.sl.mono s2.ex, o1.mu.put s2.ex hw hr hP (fun x hx hne => ?_) fun x hx => ?_⟩ v2
    · obtain ⟨u, h1, _⟩ := o1.mu.mem hx
      rw [h1, s2.fr x u (by simpa using hne) h1]
    · obtain ⟨u, h1, h2⟩ := o1.mu.mem hx
      rw [s2.nb x u h1, h2]
end
section
variable {P : List Addr} {B0 H0 H : Hp} {ss : List Sl} {cs : List (List DV.D)} {σ : L2.St} {De : Ends} {te : TE} {W : Wh}
theorem st_asgN {i : Nat} (h : Sta K P B0 H0 ss cs σ H) (he : EvN K P ss cs te W) (k : ∀ r cs1 σ' H', W r cs1 → Sta K P B0 H0 (ss.set i r) cs1 σ' H' → De.nx σ' H') : tAsg te (gName i) De σ H := by
  obtain ⟨B, s, o⟩ := h
  exact he B H σ o _ fun r cs1 v B1 H1 w s1 o1 v1 => k r cs1 _ _ w ⟨B1, s.trans s1, o1.ex, o1.sl.set v1, o1.mu⟩
theorem st_retN (h : Sta K P B0 H0 ss cs σ H) (he : EvN K P ss cs te W) (k : DoneN K P B0 H0 W De.rt) : tRet te De σ H := by
  obtain ⟨B, s, o⟩ := h
  exact he B H σ o _ fun r cs1 v B1 H1 w s1 o1 v1 => k r cs1 w v B1 H1 (s.trans s1) o1.ex o1.mu v1
theorem DoneN.base {B1 H1 : Hp} {Q : VK} (h : DoneN K P B0 H0 W Q) (s : Stp P B0 H0 B1 H1) : DoneN K P B1 H1 W Q := fun r c w => (h r c w).base s
end
theorem spN_len {pre : PreN} {n : Nat} (h : ∀ rs P cs W, pre rs P cs W → rs.length = n) : ∀ vs H Q E, spN K pre vs H Q E → vs.length = n := fun vs H Q E z => by
  obtain ⟨B, rs, P, cs, W, hp, _, hr, _⟩ := z
  rw [hr.length]
  exact h _ _ _ _ hp
theorem ok_bodyN {P : Program} {w : World} {K : PySem.W.Frag} {mg : Str → Option Value} {base : Heap} {x qual : Str} {st : Stmt} {f : Addr} {fd : FuncData} {N ps : List Str} {k : Nat} {pre : PreN} (F : Fun K x qual st f fd) (S : FnScope N ps (defScope st))
    (len : ∀ rs P cs W, pre rs P cs W → rs.length = ps.length)
    (hb : ∀ X : Cx, ∀ (hX : ∃ (cdv : Value) (A : Around) (outer : List Env) (s : Shared) (H : Hp) (E : XK), X = (cxOf CX0 P w K mg base N qual (defScope st) f cdv A outer s H E).nox), Room k X.A → ∃ t, PSs X (defBody st) t ∧
      ∀ rs Pl cs W, pre rs Pl cs W → ∀ B0 H0 σ (De : Ends), Sta K Pl B0 H0 (rs ++ List.replicate (N.length - rs.length) .any) cs σ H0 → (∀ p ∈ Pl, ∃ o, H0 p = some o) → DoneN K Pl B0 H0 W De.rt → t De σ H0) :
    FnOk P w K mg base CX0 (k + 1) f fd ps (spN K pre) := by
  refine F.ok S (spN_len len) (fun cdv A outer s H vs Q E hr h => ?_)
  obtain ⟨t, h1, h2⟩ := hb _ ⟨cdv, A, outer, s, H, E, rfl⟩ hr
  obtain ⟨B, rs, Pl, cs, W, hp, e, hrs, mu, q⟩ := h
  exact ⟨t, h1, h2 rs Pl cs W hp B H _ _ (sta_start e hrs mu) (fun p hm => (mu.mem hm).imp fun _ z => z.1) fun r cs' w v B' H' s' e' m' v' => q r cs' v B' H' w s' e' m' v'⟩
/-! tables that may change, read -/
theorem _root_.SP.Tabs.notTup {B H : Hp} {t : Addr} {as : List Addr} {R : Rs} (h : Tabs K B H t as R) : ∀ q ∈ cellsOf H (t :: as), notTup q.2 := fun q hq => by
  obtain ⟨h1, h2⟩ := cells_mem.mp hq
  obtain ⟨kvs, hk⟩ := h.has _ h1
  rw [hk] at h2
  injection h2 with h2
  rw [← h2]
  exact ⟨fun xs z => (by cases z), fun u xs z => (by cases z)⟩
theorem _root_.SP.Tabs.readN {P : List Addr} {B H : Hp} {t : Addr} {as : List Addr} {R : Rs} {ss : List Sl} {cs : List (List D)} {σ : L2.St} {te : TE} {W : Wh} {i : Nat} (h : Tabs K B H t as R) (o : Okk K P ss cs B H σ) (hP : ∀ a ∈ t :: as, a ∉ P) (hi : ss[i]? = some (.val (.ref t)))
    (he : EvN K P (ss.set i (.dat (tabD R))) cs te W) (hd : ∀ r c, W r c → (∀ x ∈ c, ndA x = true) ∧ ∃ d, r = .dat d ∧ nd d = true) {Q : VK} (q : ∀ d cs1 v B' H', W (.dat d) cs1 → Stp P B H B' H' → Okk K P ss cs1 B' H' σ → Tabs K B' H' t as R → Rp K B' v d → Q v H') : te σ H Q := by
  have hh := held_of (B := B) (H := H) h.no
  have e1 := RG.pub_ex hh.no
  have hP' : ∀ q ∈ cellsOf H (t :: as), q.1 ∉ P := fun q hq => hP _ (cells_mem.mp hq).1
  refine he (RG.pub B (cellsOf H (t :: as))) H σ ⟨RG.pub_in o.ex hh, slots_dat (o.sl.mono e1) hi (h.pub (fun _ z => z) h.no), RG.mu_pub e1 hP' o.mu⟩ Q fun r cs1 v B2 H2 w s2 o2 v2 => ?_
  obtain ⟨hc, d, rfl, hn⟩ := hd _ _ w
  obtain ⟨B3, _, st, o3, h3, f3, z⟩ := RG.hide (F := fun _ => True) hP' h.notTup (fun _ _ _ _ => True.intro) hc o hh True.intro s2 o2
  exact q d cs1 v B3 H2 w st o3 (h.step st hP) (z v2 hn)
theorem _root_.SP.Tabs.readT {P : List Addr} {B H : Hp} {t : Addr} {as : List Addr} {R : Rs} {ss : List Sl} {cs cs1 : List (List D)} {σ : L2.St} {tt : TT} {b : Bool} {i : Nat} (h : Tabs K B H t as R) (o : Okk K P ss cs B H σ) (hP : ∀ a ∈ t :: as, a ∉ P) (hc : ∀ c ∈ cs1, ndA c = true) (hi : ss[i]? = some (.val (.ref t)))
    (he : EvT K P (ss.set i (.dat (tabD R))) cs tt b cs1) {Q : Bool → Hp → Prop} (q : ∀ B' H', Stp P B H B' H' → Okk K P ss cs1 B' H' σ → Tabs K B' H' t as R → Q b H') : tt σ H Q := by
  have hh := held_of (B := B) (H := H) h.no
  have e1 := RG.pub_ex hh.no
  have hP' : ∀ q ∈ cellsOf H (t :: as), q.1 ∉ P := fun q hq => hP _ (cells_mem.mp hq).1
  refine he (RG.pub B (cellsOf H (t :: as))) H σ ⟨RG.pub_in o.ex hh, slots_dat (o.sl.mono e1) hi (h.pub (fun _ z => z) h.no), RG.mu_pub e1 hP' o.mu⟩ Q fun B2 H2 s2 o2 => ?_
  obtain ⟨B3, _, st, o3, h3, f3, z⟩ := RG.hide (F := fun _ => True) hP' h.notTup (fun _ _ _ _ => True.intro) hc o hh True.intro s2 o2
  exact q B3 H2 st o3 (h.step st hP)
end NV
/-! LC: a list comprehension over a walk that is known here alone, its items read here alone. -/
namespace SP
open PySem L2 DV PM LK
variable {K : PySem.W.Frag}
theorem lc_at {P : List Addr} {ss : List Sl} {cs cs1 : List (List D)} {te : TE} {wi : TI} {g : TG} {vs : List Nat} {es : List D} {B H : Hp} {σ : L2.St} (o : Okk K P ss cs B H σ) (hw : ∀ R : It → Hp → Prop, (∀ J B1 H1, Stp P B H B1 H1 → Okk K P ss cs1 B1 H1 σ → Walks K B1 J es → R J H1) → wi σ H R) (f : Nat → D) (hz : es.length ≤ 1000000)
    (hs : ∀ p i d, p ∉ P → es[i]? = some d → ∃ G W, GR K (wipeS ss vs) g d G W ∧ (∀ k ∈ W, k ∈ vs) ∧ ∀ acc B' H' σ', Ex B B' → Okk K (p :: P) G (acc :: cs1) B' H' σ' → ∀ Q : VK, (∀ v B2 H2, Stp (p :: P) B' H' B2 H2 → Okk K (p :: P) G (acc :: cs1) B2 H2 σ' → Rp K B2 v (f i) → Q v H2) → te σ' H' Q)
    {Q : VK} (q : ∀ p ws B' H', H p = none → Stp P B H B' H' → Okk K P ss cs1 B' H' σ → H' p = some (.lst ws) → B' p = none → RpA K B' ws ((List.range es.length).map f) → Q (.ref p) H') : tLc wi g tYes te vs σ H Q := by
  let out : Nat → List D := fun i => (List.range i).map f
  refine hw _ fun It B1 H1 s1 o1 wk Dp hDp => ?_
  have hDP : Dp ∉ P := fun z => by
    obtain ⟨u, h1, _⟩ := o1.mu.mem z
    rw [hDp] at h1; cases h1
  have hD0 : H Dp = none := by
    cases e : H Dp with
    | none => rfl
    | some u =>
      obtain ⟨u', h'⟩ := s1.dm Dp u e
      rw [hDp] at h'; cases h'
  -- between two turns
  let I : Nat → Hp → Prop := fun i H' => ∃ B', Stp (Dp :: P) B1 H1 B' H' ∧ Okk K (Dp :: P) ss (out i :: cs1) B' H' σ
  have i0 : I 0 (upd H1 Dp (.lst [])) := by
    refine ⟨B1, ⟨Ex.refl _, fun b u n e => ?_, fun _ _ _ => rfl, fun b u e => ⟨u, Ex.new hDp b u e⟩⟩, fun b u e => Ex.new hDp b u (o1.ex b u e), o1.sl, ⟨⟨[], upd_same, by exact .nil⟩, o1.ex.free hDp, hDP, ?_⟩⟩
    · rw [upd_ne (fun (z : b = Dp) => n (z ▸ List.mem_cons_self))]; exact e
    · exact o1.mu.keep (Ex.refl _) (fun x hx => upd_ne fun (z : x = Dp) => hDP (z ▸ hx)) fun x hx => (o1.mu.mem hx).choose_spec.2
  refine ⟨fun i m H' => m = es.length - i ∧ i ≤ es.length ∧ I i H', ⟨es.length, by simp, Nat.zero_le _, i0⟩, ?_⟩
  rintro i m H' ⟨rfl, hi, B2, s2, o2⟩
  obtain ⟨w1, w2⟩ := wk i B2 H' s2.ex o2.ex
  by_cases hlt : i < es.length
  · have hd' : es[i]? = some es[i] := List.getElem?_eq_getElem hlt
    obtain ⟨go, yl⟩ := w1 _ hd'
    obtain ⟨G, W, hg, hW, hev⟩ := hs Dp i _ hDP hd'
    have hol : (out i).length ≤ i := by simp [out]
    refine .inr ⟨go, I (i + 1), fun H3 q => ⟨es.length - (i + 1), by omega, rfl, hlt, q⟩, fun x H3 y => ?_⟩
    obtain ⟨B3, s3, e3, x3⟩ := yl x H3 y
    have o3 := o2.step0 s3 e3
    refine hg B3 H3 (wipe σ vs) x o3.ex (o3.sl.wipe vs) x3 _ fun σ4 s4 on => ⟨on.wipe hW, ?_⟩
    have s35 : Stp (Dp :: P) B2 H' B3 H3 := s3.ofNil
    unfold tYes
    dsimp only []
    rw [if_pos rfl]
    refine hev (out i) B3 H3 σ4 (s1.ex.trans (s2.trans s35).ex) ⟨o3.ex, s4, o3.mu⟩ _ fun v B6 H6 s6 o6 v6 => ?_
    obtain ⟨⟨ws, hw6, r6⟩, hB6, hn6, m6⟩ := o6.mu
    have s16 := (s2.trans s35).trans s6
    refine ⟨ws, hw6, lt_line (by rw [r6.length]; omega), B6, ⟨s16.ex, fun c u n ec => ?_, s16.nb, fun c u ec => ?_⟩, fun c u ec => ?_, ?_, ⟨⟨ws ++ [v], upd_same, ?_⟩, hB6, hn6, ?_⟩⟩
    · rw [upd_ne (fun (z : c = Dp) => n (z ▸ List.mem_cons_self))]
      exact s16.fr c u n ec
    · obtain ⟨u', h'⟩ := s16.dm c u ec
      by_cases hc : c = Dp
      · subst hc; exact ⟨_, upd_same⟩
      · exact ⟨u', by rw [upd_ne hc]; exact h'⟩
    · rw [upd_ne (fun (z : c = Dp) => by rw [z, hB6] at ec; cases ec)]
      exact o6.ex c u ec
    · exact o2.sl.mono (s35.trans s6).ex
    · have ho : out (i + 1) = out i ++ [f i] := by simp [out, List.range_succ]
      rw [ho]
      exact r6.append (.cons v6 .nil)
    · exact m6.keep (Ex.refl _) (fun x hx => upd_ne fun (z : x = Dp) => hn6 (z ▸ hx)) fun x hx => (m6.mem hx).choose_spec.2
  · have e : i = es.length := by omega
    subst e
    obtain ⟨⟨ws, hw2, r2⟩, hB2, hn2, m2⟩ := o2.mu
    refine .inl ⟨w2 (Nat.le_refl _), q Dp ws B2 H' hD0 (s1.trans ⟨s2.ex, fun b u n eb => ?_, s2.nb, s2.dm⟩) ⟨o2.ex, o2.sl, m2⟩ hw2 hB2 r2⟩
    exact s2.fr b u (fun z => by
      rcases List.mem_cons.mp z with z | z
      · rw [z, hDp] at eb; cases eb
      · exact n z) eb
end SP
namespace SP
open PySem L2 DV PM LK RG
variable {K : PySem.W.Frag}
def optN : Option Nat → D
  | none => .non
  | some i => .int (i : Nat)
def room (n : Nat) (R : Rs) : Prop := ∀ t ∈ R, t.2.length + n ≤ 1000
def spAdv (K : PySem.W.Frag) (CB C : Addr) : Sp := fun vs H Q _ => ∃ B p dx t as v0 T R chs vch, vs = [.ref p, vch] ∧ Ex B H ∧ BaseAt K B H p dx t as CB C v0 T R ∧ Rp K B vch (.lst (List.map encCh chs)) ∧ schOk T ∧ refsOk T ∧ rowsOk T R ∧ (∀ c ∈ chs, chOk T c) ∧ room chs.length R ∧
  ∀ v B' H', Stp as B H B' H' → Ex B' H' → BaseAt K B' H' p dx t as CB C v0 T (advF T chs R 0).2 → Rp K B' v (optN (advF T chs R 0).1) → Q v H'
theorem len_putL (l : List (Int × Row)) (i : Int) (r : Row) : (putL l i r).length ≤ l.length + 1 := by
  unfold putL
  split
  · rw [List.length_map]; omega
  · simp
theorem len_delL (l : List (Int × Row)) (i : Int) : (delL l i).length ≤ l.length := List.length_filter_le _ _
theorem keys_putL (l : List (Int × Row)) (i : Int) (r : Row) : (putL l i r).map (·.1) = if i ∈ l.map (·.1) then l.map (·.1) else l.map (·.1) ++ [i] := by
  unfold putL
  by_cases e : (l.any fun p => decide (p.1 = i)) = true
  · have hm : i ∈ l.map (·.1) := by
      obtain ⟨p, hp, h⟩ := List.any_eq_true.mp e
      exact List.mem_map.mpr ⟨p, hp, of_decide_eq_true h⟩
    rw [if_pos e, if_pos hm, List.map_map]
    apply List.map_congr_left
    intro p _
    show (if p.1 = i then (p.1, r) else p).1 = p.1
    split <;> rfl
  · have hm : ¬ i ∈ l.map (·.1) := fun h => by
      obtain ⟨p, hp, h⟩ := List.mem_map.mp h
      exact e (List.any_eq_true.mpr ⟨p, hp, decide_eq_true h⟩)
    rw [if_neg e, if_neg hm]
    simp
theorem nd_putL {l : List (Int × Row)} {i : Int} {r : Row} (nd : (l.map (·.1)).Nodup) : ((putL l i r).map (·.1)).Nodup := by
  rw [keys_putL]
  split
  · exact nd
  · rename_i h
    rw [List.nodup_append]
    exact ⟨nd, by simp, fun a ha b hb => by rw [List.mem_singleton.mp hb]; exact fun z => h (z ▸ ha)⟩
theorem mem_putL {l : List (Int × Row)} {i : Int} {r : Row} {p : Int × Row} (h : p ∈ putL l i r) : p ∈ l ∨ p = (i, r) := by
  unfold putL at h
  split at h
  · obtain ⟨q, hq, e⟩ := List.mem_map.mp h
    by_cases z : q.1 = i
    · rw [if_pos z] at e
      subst e
      rw [z]
      exact .inr rfl
    · rw [if_neg z] at e
      subst e
      exact .inl hq
  · rcases List.mem_append.mp h with h | h
    · exact .inl h
    · exact .inr (by simpa using h)
theorem setT_eq {R : Rs} {n : Str} {l : List (Int × Row)} {f : List (Int × Row) → List (Int × Row)} {i : Nat} (nd : (R.map (·.1)).Nodup) (h : R[i]? = some (n, l)) : R.set i (n, f l) = setT R n f := by
  unfold setT
  apply List.ext_getElem?
  intro j
  rw [List.getElem?_set, List.getElem?_map]
  by_cases e : i = j
  · subst e
    rw [if_pos rfl, if_pos (List.getElem?_eq_some_iff.mp h).1, h]
    simp
  · rw [if_neg e]
    cases hj : R[j]? with
    | none => rfl
    | some t =>
      have ne : t.1 ≠ n := fun z => by
        obtain ⟨i1, g1⟩ := List.getElem?_eq_some_iff.mp h
        obtain ⟨j1, g2⟩ := List.getElem?_eq_some_iff.mp hj
        refine e (nodup_at nd (by rw [List.length_map]; exact i1) (by rw [List.length_map]; exact j1) ?_)
        rw [List.getElem_map, List.getElem_map, g1, g2, z]
      show some t = some (if t.1 = n then _ else t)
      rw [if_neg ne]
theorem rows_setT {T : List Tab} {R : Rs} {n : Str} {f : List (Int × Row) → List (Int × Row)} (h : rowsOk T R) (h1 : ∀ t ∈ R, t.1 = n → ((f t.2).map (·.1)).Nodup ∧ (f t.2).length ≤ 1000 ∧ ∀ p ∈ f t.2, p ∈ t.2 ∨ (p.2.head? = some p.1 ∧ ∀ cols, T.lookup n = some cols → p.2.length = cols.length + 1)) : rowsOk T (setT R n f) := by
  obtain ⟨a, b, c⟩ := h
  unfold setT
  refine ⟨?_, fun t ht => ?_, fun t ht p hp => ?_⟩
  · rw [List.map_map, ← a]
    apply List.map_congr_left
    intro t _
    show (if t.1 = n then (t.1, f t.2) else t).1 = t.1
    split <;> rfl
  · obtain ⟨q, hq, rfl⟩ := List.mem_map.mp ht
    by_cases z : q.1 = n
    · rw [if_pos z]
      exact ⟨(h1 q hq z).1, (h1 q hq z).2.1⟩
    · rw [if_neg z]; exact b q hq
  · obtain ⟨q, hq, rfl⟩ := List.mem_map.mp ht
    by_cases z : q.1 = n
    · rw [if_pos z] at hp ⊢
      rcases (h1 q hq z).2.2 p hp with h | ⟨h, h'⟩
      · exact c q hq p h
      · exact ⟨h, fun cols hc => h' cols (by rw [← z]; exact hc)⟩
    · rw [if_neg z] at hp ⊢
      exact c q hq p hp
theorem step_ok {T : List Tab} {R : Rs} {c : Ch} {k : Nat} (hR : rowsOk T R) (hc : chOk T c) (hr : room (k + 1) R) : rowsOk T (stepCh R c) ∧ room k (stepCh R c) := by
  obtain ⟨cols, hl, ho, hn, _⟩ := hc
  have hlen : ∀ l : List (Int × Row), (stepL c l).length ≤ l.length + 1 := fun l => by
    unfold stepL
    cases c.new with
    | none => exact Nat.le_trans (len_delL _ _) (Nat.le_succ _)
    | some r => exact len_putL _ _ _
  have hnd : ∀ l : List (Int × Row), (l.map (·.1)).Nodup → ((stepL c l).map (·.1)).Nodup := fun l nd => by
    unfold stepL
    cases c.new with
    | none => exact List.Nodup.sublist (List.Sublist.map _ (List.filter_sublist)) nd
    | some r => exact nd_putL nd
  have hmem : ∀ l : List (Int × Row), ∀ p ∈ stepL c l, p ∈ l ∨ ∃ r, c.new = some r ∧ p = (r.headD 0, r) := fun l p hp => by
    unfold stepL at hp
    cases hnw : c.new with
    | none => rw [hnw] at hp; exact .inl (List.mem_filter.mp hp).1
    | some r =>
      rw [hnw] at hp
      rcases mem_putL hp with h | h
      · exact .inl h
      · exact .inr ⟨r, rfl, h⟩
  refine ⟨rows_setT hR fun t ht e => ⟨hnd _ (hR.2.1 t ht).1, ?_, fun p hp => ?_⟩, fun t ht => ?_⟩
  · have h1 := hlen t.2
    have h2 := hr t ht
    omega
  · rcases hmem _ p hp with h | ⟨r, hnw, rfl⟩
    · exact .inl h
    · refine .inr ⟨?_, fun cols' hc' => ?_⟩
      · have := hn r hnw
        cases r with
        | nil => simp at this
        | cons a r => rfl
      · rw [hl] at hc'
        cases hc'
        exact hn r hnw
  · unfold stepCh setT at ht
    obtain ⟨q, hq, rfl⟩ := List.mem_map.mp ht
    have h1 := hr q hq
    have h2 := hlen q.2
    by_cases z : q.1 = c.tab
    · rw [if_pos z]
      show (stepL c q.2).length + k ≤ 1000
      omega
    · rw [if_neg z]; omega
theorem stp_write {B H : Hp} {a : Addr} {o o' : HO} (h : H a = some o) : Stp [a] B H B (upd H a o') := ⟨Ex.refl _, fun b u n e => by rw [upd_ne (by simpa using n)]; exact e, fun _ _ _ => rfl, fun b u e => by
  by_cases hb : b = a
  · subst hb; exact ⟨_, upd_same⟩
  · exact ⟨u, by rw [upd_ne hb]; exact e⟩⟩
theorem okk_write {B H : Hp} {a : Addr} {o' : HO} {ss : List Sl} {σ : L2.St} (o : Okk K [] ss [] B H σ) (hB : B a = none) : Okk K [] ss [] B (upd H a o') σ := ⟨fun b u e => by
  rw [upd_ne fun z => by rw [z, hB] at e; cases e]
  exact o.ex b u e, o.sl, True.intro⟩
theorem BaseAt.write {B H : Hp} {p dx t : Addr} {as : List Addr} {CB C : Addr} {v0 : V} {T : List Tab} {R : Rs} (h : BaseAt K B H p dx t as CB C v0 T R) {i : Nat} {a : Addr} {n : Str} {l l' : List (Int × Row)} {vs' : List (Key × V)} (ha : as[i]? = some a) (hr : R[i]? = some (n, l)) (r' : RpK K B vs' (inKs l')) :
    BaseAt K B (upd H a (.dK vs')) p dx t as CB C v0 T (R.set i (n, l')) where
  obj := by rw [upd_ne fun (z : p = a) => h.out (by rw [z]; exact List.mem_cons_of_mem _ (List.mem_of_getElem? ha))]; exact h.obj
  nop := h.nop
  out := h.out
  tabs := h.tabs.write ha hr r'
  sch := h.sch
theorem advF_cons {T : List Tab} {c : Ch} {cs : List Ch} {R : Rs} {i : Nat} : advF T (c :: cs) R i = if okCh T R c = true then advF T cs (stepCh R c) (i + 1) else (some i, R) := rfl
theorem valV_zip : ∀ {R : Rs} {as : List Addr} {j : Nat} {n : Str} {l : List (Int × Row)} {a : Addr}, (R.map (·.1)).Nodup → R[j]? = some (n, l) → as[j]? = some a → valV (List.zipWith (fun (r : Str × List (Int × Row)) a => ((Sum.inr r.1 : Key), V.ref a)) R as) (.inr n) = some (.ref a)
  | [], _, _, _, _, _, _, h, _ => by simp at h
  | _ :: _, [], _, _, _, _, _, _, h => by simp at h
  | r :: R, b :: as, 0, n, l, a, nd, h, h' => by
    simp at h h'
    subst h h'
    exact valV_pos (p := ((Sum.inr n : Key), V.ref b)) rfl
  | r :: R, b :: as, j + 1, n, l, a, nd, h, h' => by
    rw [List.map_cons, List.nodup_cons] at nd
    have h1 : R[j]? = some (n, l) := by simpa using h
    have ne : r.1 ≠ n := fun z => nd.1 (List.mem_map.mpr ⟨(n, l), List.mem_of_getElem? h1, z.symm⟩)
    rw [List.zipWith_cons_cons, valV_neg fun z => ne (Sum.inr.inj z)]
    exact valV_zip nd.2 h1 (by simpa using h')
end SP
namespace T3
open PySem L2 DV PM SP LK
abbrev s_Base_advance : Stmt := inClass (topS 5) 7
abbrev N_Base_advance : List Str := ["self", "changes", "index", "change", "old", "new", "rows"]
theorem sc_Base_advance : FnScope N_Base_advance ["self", "changes"] (defScope s_Base_advance) := ⟨rfl, rfl, rfl, by decide +kernel, rfl, by decide +kernel, by decide +kernel⟩

section
variable {P : Program} {w : World} {K : PySem.W.Frag} {mg : Str → Option Value} {base : Heap} {C CB : Addr}
theorem ok_advance {f fA fO : Addr} {fd fdA fdO : FuncData} (F : Fun K "_advance" "Base._advance" s_Base_advance f fd) (c : BaseCls K CB) (cls_B : Cls K CB) (M__allows : Meth K CB "_allows" fA) (G__allows : FnOk P w K mg base CX0 3 fA fdA ["self", "table", "old", "new"] (spM K (preAllows CB C))) (B__allows : Binds K fdA ["self", "table", "old", "new"] [])
    (G_old_and_new : Def P w K mg base 1 "old_and_new" fO fdO ["change"] (spM K preOAN)) (b_enumerate : mg "enumerate" = none) : FnOk P w K mg base CX0 4 f fd ["self", "changes"] (spAdv K CB C) := by
  refine F.ok sc_Base_advance (fun vs H Q E h => ?_) (fun cdv A outer s H vs Q E hr h => ?_)
  · obtain ⟨B, p, dx, t, as, v0, T, R, chs, vch, rfl, _⟩ := h
    rfl
  have nd := sc_Base_advance.nd
  refine ⟨_, (pss_cons (ps_for PassesOwn.never rfl (pi_enum (by rfl) b_enumerate (pa_cons (pv 1) pa_nil)) (pg_tup (by rfl) (by exact (pgs_cons (by exact (pg_name (i := 2) nd (by rfl) (by first | exact .inl rfl | exact .inr rfl))) (by exact (pgs_cons (by exact (pg_name (i := 3) nd (by rfl) (by first | exact .inl rfl | exact .inr rfl))) (by exact pgs_nil)))))) (pss_cons (ps_asg (pe_def G_old_and_new hr (by decide) (by rfl) (pa_cons (pv 3) pa_nil)) (pg_tup (by rfl) (by exact (pgs_cons (by exact (pg_name (i := 4) nd (by rfl) (by first | exact .inl rfl | exact .inr rfl))) (by exact (pgs_cons (by exact (pg_name (i := 5) nd (by rfl) (by first | exact .inl rfl | exact .inr rfl))) (by exact pgs_nil)))))))
      (pss_cons (ps_if (pt_not (pt_val (pe_meth (pv 0) cls_B M__allows G__allows (hr.mono (by decide)) B__allows .nil pass0 (pa_cons (pe_ix ix_seq (pv 3) pe_int (fun _ _ => rfl)) (pa_cons (pv 4) (pa_cons (pv 5) pa_nil)))))) (pss_one (ps_ret (pv 2))) pss_nil)
      (pss_cons (ps_set (i := 6) nd rfl (.inl rfl) (pe_dget (hu_of hr) (pe_fld (pv 0) rfl) (pe_ix ix_seq (pv 3) pe_int (fun _ _ => rfl)) (fun _ _ => rfl)))
      (pss_one (ps_if (pt_cmpR op_isN' (pv 5) pe_non (nomark _)) (pss_one (ps_ddel (pv 6) (pe_ix ix_seq (pv 4) pe_int (fun _ _ => rfl)))) (pss_one (ps_dput (hu_of hr) (pv 6) (pe_ix ix_seq (pv 5) pe_int (fun _ _ => rfl)) (pv 5) rfl))))))))
      (pss_one (ps_ret pe_non))), ?_⟩
  obtain ⟨B, p, dx, t, as, v0, T, R, chs, vch, rfl, e, ba, rch, hT, hX, hR, hch, hrm, q⟩ := h
  obtain ⟨B1, s1, o1⟩ := sta_start (vs := [.ref p, vch]) (N := N_Base_advance) (K := K) (P := []) (cs := []) (rs := [.val (.ref p), .dat (.lst (chs.map encCh))]) e ⟨rfl, rch, True.intro⟩ True.intro
  have ba1 := ba.step s1 (fun a _ h => by cases h)
  have noP : ∀ a ∈ p :: t :: as, a ∉ ([] : List Addr) := fun a _ h => by cases h
  have ntop : ∀ a ∈ as, a ≠ t := fun a ha z => (List.nodup_cons.mp ba.tabs.nd).1 (z ▸ ha)
  have ptop : ∀ a ∈ as, a ≠ p := fun a ha z => ba.out (z ▸ List.mem_cons_of_mem _ ha)
  refine st_seq (st_forX (α := Rs) (PS := as) (P := []) (fun _ h => by cases h) s1.ofNil o1 (wd_enum (ea_cons (ev_var (i := 1) rfl) ea_nil))
    (fun i R' => advF T chs R 0 = advF T (chs.drop i) R' i ∧ rowsOk T R' ∧ room (chs.length - i) R') (fun _ _ => [.val (.ref p), .dat (.lst (chs.map encCh)), .any, .any, .any, .any, .any]) (fun _ _ => []) (fun _ R' B H => BaseAt K B H p dx t as CB C v0 T R') R ⟨rfl, hR, hrm⟩
    ⟨.rfl _, .rfl _, .any _, .any _, .any _, .any _, .any _, True.intro⟩ rfl (fun B2 H2 s2 => ba1.step s2 noP) (fun i z B H B' H' x s => x.step s noP) (fun B2 H2 s02 i d R' hd jR => ?_) (fun R' B2 σ' H2 jR s02 o2 x2 => ?_))
  · obtain ⟨hadv, hRR, hroom⟩ := jR
    obtain ⟨e0, he0, rfl⟩ := enumD_get hd
    rw [List.getElem?_map] at he0
    cases hc : chs[i]? with
    | none => rw [hc] at he0; cases he0
    | some ch =>
    rw [hc] at he0
    have ee : encCh ch = e0 := Option.some.inj he0
    subst ee
    have hok := hch ch (List.mem_of_getElem? hc)
    obtain ⟨cols, hcols, hlo, hln, hkk⟩ := id hok
    have hil : i < chs.length := (List.getElem?_eq_some_iff.mp hc).1
    have hdrop : chs.drop i = ch :: chs.drop (i + 1) := by
      rw [List.drop_eq_getElem_cons hil]
      congr 1
      exact (List.getElem?_eq_some_iff.mp hc).2
    have hne : ∀ o, ch.old = some o → o ≠ [] := fun o ho z => by have := hlo o ho; rw [z] at this; simp at this
    have hne2 : ∀ o, ch.new = some o → o ≠ [] := fun o ho z => by have := hln o ho; rw [z] at this; simp at this
    have hrc : rowsCh ch.old ch.new := ⟨by cases ch <;> simp [Ch.old, Ch.new], hne, hne2⟩
    have ech : ∀ {ss : List Sl} {cs : List (List D)}, ss[3]? = some (.dat (encCh ch)) → Ev K [] ss cs (tOp (rIx K) (tVar 3) (tC (.int 1))) (.dat (.str ch.tab)) cs := fun {ss cs} h => by
      cases ch with
      | ins n r => exact ev_op (ev_var (r := .dat (.tup [.str "insert", .str n, rowD r])) h) (ev_int (i := 1)) (od_ixT (d := .str n) rfl)
      | del n r => exact ev_op (ev_var (r := .dat (.tup [.str "delete", .str n, rowD r])) h) (ev_int (i := 1)) (od_ixT (d := .str n) rfl)
      | set n o r => exact ev_op (ev_var (r := .dat (.tup [.str "set", .str n, rowD o, rowD r])) h) (ev_int (i := 1)) (od_ixT (d := .str n) rfl)
    refine ⟨_, _, g_tup (g_cons g_name (g_cons g_name g_nil)), fun B3 σ3 H3 s23 o3 x3 => ?_⟩
    have o3' : Okk K [] [.val (.ref p), .dat (.lst (chs.map encCh)), .dat (.int (i : Nat)), .dat (encCh ch), .any, .any, .any] [] B3 H3 σ3 := o3
    have hcall : Ev K [] [.val (.ref p), .dat (.lst (chs.map encCh)), .dat (.int (i : Nat)), .dat (encCh ch), .any, .any, .any] [] (tCall (spM K preOAN) [] E0 (tCons (tVar 3) tNil)) (.dat (.tup [optD ch.old, optD ch.new])) [] := ev_call0 (ea_cons (ev_var (i := 3) rfl) ea_nil) ⟨ch, rfl, rfl, rfl, rfl, rfl⟩
    refine st_seq (hcall B3 H3 σ3 o3' _ fun v4 B4 H4 s34 o4 r4 => ?_)
    have x4 := x3.step s34 noP
    refine (g_tup (g_cons (g_name (i := 4)) (g_cons (g_name (i := 5)) g_nil)) : GR K _ _ (.tup [optD ch.old, optD ch.new]) _ _) B4 H4 σ3 v4 o4.ex o4.sl r4 _ fun σ5 sl5 _ => ?_
    have o5 : Okk K [] [.val (.ref p), .dat (.lst (chs.map encCh)), .dat (.int (i : Nat)), .dat (encCh ch), .dat (optD ch.old), .dat (optD ch.new), .any] [] B4 H4 σ5 := ⟨o4.ex, sl5, True.intro⟩
    have s24 := s23.trans s34.ofNil
    dsimp only []
    have okc : okCh T R' ch = allowsB T R' ch.tab cols ch.old ch.new := by unfold okCh; rw [hcols]; rfl
    have nd' : (R'.map (·.1)).Nodup := by rw [hRR.1]; exact hT.2
    refine st_seq (x4.readT (i := 0) o5 noP (by simp) rfl (et_not (et_B (ev_meth1 (ev_var (i := 0) rfl) rfl (ea_cons (ech rfl) (ea_cons (ev_var (i := 4) rfl) (ea_cons (ev_var (i := 5) rfl) ea_nil))) ⟨T, R', ch.tab, cols, ch.old, ch.new, rfl, hT, hX, hRR, hcols, hrc, rfl, rfl, rfl, rfl⟩))) (fun B6 H6 s46 o6 x6 => ?_))
    have s26 := s24.trans s46.ofNil
    cases hb : allowsB T R' ch.tab cols ch.old ch.new with
    | false =>
      have hend : advF T chs R 0 = (some i, R') := by
        rw [hadv, hdrop, advF_cons, okc, hb]
        rfl
      rw [hend] at q
      exact (ev_var (i := 2) (r := .dat (.int (i : Nat))) (ss := [.val (.ref p), .dat (.lst (chs.map encCh)), .dat (.int (i : Nat)), .dat (encCh ch), .dat (optD ch.old), .dat (optD ch.new), .any]) rfl : Ev K [] _ [] _ _ []) B6 H6 σ5 o6 _ fun v7 B7 H7 s7 o7 r7 => q v7 B7 H7 ((s02.trans s26).trans s7.ofNil) o7.ex (x6.step s7 noP) r7
    | true =>
      have hnext : advF T chs R 0 = advF T (chs.drop (i + 1)) (stepCh R' ch) (i + 1) := by
        rw [hadv, hdrop, advF_cons, okc, hb]
        rfl
      have hroom' : room (chs.length - (i + 1) + 1) R' := by
        have e1 : chs.length - (i + 1) + 1 = chs.length - i := by omega
        rw [e1]
        exact hroom
      have hok2 := step_ok (c := ch) (k := chs.length - (i + 1)) hRR hok hroom'
      refine st_ns ?_
      obtain ⟨j, l, hj⟩ : ∃ j l, R'[j]? = some (ch.tab, l) := by
        have : ch.tab ∈ R'.map (·.1) := by rw [hRR.1]; exact List.mem_map.mpr ⟨(ch.tab, cols), mem_lookup hcols, rfl⟩
        obtain ⟨t1, ht1, e1⟩ := List.mem_map.mp this
        obtain ⟨j, hj, ej⟩ := List.getElem_of_mem ht1
        exact ⟨j, t1.2, by rw [List.getElem?_eq_getElem hj, ej, ← e1]⟩
      obtain ⟨a, haj⟩ : ∃ a, as[j]? = some a := by
        have : j < as.length := by rw [x6.tabs.len]; exact (List.getElem?_eq_some_iff.mp hj).1
        exact ⟨as[j], List.getElem?_eq_getElem this⟩
      have ham : a ∈ as := List.mem_of_getElem? haj
      obtain ⟨w0, hw0, ew0⟩ := o6.sl.get 0 (.val (.ref p)) rfl (by intro z; cases z)
      cases (show w0 = .ref p from ew0)
      refine ⟨.ref p, hw0, p, CB, dx, _, .ref t, rfl, x6.obj, c.cl, c.n2, rfl, ech (ss := [.val (.ref p), .dat (.lst (chs.map encCh)), .dat (.int (i : Nat)), .dat (encCh ch), .dat (optD ch.old), .dat (optD ch.new), .any]) (cs := []) rfl B6 H6 σ5 o6 _ fun v8 B8 H8 s8 o8 r8 => ?_⟩
      have x8 := x6.step s8 noP
      cases (show Rp K B8 v8 (.str ch.tab) from r8)
      refine ⟨t, .ref a, rfl, .inl ⟨_, .inr ch.tab, .inl x8.tabs.top, rfl, (valV_zip nd' hj haj).symm⟩, ?_⟩
      show tIfS (tTest (tOp rIsN (tVar 5) (tC .non))) _ _ _ (σ5.set 6 (some (.ref a))) H8
      have o9 : Okk K [] [.val (.ref p), .dat (.lst (chs.map encCh)), .dat (.int (i : Nat)), .dat (encCh ch), .dat (optD ch.old), .dat (optD ch.new), .val (.ref a)] [] B8 H8 (σ5.set 6 (some (.ref a))) := ⟨o8.ex, o8.sl.set (i := 6) (v := .ref a) (r := .val (.ref a)) rfl, True.intro⟩
      generalize σ5.set 6 (some (.ref a)) = σ9 at o9
      have s28 := s26.trans s8.ofNil
      have hmem : (ch.tab, l) ∈ R' := List.mem_of_getElem? hj
      have hgl : getR R' ch.tab (keyOf ch.old ch.new) = l.lookup (keyOf ch.old ch.new) := by
        unfold getR
        rw [look_ofT nd' hmem]
        rfl
      have hold : l.lookup (keyOf ch.old ch.new) = ch.old := by
        unfold allowsB at hb
        rw [Bool.and_eq_true] at hb
        rw [← hgl]
        exact of_decide_eq_true hb.1
      have fin : ∀ {B10 H10 : Hp} {σ10 : L2.St} {vs : List (Key × V)} {l' : List (Int × Row)} {vs' : List (Key × V)}, Stp as B2 H2 B10 H10 → Okk K [] [.val (.ref p), .dat (.lst (chs.map encCh)), .dat (.int (i : Nat)), .dat (encCh ch), .dat (optD ch.old), .dat (optD ch.new), .val (.ref a)] [] B10 H10 σ10 → BaseAt K B10 H10 p dx t as CB C v0 T R' → H10 a = some (.dK vs) → RpK K B10 vs' (inKs (stepL ch l)) →
          TurnX K as [] B2 H2 (fun i R' => advF T chs R 0 = advF T (chs.drop i) R' i ∧ rowsOk T R' ∧ room (chs.length - i) R') (fun _ _ => [.val (.ref p), .dat (.lst (chs.map encCh)), .any, .any, .any, .any, .any]) (fun _ _ => []) (fun _ R' B H => BaseAt K B H p dx t as CB C v0 T R') (i + 1) σ10 (upd H10 a (.dK vs')) := fun {B10 H10 σ10 vs l' vs'} s10 o10 x10 ha10 r10 => by
        refine ⟨stepCh R' ch, ⟨hnext, hok2.1, hok2.2⟩, B10, s10.trans ((stp_write ha10).mono fun y hy => by rw [List.mem_singleton.mp hy]; exact ham), okk_write ⟨o10.ex, o10.sl.le ⟨.rfl _, .rfl _, .any _, .any _, .any _, .any _, .any _, True.intro⟩, True.intro⟩ (x10.no a (List.mem_cons_of_mem _ (List.mem_cons_of_mem _ ham))), ?_⟩
        have w := x10.write haj hj r10
        rw [setT_eq nd' hj] at w
        exact w
      have eT : EvT K [] [.val (.ref p), .dat (.lst (chs.map encCh)), .dat (.int (i : Nat)), .dat (encCh ch), .dat (optD ch.old), .dat (optD ch.new), .val (.ref a)] [] (tTest (tOp rIsN (tVar 5) (tC .non))) (optD ch.new).isN [] := et_test (ev_op (ev_var (i := 5) rfl) ev_non od_isN)
      refine eT B8 H8 σ9 o9 _ fun B10 H10 s10 o10 => ?_
      have x10 := x8.step s10 noP
      have s210 := s28.trans s10.ofNil
      obtain ⟨w6, hw6, ew6⟩ := o10.sl.get 6 (.val (.ref a)) rfl (by intro z; cases z)
      cases (show w6 = .ref a from ew6)
      cases hnw : ch.new with
      | none =>
        rw [if_pos (show (optD none).isN = true from rfl)]
        cases hod : ch.old with
        | none => rcases hrc.1 with h | h
                  · rw [hod] at h; cases h
                  · rw [hnw] at h; cases h
        | some o =>
        cases o with
        | nil => exact absurd rfl (hne _ hod)
        | cons k0 rest =>
        have ek : keyOf ch.old ch.new = k0 := by rw [hod]; rfl
        have sl4 : ([.val (.ref p), .dat (.lst (chs.map encCh)), .dat (.int (i : Nat)), .dat (encCh ch), .dat (optD ch.old), .dat (optD ch.new), .val (.ref a)] : List Sl)[4]? = some (.dat (.tup (D.int k0 :: rest.map D.int))) := by rw [hod]; rfl
        refine ⟨.ref a, hw6, (ev_op (ev_var (i := 4) sl4) (ev_int (i := 0)) (od_ixT (d := .int k0) (atI_nat (xs := D.int k0 :: rest.map D.int) (j := 0) rfl)) : Ev K [] _ [] _ _ []) B10 H10 σ9 o10 _ fun v11 B11 H11 s11 o11 r11 => ?_⟩
        have x11 := x10.step s11 noP
        obtain ⟨vs, hvs, rvs⟩ := x11.tabs.inn j a (ch.tab, l) haj hj
        cases (show Rp K B11 v11 (.int k0) from r11)
        refine ⟨a, vs, .inl k0, rfl, hvs, rfl, ?_, fin (l' := l) (s210.trans s11.ofNil) o11 x11 hvs ?_⟩
        · rw [some_keys rvs, valD_inE, ← ek, hold, hod]
          rfl
        · have e2 : stepL ch l = delL l k0 := by unfold stepL; rw [hnw, ← ek, hnw]
          rw [e2]
          exact rpK_del rvs
      | some nw =>
        rw [if_neg (show ¬ (optD (some nw)).isN = true from fun z => by cases z)]
        cases nw with
        | nil => exact absurd rfl (hne2 _ hnw)
        | cons k0 rest =>
        have sl5 : ([.val (.ref p), .dat (.lst (chs.map encCh)), .dat (.int (i : Nat)), .dat (encCh ch), .dat (optD ch.old), .dat (optD ch.new), .val (.ref a)] : List Sl)[5]? = some (.dat (.tup (D.int k0 :: rest.map D.int))) := by rw [hnw]; rfl
        refine (ev_var (i := 5) sl5 : Ev K [] _ [] _ _ []) B10 H10 σ9 o10 _ fun v11 B11 H11 s11 o11 r11 => ?_
        refine ⟨.ref a, hw6, (ev_op (ev_var (i := 5) sl5) (ev_int (i := 0)) (od_ixT (d := .int k0) (atI_nat (xs := D.int k0 :: rest.map D.int) (j := 0) rfl)) : Ev K [] _ [] _ _ []) B11 H11 σ9 o11 _ fun v12 B12 H12 s12 o12 r12 => ?_⟩
        have x12 := (x10.step s11 noP).step s12 noP
        obtain ⟨vs, hvs, rvs⟩ := x12.tabs.inn j a (ch.tab, l) haj hj
        cases (show Rp K B12 v12 (.int k0) from r12)
        have r11' : Rp K B12 v11 (rowD (k0 :: rest)) := Rp.mono s12.ex r11
        refine ⟨a, _, rfl, .inl ⟨vs, .inl k0, hvs, rfl, ?_, rfl⟩, fin (l' := l) ((s210.trans s11.ofNil).trans s12.ofNil) o12 x12 hvs ?_⟩
        · rw [RpK.lenE rvs]
          have h1 := hroom (ch.tab, l) hmem
          unfold inKs
          rw [List.length_map]
          exact lt_line (by have h2 : l.length + (chs.length - i) ≤ 1000 := h1; omega)
        · have e2 : stepL ch l = putL l k0 (k0 :: rest) := by unfold stepL; rw [hnw]; rfl
          rw [e2]
          exact rpK_put rvs r11'
  · refine st_next ?_
    obtain ⟨hadv, _, _⟩ := jR
    have el : (enumD (chs.map encCh)).length = chs.length := by rw [enumD_len, List.length_map]
    rw [el, List.drop_length] at hadv
    have hend : advF T chs R 0 = (none, R') := hadv
    rw [hend] at q
    exact q .non B2 H2 s02 o2.ex x2 .non
end
end T3
/-! H2: the laws' own look whether a row is referred to. -/
namespace SP
open PySem L2 DV PM LK
variable {K : PySem.W.Frag}
theorem path_tab {B : Hp} {v : V} {R : Rs} {n : Str} {l : List (Int × Row)} (h : Rp K B v (tabD R)) (hR : R.lookup n = some l) :
    ∃ t kvo a kvi, v = .ref t ∧ B t = some (.dK kvo) ∧ valV kvo (.inr n) = some (.ref a) ∧ B a = some (.dK kvi) ∧ RpK K B kvi (inKs l) ∧ t ≠ a := by
  unfold tabD at h
  cases h with
  | @dic t kvo _ h6 rk =>
    obtain ⟨vi, h3, h4⟩ := rk.val (valD_tab hR)
    unfold inD at h4
    cases h4 with
    | @dic a kvi _ h7 ri =>
      refine ⟨t, kvo, a, kvi, rfl, h6, h3, h7, ri, fun z => ?_⟩
      subst z
      rw [h6] at h7
      cases h7
      have e1 := RpK.valN ri (k := .inr n) (by
        unfold valD
        rw [List.find?_map]
        have : (l.find? ((fun kv => decide (kv.1 = (Sum.inr n : Key))) ∘ fun p => ((Sum.inl p.1 : Key), rowD p.2))) = none := by
          rw [List.find?_eq_none]
          intro x _
          simp
        rw [this]
        rfl)
      rw [h3] at e1
      cases e1
/-- [rows[n][key] for key in rows[n]] -/
theorem ev_rowsOf {ss : List Sl} {R : Rs} {n : Str} {l : List (Int × Row)} {i1 i4 i7 : Nat} (h1 : ss[i1]? = some (.dat (tabD R))) (h4 : ss[i4]? = some (.dat (.str n))) (hR : R.lookup n = some l) (nd : (l.map (·.1)).Nodup) (hz : l.length ≤ 1000) (n14 : i1 ≠ i4) (n17 : i1 ≠ i7) (n47 : i4 ≠ i7) (hl7 : i7 < ss.length) :
    Ev K [] ss [] (tLockE (tLc (iKeys (tDGet (tVar i1) (tVar i4))) (gName i7) tYes (tDGet (tDGet (tVar i1) (tVar i4)) (tVar i7)) [i7])) (.dat (.lst (l.map fun p => rowD p.2))) [] := ev_lock (fun {_} => True.intro) (by simp) (fun B H σ o => by
  obtain ⟨v1, hv1, rv1⟩ := o.sl.get i1 _ h1 (by intro z; cases z)
  obtain ⟨v4, hv4, rv4⟩ := o.sl.get i4 _ h4 (by intro z; cases z)
  cases (show Rp K B v4 (.str n) from rv4)
  obtain ⟨t, kvo, a, kvi, e0, ht5, hval, ha5, rk, nta⟩ := path_tab (show Rp K B v1 (tabD R) from rv1) hR
  subst e0
  refine ⟨a, kvi, ha5, fun od _ Q q => ?_⟩
  have rkf : RpK K (upd B a (.frz od (.dK kvi))) kvi (inKs l) := (rpK_hide ha5 rk fun p hp => by obtain ⟨x, _, rfl⟩ := List.mem_map.mp hp; exact ndL_row _).mono off_upd
  have wk := wk_keys (od := od) (upd_same (H := B)) rkf
  have ev : (inKs l).map (fun p => keyD p.1) = l.map fun p => D.int p.1 := by unfold inKs; rw [List.map_map]; rfl
  rw [ev] at wk
  let S : List Sl := ((List.replicate ss.length Sl.any).set i1 (.val (.ref t))).set i4 (.val (.str n))
  have okv : Okk K [] S [] (upd B a (.frz od (.dK kvi))) (upd H a (.frz od (.dK kvi))) σ := by
    refine ⟨Ex.updB o.ex, ⟨by simp [S]; exact o.sl.len, fun i r hi hn => ?_⟩, True.intro⟩
    simp only [S, List.getElem?_set, List.length_set, List.length_replicate] at hi
    by_cases e4 : i4 = i
    · subst e4
      rw [if_pos rfl] at hi
      split at hi
      · cases hi; exact ⟨_, hv4, rfl⟩
      · cases hi
    · rw [if_neg e4] at hi
      by_cases e1 : i1 = i
      · subst e1
        rw [if_pos rfl] at hi
        split at hi
        · cases hi; exact ⟨_, hv1, rfl⟩
        · cases hi
      · rw [if_neg e1, List.getElem?_replicate] at hi
        split at hi
        · cases hi; exact absurd rfl hn
        · cases hi
  have hl1 : i1 < ss.length := (List.getElem?_eq_some_iff.mp h1).1
  have hl4 : i4 < ss.length := (List.getElem?_eq_some_iff.mp h4).1
  refine lc_at (es := l.map fun p => D.int p.1) (cs1 := []) okv (fun Rr qq => ⟨.ref t, hv1, .str n, hv4, t, .ref a, rfl, .inl ⟨kvo, .inr n, .inl (by rw [upd_ne nta]; exact o.ex _ _ ht5), rfl, hval.symm⟩, a, od, rfl, .inl ⟨kvi, upd_same, qq _ _ _ (Stp.refl _ _ _) okv wk⟩⟩)
    (fun i => match l[i]? with | some p => rowD p.2 | none => .non) (by rw [List.length_map]; omega) (fun p i d hp hd => ?_) (fun p ws B2 H2 hp s2 o2 hv2 hb2 r2 => ?_)
  · rw [List.getElem?_map] at hd
    cases hx : l[i]? with
    | none => rw [hx] at hd; cases hd
    | some x =>
    rw [hx] at hd
    have ed : D.int x.1 = d := Option.some.inj hd
    subst ed
    have hxl : x ∈ l := List.mem_of_getElem? hx
    refine ⟨_, [i7], g_name (i := i7), by simp, fun acc B' H' σ' eB' o' Q' q' => ?_⟩
    have g1 : ((wipeS S [i7]).set i7 (.dat (.int x.1)))[i1]? = some (.val (.ref t)) := by
      simp [S, wipeS, List.getElem?_set, n14, n17, Ne.symm n14, Ne.symm n17, hl1]
    have g4 : ((wipeS S [i7]).set i7 (.dat (.int x.1)))[i4]? = some (.val (.str n)) := by
      simp [S, wipeS, List.getElem?_set, n47, Ne.symm n47, hl4]
    have g7 : ((wipeS S [i7]).set i7 (.dat (.int x.1)))[i7]? = some (.dat (.int x.1)) := by
      simp [S, wipeS, List.getElem?_set, hl7]
    obtain ⟨w1, hw1, ew1⟩ := o'.sl.get i1 _ g1 (by intro z; cases z)
    cases (show w1 = .ref t from ew1)
    obtain ⟨w4, hw4, ew4⟩ := o'.sl.get i4 _ g4 (by intro z; cases z)
    cases (show w4 = .str n from ew4)
    obtain ⟨w7, hw7, ew7⟩ := o'.sl.get i7 _ g7 (by intro z; cases z)
    cases (show Rp K B' w7 (.int x.1) from ew7)
    have hvd : valD (inKs l) (.inl x.1) = some (rowD x.2) := by rw [valD_inE, look_of nd hxl]; rfl
    obtain ⟨vr, hvr, rvr⟩ := rkf.val hvd
    have hBt : upd B a (.frz od (.dK kvi)) t = some (.dK kvo) := by rw [upd_ne nta]; exact ht5
    exact ⟨.ref t, hw1, .str n, hw4, t, .ref a, rfl, .inl ⟨kvo, .inr n, .inl (o'.ex _ _ (eB' _ _ hBt)), rfl, hval.symm⟩, .int x.1, hw7, a, vr, rfl, .inl ⟨kvi, .inl x.1, .inr ⟨od, o'.ex _ _ (eB' _ _ upd_same)⟩, rfl, hvr.symm⟩, q' vr B' H' (Stp.refl _ _ _) o' (rvr.mono eB')⟩
  · have el : (List.range (l.map fun p => D.int p.1).length).map (fun i => match l[i]? with | some p => rowD p.2 | none => .non) = l.map fun p => rowD p.2 := by
      rw [List.length_map]
      apply List.ext_getElem?
      intro j
      rw [List.getElem?_map, List.getElem?_map]
      by_cases hj : j < l.length
      · rw [List.getElem?_range hj, List.getElem?_eq_getElem hj]
        simp [hj]
      · have h1 : (List.range l.length)[j]? = none := List.getElem?_eq_none (by simp; omega)
        have h2 : l[j]? = none := List.getElem?_eq_none (by omega)
        rw [h1, h2]; rfl
    rw [el] at r2
    have eB : Ex B2 (upd B2 p (.lst ws)) := Ex.new hb2
    refine q _ (upd B2 p (.lst ws)) H2 ⟨s2.ex.trans eB, s2.fr, fun b u e => ?_, s2.dm⟩ (fun b u e => ?_) True.intro (Rp.lst upd_same (r2.mono eB))
    · rw [upd_ne (ne_of_none e hp)]
      exact s2.nb b u e
    · by_cases hb : b = p
      · subst hb; rw [upd_same] at e; cases e; exact hv2
      · rw [upd_ne hb] at e; exact o2.ex b u e)
end SP
namespace SP
open PySem L2 DV PM LK
def tgtO : Option Str → D
  | none => .non
  | some t => .str t
def refB (cols : List Col) (n : Str) (k : Int) (row : Row) : Bool := (cols.zipIdx 0).any fun q => decide (q.1.2 = some n) && decide (row.getD (q.2 + 1) 0 = k)
def isRefL (T : List Tab) (R : Rs) (n : Str) (k : Int) : Bool := T.any fun tab => ((R.lookup tab.1).getD []).any fun p => refB tab.2 n k p.2
theorem isRefL_led {T : List Tab} {R : Rs} {n : Str} {k : Int} : isRefL T R n k = isLed T R n k := by
  unfold isRefL isLed refB placesOf
  congr 1
  funext tab
  congr 1
  funext p
  rw [List.any_map, List.any_filter]
  rfl
def preIsRefL : Pre := fun rs Pl cs r cs' => ∃ T R n k, rs = [.dat (encTs T), .dat (tabD R), .dat (.str n), .dat (.int k)] ∧ schOk T ∧ rowsOk T R ∧ PyData.strOk n = true ∧ Pl = [] ∧ cs = [] ∧ r = .dat (.bl (isRefL T R n k)) ∧ cs' = []
end SP
namespace T3
open PySem L2 DV PM SP LK
section
variable {P : Program} {w : World} {K : PySem.W.Frag} {mg : Str → Option Value} {base : Heap}
end
end T3
/-! H3: the laws' own look whether a change is allowed. -/
namespace SP
open PySem L2 DV PM LK
variable {K : PySem.W.Frag} {P : List Addr} {ss : List Sl} {cs cs1 cs2 cs3 : List (List D)} {te tk tx : TE}
/-- d.get(k, x) -/
theorem ev_dget2K {ks : List (Key × D)} {dk dx : D} {k : Key} (h : Ev K P ss cs te (.dat (.dic ks)) cs1) (hk : Ev K P ss cs1 tk (.dat dk) cs2) (hx : Ev K P ss cs2 tx (.dat dx) cs3) (hq : KeyD dk k) : Ev K P ss cs (tDGet2 te tk tx) (.dat ((valD ks k).getD dx)) cs3 := fun B H σ o Q q =>
  h B H σ o _ fun v B1 H1 s1 o1 v1 => by
    have a0 : Rp K B1 v (.dic ks) := v1
    cases a0 with
    | @dic a kvs _ h5 r =>
      refine ⟨a, rfl, .inl ⟨kvs, .inl (o1.ex _ _ h5)⟩, hk B1 H1 σ o1 _ fun u B2 H2 s2 o2 u2 => hx B2 H2 σ o2 _ fun z B3 H3 s3 o3 z3 => ?_⟩
      have e := hq.val (show Rp K B2 u dk from u2)
      subst e
      have h53 := o3.ex _ _ (s3.ex _ _ (s2.ex _ _ h5))
      cases hv : valD ks k with
      | none =>
        have hn := RpK.valN r hv
        refine ⟨none, .inl ⟨kvs, k, .inl h53, rfl, hn.symm⟩, ?_⟩
        rw [hv] at q
        exact q z B3 H3 ((s1.trans s2).trans s3) o3 z3
      | some d =>
        obtain ⟨w, h1, h2⟩ := r.val hv
        refine ⟨some w, .inl ⟨kvs, k, .inl h53, rfl, h1.symm⟩, ?_⟩
        rw [hv] at q
        exact q w B3 H3 ((s1.trans s2).trans s3) o3 (h2.mono (s2.trans s3).ex)
def rowOf : Ch → Row | .ins _ r => r | .del _ r => r | .set _ o _ => o
def wordOf : Ch → Str | .ins _ _ => "insert" | .del _ _ => "delete" | .set _ _ _ => "set"
def tailOf : Ch → List D | .set _ _ n => [rowD n] | _ => []
theorem encCh_eq (c : Ch) : encCh c = .tup (.str (wordOf c) :: .str c.tab :: rowD (rowOf c) :: tailOf c) := by cases c <;> rfl
theorem cut_ch (c : Ch) : cutD (.str (wordOf c) :: .str c.tab :: rowD (rowOf c) :: tailOf c) none (some 3) = [.str (wordOf c), .str c.tab, rowD (rowOf c)] := by cases c <;> rfl
def lAllow (T : List Tab) (R : Rs) (cols : List Col) (l : List (Int × Row)) : Ch → Bool
  | .ins _ r => decide (l.lookup (r.headD 0) = none) && hasT R cols r
  | .del n r => decide (l.lookup (r.headD 0) = some r) && !isRefL T R n (r.headD 0)
  | .set _ o nw => decide (l.lookup (o.headD 0) = some o) && hasT R cols nw
def preLAllow : Pre := fun rs Pl cs r cs' => ∃ T R c cols l, rs = [.dat (encTs T), .dat (tabD R), .dat (encCh c)] ∧ schOk T ∧ refsOk T ∧ rowsOk T R ∧ chOk T c ∧ T.lookup c.tab = some cols ∧ R.lookup c.tab = some l ∧ Pl = [] ∧ cs = [] ∧ r = .dat (.bl (lAllow T R cols l c)) ∧ cs' = []
end SP
namespace T3
open PySem L2 DV PM SP LK
section
variable {P : Program} {w : World} {K : PySem.W.Frag} {mg : Str → Option Value} {base : Heap}
end
end T3
namespace SP
open PySem L2 DV PM
def preLText : Pre := fun rs Pl cs r cs' => ∃ T, rs = [.dat (encTs T)] ∧ tabsOk T ∧ Pl = [] ∧ cs = [] ∧ r = .dat (.str (textOf T)) ∧ cs' = []
end SP
namespace T3
open PySem L2 DV PM SP
section
variable {P : Program} {w : World} {K : PySem.W.Frag} {mg : Str → Option Value} {base : Heap} {C : Addr}
end
end T3
/-! IX: t.index(x), t a tuple that the program has laid and that is known to have no dict. -/
namespace IX
open PySem PySem.Spec PyProof.Rows L2 DV
def rTIndex (K : PySem.W.Frag) : V → List V → Hp → VK → Prop := fun x xs H Q => ∃ p, ∃ ys : List Str, ∃ z j, x = .ref p ∧ xs = [.str z] ∧ SqT K H p (ys.map V.str) ∧ ys[j]? = some z ∧ (∀ m, m < j → ys[m]? ≠ some z) ∧ Q (.int (j : Nat)) H
theorem mt_tidx {X : Cx} : MtR X "tuple.index" (rTIndex X.K) := mt_tup_index
def tTIdx (K : PySem.W.Frag) (to : TE) (t : TA) : TE := fun σ H Q => to σ H fun x H1 => (∃ p o ys, x = .ref p ∧ H1 p = some (.frz o (.tup ys)) ∧ o.dict = none) ∧ t σ H1 fun xs H2 => rTIndex K x xs H2 Q
section
variable {X : Cx} {o e : Expr} {es : List Expr} {to : TE} {t : TA} {apos cpos : Pos}
theorem pe_tidx (ho : PE X o to) (ha : PA X (e :: es) t)
    (hbase : attributeBase o "index" X.env (eval o X.env) = eval o X.env := by rfl)
    (hfew : ((backTo cpos (starEach (e :: es) X.env)).all (fun x => !x.1) && (backToKw cpos (keywordEach [] X.env)).all (fun x => x.1.isSome)
      && decide ((e :: es).length + ([] : List Keyword).length + (if ([] : List Keyword).isEmpty then 0 else 1) < 30)) = true := by rfl)
    (hline : (apos.endLine == cpos.line) = true := by rfl) (hs : starEach (e :: es) X.env = (false, eval e X.env) :: starEach es X.env := by rfl) (hplain : (backTo cpos (starEach es X.env)).any (·.1) = false := by rfl) :
    PE X (.Call (.Attribute o "index" apos) (e :: es) [] cpos) (tTIdx X.K to t) := by
  refine ⟨fun pins s σ H Q I h => ?_⟩
  refine wpAny_Call_method_late hbase hfew hline rfl (thn (ho.run pins s σ H _ I h) fun v s1 ⟨x, H1, I1, r1, ty, q1⟩ => ?_)
  obtain ⟨p, ob, ys, rfl, hp, hd⟩ := ty
  cases r1
  obtain ⟨e1, hz, its, rv, ob', e2, hc, _⟩ := I1.hok p _ hp
  rw [e1] at e2
  cases e2
  refine ⟨"tuple", "tuple.index", PySem.F.plainAttrs_tuple, PySem.F.slot_tuple_index, PySem.F.type_tuple_index, ⟨ob, e1, hc⟩, fun a ea => ?_, ?_⟩
  · cases ea
    exact ⟨ob, e1, hd⟩
  · have hA := ha.run cpos pins s1 σ H1 _ I1 q1
    rw [hs] at hA ⊢
    refine Calls.callWith_builtin (by show (false || (backTo cpos (starEach es X.env)).any (·.1)) = false; rw [hplain] <;> rfl) (Calls.evalArgs_plain ?_)
    exact thn hA fun us s2 ⟨vs, H2, I2, r2, q2⟩ => mt_tidx pins s2 σ H2 (.ref p) vs _ us Q I2 rfl r2 q2
end
/-- the first place of n -/
def idxN (n : Str) : List Str → Nat
  | [] => 0
  | a :: r => if a = n then 0 else idxN n r + 1
theorem idxN_get {n : Str} : ∀ {l : List Str}, n ∈ l → l[idxN n l]? = some n ∧ ∀ m, m < idxN n l → l[m]? ≠ some n
  | [], h => by cases h
  | a :: r, h => by
    by_cases e : a = n
    · have z : idxN n (a :: r) = 0 := if_pos e
      rw [z]
      exact ⟨by simp [e], fun m hm => by omega⟩
    · have z : idxN n (a :: r) = idxN n r + 1 := if_neg e
      have h' : n ∈ r := by
        rcases List.mem_cons.mp h with q | q
        · exact absurd q.symm e
        · exact q
      obtain ⟨h1, h2⟩ := idxN_get h'
      rw [z]
      refine ⟨by simpa using h1, fun m hm => ?_⟩
      cases m with
      | zero => simpa using e
      | succ m => simpa using h2 m (by omega)
section
variable {K : PySem.W.Frag} {P : List Addr} {ss : List Sl} {cs cs1 cs2 : List (List D)} {te : TE} {ta : TA}
theorem rpA_strs {B : Hp} : ∀ {ys : List Str} {vs : List V}, RpA K B vs (ys.map D.str) → vs = ys.map V.str
  | [], _, .nil => rfl
  | y :: ys, _, .cons h r => by
    cases h
    rw [rpA_strs r]; rfl
theorem ev_tidx {ys : List Str} {z : Str} (h : Ev K P ss cs te (.dat (.nt (ys.map D.str))) cs1) (ha : EvA K P ss cs1 ta [.dat (.str z)] cs2) (hz : z ∈ ys) : Ev K P ss cs (tTIdx K te ta) (.dat (.int (idxN z ys : Nat))) cs2 := fun B H σ o Q q =>
  h B H σ o _ fun x B1 H1 s1 o1 v1 => by
    have a' : Rp K B1 x (.nt (ys.map D.str)) := v1
    cases a' with
    | @nt a ob xs _ h5 hd r =>
      refine ⟨⟨a, ob, xs, rfl, o1.ex _ _ h5, hd⟩, ha B1 H1 σ o1 _ fun us B2 H2 s2 o2 r2 => ?_⟩
      obtain ⟨w, rfl, hw⟩ := rs1 r2
      have b' : Rp K B2 w (.str z) := hw
      cases b'
      have e := rpA_strs r
      subst e
      obtain ⟨i1, i2⟩ := idxN_get hz
      exact ⟨a, ys, z, idxN z ys, rfl, rfl, .inl (.inr ⟨_, o2.ex _ _ (s2.ex _ _ h5)⟩), i1, i2, q _ B2 H2 (s1.trans s2) o2 (.int _)⟩
end
end IX
namespace SP
open PySem L2 DV PM IX
def tgtD (c : Col) : D := match c.2 with | none => .non | some n => .str n
def idxD (names : List Str) (c : Col) : D := match c.2 with | none => .non | some n => .int (idxN n names : Nat)
def shapeD (T : List Tab) : D := .lst (T.map fun t => .lst (t.2.map (idxD (T.map (·.1)))))
def tgtsOk (T : List Tab) : Prop := ∀ t ∈ T, ∀ c ∈ t.2, ∀ n, c.2 = some n → n ∈ T.map (·.1)
def preShape (C : Addr) : Pre := fun rs Pl cs r cs' => ∃ T, rs = [.dat (schD C T)] ∧ schOk T ∧ tgtsOk T ∧ Pl = [] ∧ cs = [] ∧ r = .dat (shapeD T) ∧ cs' = []
theorem lookup_nodup : ∀ {T : List Tab} {t : Tab}, (T.map (·.1)).Nodup → t ∈ T → T.lookup t.1 = some t.2
  | [], _, _, h => by cases h
  | a :: r, t, nd, h => by
    obtain ⟨n, c⟩ := a
    rcases List.mem_cons.mp h with rfl | h'
    · simp [List.lookup]
    · have nd' : n ∉ r.map (·.1) ∧ (r.map (·.1)).Nodup := by simpa using nd
      have ne : ¬ t.1 = n := fun z => nd'.1 (z ▸ List.mem_map.mpr ⟨t, h', rfl⟩)
      have e : (t.1 == n) = false := by simpa using ne
      simp only [List.lookup, e]
      exact lookup_nodup nd'.2 h'
end SP
namespace T3
open PySem L2 DV PM SP IX
section
variable {P : Program} {w : World} {K : PySem.W.Frag} {mg : Str → Option Value} {base : Heap} {C : Addr}
end
end T3
namespace SP
open PySem L2 DV PM IX
def NAMES : List (List Str) := [["a", "b", "c"], ["region", "shop", "sale"], ["c", "b", "a"], ["t", "u", "v"]]
def CNT : List Nat := [1, 2, 2, 2, 3, 3]
def FEW : List Nat := [0, 1, 1, 1, 2]
def innerT (found : List Tab) (k : Nat) : Nat → List Col × Fd → List Col × Fd
  | 0, z => z
  | j + 1, z =>
    ((innerT found k j z).1 ++ [((["r", "one"] : List Str).getD j "", some ((found.getD (([k - 1, k - 1, fdI (innerT found k j z).2 k] : List Nat).getD (fdI (fdT (innerT found k j z).2 k) 3) 0) ("", [])).1))], fdT (fdT (innerT found k j z).2 k) 3)
/-- of one table: its columns without targets, how many with, the feed behind that -/
def cols0 (s : Fd) : List Col := ((["p", "size"] : List Str).take (FEW.getD (fdI s 5) 0)).map fun n => (n, none)
def manyOf (k left : Nat) (s : Fd) : Nat := if k = 0 then 0 else min left (FEW.getD (fdI (fdT s 5) 5) 0)
def feed2 (k : Nat) (s : Fd) : Fd := if k = 0 then fdT s 5 else fdT (fdT s 5) 5
def outerT (names : List Str) (s0 : Fd) : Nat → List Tab × Nat × Fd
  | 0 => ([], 3, s0)
  | k + 1 =>
    let y := outerT names s0 k
    let w := innerT y.1 k (manyOf k y.2.1 y.2.2) (cols0 y.2.2, feed2 k y.2.2)
    (y.1 ++ [(names.getD k "", w.1)], y.2.1 - manyOf k y.2.1 y.2.2, w.2)
def namesOf (s : Fd) : List Str := NAMES.getD (fdI s 4) []
def countOf (s : Fd) : Nat := CNT.getD (fdI (fdT s 4) 6) 0
def tablesOf (s : Fd) : List Tab := (outerT (namesOf s) (fdT (fdT s 4) 6) (countOf s)).1
def feedOf (s : Fd) : Fd := (outerT (namesOf s) (fdT (fdT s 4) 6) (countOf s)).2.2
def preTables : Pre := fun rs Pl cs r cs' => ∃ p s, rs = [.val (.ref p)] ∧ Pl = [p] ∧ cs = [fdD s] ∧ r = .dat (encTs (tablesOf s)) ∧ cs' = [fdD (feedOf s)]
theorem pk_get {α : Type} (l : List α) (f : α → D) (a0 : α) (s : Fd) (n : Nat) (hn : l.length = n) (h : 0 < n) : (l.map f)[fdI s n]? = some (f (l.getD (fdI s n) a0)) := by
  have hi : fdI s n < l.length := by rw [hn]; exact fdI_lt h
  rw [List.getElem?_map, List.getElem?_eq_getElem hi, List.getD_eq_getElem?_getD, List.getElem?_eq_getElem hi]
  rfl
theorem outer_len (names : List Str) (s0 : Fd) : ∀ k, (outerT names s0 k).1.length = k
  | 0 => rfl
  | k + 1 => by
    show ((outerT names s0 k).1 ++ [_]).length = k + 1
    rw [List.length_append, outer_len names s0 k]; rfl
theorem inner_len (found : List Tab) (k : Nat) (z : List Col × Fd) : ∀ j, (innerT found k j z).1.length = z.1.length + j
  | 0 => rfl
  | j + 1 => by
    show ((innerT found k j z).1 ++ [_]).length = _
    rw [List.length_append, inner_len found k z j]; rfl
theorem names_len (s : Fd) : (namesOf s).length = 3 := by
  have h := fdI_lt (s := s) (show 0 < 4 by decide)
  unfold namesOf NAMES
  generalize fdI s 4 = i at h
  match i, h with
  | 0, _ => rfl
  | 1, _ => rfl
  | 2, _ => rfl
  | 3, _ => rfl
theorem few_le (i : Nat) : FEW.getD i 0 ≤ 2 := by
  unfold FEW
  match i with
  | 0 => decide
  | 1 => decide
  | 2 => decide
  | 3 => decide
  | 4 => decide
  | n + 5 => simp
theorem cnt_le (i : Nat) : CNT.getD i 0 ≤ 3 := by
  unfold CNT
  match i with
  | 0 => decide
  | 1 => decide
  | 2 => decide
  | 3 => decide
  | 4 => decide
  | 5 => decide
  | n + 6 => simp
theorem many_le (k left : Nat) (s : Fd) : manyOf k left s ≤ 2 ∧ manyOf k left s ≤ left := by
  have := few_le (fdI (fdT s 5) 5)
  unfold manyOf
  split <;> omega
theorem cols0_le (s : Fd) : (cols0 s).length ≤ 2 := by
  unfold cols0
  rw [List.length_map, List.length_take]
  have : (["p", "size"] : List Str).length = 2 := rfl
  omega
theorem cutTake {ds : List D} {n : Nat} (h : n ≤ ds.length) : cutD ds none (some (n : Int)) = ds.take n := by
  unfold cutD
  rw [HT.sIx_none, HT.sIx_nat, List.drop_zero, Nat.sub_zero, Nat.min_eq_left h]
section
variable {K : PySem.W.Frag} {P : List Addr} {B0 H0 H : Hp} {ss : List Sl} {cs : List (List D)} {σ : L2.St} {De : Ends}
theorem Sta.setv {i : Nat} {v : V} {r : Sl} (h : Sta K P B0 H0 ss cs σ H) (hv : ∀ B, RS K B v r) : Sta K P B0 H0 (ss.set i r) cs (σ.set i (some v)) H := by
  obtain ⟨B, s, o⟩ := h
  exact ⟨B, s, o.ex, o.sl.set (hv B), o.mu⟩
theorem st_parNew {i j : Nat} {n : Int} (h : Sta K P B0 H0 ss cs σ H) (k : ∀ p σ' H', H0 p = none → p ∉ P → Sta K (p :: P) B0 H0 ((ss.set i (.val (.ref p))).set j (.dat (.int n))) ([] :: cs) σ' H' → De.nx σ' H') : tPar i j (tCons (tLst tNil) (tCons (tC (.int n)) tNil)) De σ H := by
  have q := st_new (D := { De with nx := fun σ' H' => De.nx (σ'.set j (some (.int n))) H' }) (i := i) h (fun p σ' H' a b c => k p _ _ a b (Sta.setv c fun B => .int n))
  exact ⟨q.1, fun p hp => ⟨_, _, rfl, q.2 p hp⟩⟩
end
end SP
namespace T3
open PySem L2 DV PM SP IX
section
variable {P : Program} {w : World} {K : PySem.W.Frag} {mg : Str → Option Value} {base : Heap} {C : Addr}
end
end T3
namespace SP
open PySem L2 DV PM IX
variable {K : PySem.W.Frag}
def rSMul : R2 := fun x y H Q => ∃ a k, x = .str a ∧ y = .int k ∧ MulOk a k ∧ Q (.str (Txt.mul a k)) H
theorem op_smul {X : Cx} : OpR X (binaryOp .Mult) rSMul := by
  intro pins s σ H x y v u Q I rx ry h
  obtain ⟨a, k, rfl, rfl, hok, q⟩ := h
  obtain ⟨t, rfl⟩ := rx
  obtain ⟨t', rfl⟩ := ry
  exact SB.mul hok fun t' n => ⟨.str (Txt.mul a k), H, I.tok n, ⟨t', rfl⟩, q⟩
def XS : List Str := ["x", "xx", "xxx"]
def xs (k : Nat) : Str := XS.getD k ""
theorem od_smulX {k : Nat} (hk : k < 3) : OpD K rSMul (.dat (.str "x")) (.dat (.int ((k : Int) + 1))) (.dat (.str (xs k))) := fun B H x y e h1 h2 Q q => by
  have a' : Rp K B x (.str "x") := h1
  have b' : Rp K B y (.int ((k : Int) + 1)) := h2
  cases a'; cases b'
  have m : MulOk "x" ((k : Int) + 1) ∧ Txt.mul "x" ((k : Int) + 1) = xs k := by
    match k, hk with
    | 0, _ => exact ⟨⟨by decide +kernel, by decide +kernel, by decide +kernel⟩, by decide +kernel⟩
    | 1, _ => exact ⟨⟨by decide +kernel, by decide +kernel, by decide +kernel⟩, by decide +kernel⟩
    | 2, _ => exact ⟨⟨by decide +kernel, by decide +kernel, by decide +kernel⟩, by decide +kernel⟩
  refine ⟨_, _, rfl, rfl, m.1, ?_⟩
  rw [m.2]
  exact q _ B H (Stp.refl _ _ _) e (.str _)
/-! the dict of the new names -/
def dOf : Nat → List Str → List (Key × D)
  | _, [] => []
  | j, a :: r => (Sum.inr a, .str (xs j)) :: dOf (j + 1) r
def vOf : Nat → List Str → List (Key × V)
  | _, [] => []
  | j, a :: r => (Sum.inr a, .str (xs j)) :: vOf (j + 1) r
theorem rpk_of {B : Hp} : ∀ (j : Nat) (l : List Str), RpK K B (vOf j l) (dOf j l)
  | _, [] => .nil
  | j, a :: r => .cons (.str _) (rpk_of (j + 1) r)
theorem vOf_len : ∀ (j : Nat) (l : List Str), (vOf j l).length = l.length
  | _, [] => rfl
  | j, a :: r => by show (vOf (j + 1) r).length + 1 = r.length + 1; rw [vOf_len]
theorem vOf_snoc : ∀ (j : Nat) (l : List Str) (a : Str), vOf j (l ++ [a]) = vOf j l ++ [(Sum.inr a, .str (xs (j + l.length)))]
  | _, [], _ => rfl
  | j, b :: r, a => by
    show (Sum.inr b, V.str (xs j)) :: vOf (j + 1) (r ++ [a]) = _
    rw [vOf_snoc (j + 1) r a, List.length_cons, show j + 1 + r.length = j + (r.length + 1) by omega]
    rfl
theorem vOf_mem : ∀ {j : Nat} {l : List Str} {p : Key × V}, p ∈ vOf j l → ∃ a ∈ l, p.1 = Sum.inr a
  | _, [], _, h => by cases h
  | j, b :: r, p, h => by
    rcases List.mem_cons.mp h with rfl | h
    · exact ⟨b, List.mem_cons_self, rfl⟩
    · obtain ⟨a, h1, h2⟩ := vOf_mem (j := j + 1) (l := r) h
      exact ⟨a, List.mem_cons_of_mem _ h1, h2⟩
theorem valD_dOf {n : Str} : ∀ (j : Nat) {l : List Str}, n ∈ l → valD (dOf j l) (.inr n) = some (.str (xs (j + idxN n l)))
  | _, [], h => by cases h
  | j, b :: r, h => by
    by_cases e : b = n
    · have z : idxN n (b :: r) = 0 := if_pos e
      rw [z]
      unfold valD dOf
      rw [List.find?_cons]
      simp [e]
    · have z : idxN n (b :: r) = idxN n r + 1 := if_neg e
      have h' : n ∈ r := by
        rcases List.mem_cons.mp h with q | q
        · exact absurd q.symm e
        · exact q
      have ih := valD_dOf (j + 1) h'
      rw [z, show j + (idxN n r + 1) = j + 1 + idxN n r by omega, ← ih]
      have ne : ¬ (Sum.inr b : Key) = Sum.inr n := fun q => e (Sum.inr.inj q)
      show ((((Sum.inr b, D.str (xs j)) :: dOf (j + 1) r).find? fun kv => decide (kv.1 = Sum.inr n)).map (·.2)) = _
      rw [List.find?_cons]
      simp only [ne, decide_false]
      rfl
theorem idxN_app {n : Str} : ∀ {l m : List Str}, n ∈ l → idxN n (l ++ m) = idxN n l
  | [], _, h => by cases h
  | b :: r, m, h => by
    by_cases e : b = n
    · show (if b = n then 0 else _) = (if b = n then 0 else _)
      rw [if_pos e, if_pos e]
    · have h' : n ∈ r := by
        rcases List.mem_cons.mp h with q | q
        · exact absurd q.symm e
        · exact q
      show (if b = n then 0 else idxN n (r ++ m) + 1) = (if b = n then 0 else idxN n r + 1)
      rw [if_neg e, if_neg e, idxN_app h']
/-! the renamed tables -/
def namC (names : List Str) (c : Col) : Col := (c.1 ++ "q", c.2.map fun n => xs (idxN n names))
def namT (names : List Str) (k : Nat) (t : Tab) : Tab := (xs k, t.2.map (namC names))
def namedT (T : List Tab) : List Tab := T.mapIdx (namT (T.map (·.1)))
def tgtsEarly (T : List Tab) : Prop := ∀ i t, T[i]? = some t → ∀ c ∈ t.2, ∀ n, c.2 = some n → n ∈ (T.take i).map (·.1)
def preNamed : Pre := fun rs Pl cs r cs' => ∃ T, rs = [.dat (encTs T)] ∧ schOk T ∧ tgtsEarly T ∧ Pl = [] ∧ cs = [] ∧ r = .dat (encTs (namedT T)) ∧ cs' = []
/-! a dict is told no more -/
def rmH (B : Hp) (p : Addr) : Hp := fun b => if b = p then none else B b
theorem rm_ne {B : Hp} {p b : Addr} (h : b ≠ p) : rmH B p b = B b := if_neg h
theorem rm_eq {B : Hp} {p : Addr} : rmH B p p = none := if_pos rfl
mutual
theorem Rp.rm {B : Hp} {p : Addr} {kvs : List (Key × V)} (hb : B p = some (.dK kvs)) : ∀ {v : V} {d : D}, Rp K B v d → d.pl = true → Rp K (rmH B p) v d
  | _, _, .non, _ => .non
  | _, _, .bl b, _ => .bl b
  | _, _, .int i, _ => .int i
  | _, _, .str x, _ => .str x
  | _, _, .lst (a := a) h r, q => .lst (by rw [rm_ne (fun z => by rw [z, hb] at h; cases h)]; exact h) (RpA.rm hb r (by simpa [D.pl] using q))
  | _, _, .tup (a := a) h r, q => .tup (by
      rcases h with h | ⟨o, h⟩
      · exact .inl (by rw [rm_ne (fun z => by rw [z, hb] at h; cases h)]; exact h)
      · exact .inr ⟨o, by rw [rm_ne (fun z => by rw [z, hb] at h; cases h)]; exact h⟩) (RpA.rm hb r (by simpa [D.pl] using q))
  | _, _, .dic _ _, q => by simp [D.pl] at q
  | _, _, .obj _ _, q => by simp [D.pl] at q
  | _, _, .fro _ _, q => by simp [D.pl] at q
  | _, _, .nt _ _ _, q => by simp [D.pl] at q
theorem RpA.rm {B : Hp} {p : Addr} {kvs : List (Key × V)} (hb : B p = some (.dK kvs)) : ∀ {vs : List V} {ds : List D}, RpA K B vs ds → D.plA ds = true → RpA K (rmH B p) vs ds
  | _, _, .nil, _ => .nil
  | _, _, .cons h r, q => .cons (Rp.rm hb h (by simp [D.plA] at q; exact q.1)) (RpA.rm hb r (by simp [D.plA] at q; exact q.2))
end
theorem plA_map {α : Type} {f : α → D} (h : ∀ a, (f a).pl = true) : ∀ l : List α, D.plA (l.map f) = true
  | [] => rfl
  | a :: r => by simp [D.plA, h a, plA_map h r]
theorem encC_pl (c : Col) : (encC c).pl = true := by
  obtain ⟨n, t⟩ := c
  cases t <;> rfl
theorem encT_pl (t : Tab) : (encT t).pl = true := by
  have := plA_map encC_pl t.2
  simp [encT, D.pl, D.plA, this]
theorem encTs_pl (T : List Tab) : (encTs T).pl = true := by
  have := plA_map encT_pl T
  simpa [encTs, D.pl] using this
theorem slots_re {B : Hp} {σ : L2.St} {ss : List Sl} {i : Nat} {w : V} {r : Sl} (h : Slots K B σ ss) (hi : σ[i]? = some (some w)) (hr : RS K B w r) : Slots K B σ (ss.set i r) := by
  have e : σ.set i (some w) = σ := by
    apply List.ext_getElem?
    intro j
    rw [List.getElem?_set]
    by_cases hj : i = j
    · subst hj
      rw [if_pos rfl, if_pos (List.getElem?_eq_some_iff.mp hi).1, hi]
    · rw [if_neg hj]
  have := h.set (i := i) hr
  rw [e] at this
  exact this
theorem slots_rm {B : Hp} {p : Addr} {kvs : List (Key × V)} (hb : B p = some (.dK kvs)) {σ : L2.St} {ss : List Sl} (h : Slots K B σ ss) (hp : ∀ r ∈ ss, ∀ d, r = .dat d → d.pl = true) : Slots K (rmH B p) σ ss :=
  ⟨h.len, fun i r a b => by
    obtain ⟨v, h1, h2⟩ := h.get i r a b
    refine ⟨v, h1, ?_⟩
    cases r with
    | any => exact True.intro
    | val u => exact h2
    | dat d => exact Rp.rm hb h2 (hp _ (List.mem_of_getElem? a) d rfl)⟩
theorem idxN_nodup {a : Str} : ∀ {l : List Str} {i : Nat}, l.Nodup → l[i]? = some a → idxN a l = i
  | [], i, _, h => by simp at h
  | b :: r, 0, _, h => by
    have e : b = a := by simpa using h
    exact if_pos e
  | b :: r, i + 1, nd, h => by
    have h' : r[i]? = some a := by simpa using h
    have nd' : b ∉ r ∧ r.Nodup := by simpa using nd
    have ne : ¬ b = a := fun z => nd'.1 (z ▸ List.mem_of_getElem? h')
    show (if b = a then 0 else idxN a r + 1) = i + 1
    rw [if_neg ne, idxN_nodup nd'.2 h']
end SP
namespace T3
open PySem L2 DV PM SP IX
section
variable {P : Program} {w : World} {K : PySem.W.Frag} {mg : Str → Option Value} {base : Heap} {C : Addr}
end
end T3
/-! M: what the drawn tables are. -/
namespace SP
open PySem L2 DV PM IX
/-! okTabs and its parts -/
theorem okCols_app : ∀ {T : List Tab} {done a b : List Col}, okCols T done (a ++ b) ↔ okCols T done a ∧ okCols T (done ++ a) b
  | T, done, [], b => by simp [okCols]
  | T, done, c :: a, b => by
    show (okCol T done c ∧ okCols T (done ++ [c]) (a ++ b)) ↔ (okCol T done c ∧ okCols T (done ++ [c]) a) ∧ _
    rw [okCols_app (T := T) (done := done ++ [c]) (a := a) (b := b), List.append_assoc]
    constructor
    · rintro ⟨h1, h2, h3⟩; exact ⟨⟨h1, h2⟩, h3⟩
    · rintro ⟨⟨h1, h2⟩, h3⟩; exact ⟨h1, h2, h3⟩
theorem okTabs_app : ∀ {T a b : List Tab}, okTabs T (a ++ b) ↔ okTabs T a ∧ okTabs (T ++ a) b
  | T, [], b => by simp [okTabs]
  | T, t :: a, b => by
    show (okTab T t ∧ okTabs (T ++ [t]) (a ++ b)) ↔ (okTab T t ∧ okTabs (T ++ [t]) a) ∧ _
    rw [okTabs_app (T := T ++ [t]) (a := a) (b := b), List.append_assoc]
    constructor
    · rintro ⟨h1, h2, h3⟩; exact ⟨⟨h1, h2⟩, h3⟩
    · rintro ⟨⟨h1, h2⟩, h3⟩; exact ⟨h1, h2, h3⟩
theorem okTabs_at {T : List Tab} (h : okTabs [] T) {i : Nat} {t : Tab} (ht : T[i]? = some t) : okTab (T.take i) t := by
  have hi : i < T.length := (List.getElem?_eq_some_iff.mp ht).1
  have e : T = T.take i ++ (t :: T.drop (i + 1)) := by
    rw [← (List.getElem?_eq_some_iff.mp ht).2, ← List.drop_eq_getElem_cons hi, List.take_append_drop]
  rw [e] at h
  have := (okTabs_app.mp h).2.1
  simpa using this
theorem okTabs_take {T : List Tab} (h : okTabs [] T) (i : Nat) : okTabs [] (T.take i) := by
  rw [← List.take_append_drop i T] at h
  exact (okTabs_app.mp h).1
theorem okCols_take {T : List Tab} {cs : List Col} (h : okCols T [] cs) (i : Nat) : okCols T [] (cs.take i) := by
  rw [← List.take_append_drop i cs] at h
  exact (okCols_app.mp h).1
theorem okCols_at {T : List Tab} {cs : List Col} (h : okCols T [] cs) {i : Nat} {c : Col} (ht : cs[i]? = some c) : okCol T (cs.take i) c := by
  have hi : i < cs.length := (List.getElem?_eq_some_iff.mp ht).1
  have e : cs = cs.take i ++ (c :: cs.drop (i + 1)) := by
    rw [← (List.getElem?_eq_some_iff.mp ht).2, ← List.drop_eq_getElem_cons hi, List.take_append_drop]
  rw [e] at h
  have := (okCols_app.mp h).2.1
  simpa using this
theorem ok_len {T : List Tab} (h : okTabs [] T) : T.length ≤ 3 := by
  by_cases z : T.length = 0
  · omega
  · have hi : T.length - 1 < T.length := by omega
    have := (okTabs_at h (List.getElem?_eq_getElem hi)).2.2.1
    rw [List.length_take] at this
    omega
theorem refs_len : ∀ (cs : List Col), refsN cs ≤ cs.length := fun cs => List.length_filter_le _ _
theorem okCols_len {T : List Tab} {cs : List Col} (h : okCols T [] cs) : cs.length ≤ 4 := by
  have key : ∀ i ≤ cs.length, (cs.take i).length ≤ refsN (cs.take i) + 2 ∧ refsN (cs.take i) ≤ 2 := by
    intro i
    induction i with
    | zero => intro _; simp [refsN]
    | succ i ih =>
      intro hi
      obtain ⟨h1, h2⟩ := ih (by omega)
      have ht : cs[i]? = some cs[i] := List.getElem?_eq_getElem (by omega)
      have hc := okCols_at h ht
      generalize cs[i] = c at ht hc
      rw [List.take_add_one, ht]
      show (cs.take i ++ [c]).length ≤ refsN (cs.take i ++ [c]) + 2 ∧ refsN (cs.take i ++ [c]) ≤ 2
      rw [refsN_snoc, List.length_append]
      obtain ⟨n, t⟩ := c
      cases t with
      | none =>
        obtain ⟨a, b, _⟩ := hc
        simp only [Option.isSome, List.length_cons, List.length_nil, if_true, Bool.false_eq_true, if_false]
        omega
      | some t =>
        obtain ⟨a, _⟩ := hc
        simp only [Option.isSome, List.length_cons, List.length_nil, if_true, Bool.false_eq_true, if_false]
        omega
  have := key cs.length (Nat.le_refl _)
  rw [List.take_length] at this
  omega
theorem ok_tabsOk {T : List Tab} (h : okTabs [] T) : tabsOk T := by
  refine ⟨ok_len h, fun t ht => ?_⟩
  obtain ⟨i, hi, e⟩ := List.getElem_of_mem ht
  have ht' : T[i]? = some t := by rw [List.getElem?_eq_getElem hi, e]
  obtain ⟨h1, h2, h3, h4⟩ := okTabs_at h ht'
  refine ⟨wordOk_fine h1, okCols_len h4, fun c hc => ?_⟩
  obtain ⟨j, hj, ec⟩ := List.getElem_of_mem hc
  have hc' := okCols_at h4 (show t.2[j]? = some c by rw [List.getElem?_eq_getElem hj, ec])
  obtain ⟨n, o⟩ := c
  cases o with
  | none => exact ⟨wordOk_fine hc'.2.2.1, fun t e => by cases e⟩
  | some o =>
    refine ⟨wordOk_fine hc'.2.2.1, fun t' e => ?_⟩
    cases e
    obtain ⟨u, hu, eu⟩ := List.mem_map.mp hc'.2.2.2.2
    obtain ⟨k, hk, ek⟩ := List.getElem_of_mem hu
    have hku : (T.take i)[k]? = some u := by rw [List.getElem?_eq_getElem hk, ek]
    have hk2 : T[k]? = some u := by
      have : k < i := by rw [List.length_take] at hk; omega
      rw [List.getElem?_take_of_lt this] at hku
      exact hku
    rw [← eu]
    exact wordOk_fine (okTabs_at h hk2).1
theorem ok_nodup {T : List Tab} (h : okTabs [] T) : (T.map (·.1)).Nodup := by
  refine List.pairwise_iff_getElem.mpr fun i j hi hj hij e => ?_
  rw [List.length_map] at hi hj
  have hj' : T[j]? = some T[j] := List.getElem?_eq_getElem hj
  have := (okTabs_at h hj').2.1
  apply this
  rw [List.getElem_map, List.getElem_map] at e
  rw [← e]
  exact List.mem_map.mpr ⟨T[i], List.mem_iff_getElem?.mpr ⟨i, by rw [List.getElem?_take_of_lt hij, List.getElem?_eq_getElem hi]⟩, rfl⟩
theorem ok_sch {T : List Tab} (h : okTabs [] T) : schOk T := ⟨ok_tabsOk h, ok_nodup h⟩
theorem ok_early {T : List Tab} (h : okTabs [] T) : tgtsEarly T := fun i t ht c hc n hn => by
  obtain ⟨j, hj, ec⟩ := List.getElem_of_mem hc
  have hc' := okCols_at (okTabs_at h ht).2.2.2 (show t.2[j]? = some c by rw [List.getElem?_eq_getElem hj, ec])
  obtain ⟨m, o⟩ := c
  cases (show o = some n from hn)
  exact hc'.2.2.2.2
theorem early_ok {T : List Tab} (h : tgtsEarly T) : tgtsOk T := fun t ht c hc n hn => by
  obtain ⟨i, hi, e⟩ := List.getElem_of_mem ht
  have := h i t (by rw [List.getElem?_eq_getElem hi, e]) c hc n hn
  rw [List.map_take] at this
  exact List.mem_of_mem_take this
/-! the text -/
theorem words_fine {T : List Tab} (h : tabsOk T) : ∀ ws ∈ words T, ws ≠ [] ∧ ∀ w ∈ ws, free 10 w ∧ free 32 w := fun ws hw => by
  obtain ⟨t, ht, hw⟩ := List.mem_flatMap.mp hw
  obtain ⟨h1, _, h2⟩ := h.2 t ht
  rcases List.mem_cons.mp hw with rfl | hw
  · refine ⟨by simp, fun l hl => ?_⟩
    rcases List.mem_cons.mp hl with rfl | hl
    · exact ⟨wordOk_table.1, wordOk_table.2.1⟩
    · rw [List.mem_singleton.mp hl]; exact ⟨h1.1, h1.2.1⟩
  · obtain ⟨c, hc, rfl⟩ := List.mem_map.mp hw
    have hco := h2 c hc
    obtain ⟨n, t⟩ := c
    refine ⟨by cases t <;> simp [colWords], fun l hl => ?_⟩
    cases t with
    | none =>
      have : l = "" ∨ l = "" ∨ l = "plain" ∨ l = n := by simpa [colWords] using hl
      rcases this with rfl | rfl | rfl | rfl
      · exact ⟨wordOk_empty.1, wordOk_empty.2.1⟩
      · exact ⟨wordOk_empty.1, wordOk_empty.2.1⟩
      · exact ⟨wordOk_plain.1, wordOk_plain.2.1⟩
      · exact ⟨hco.1.1, hco.1.2.1⟩
    | some t =>
      have : l = "" ∨ l = "" ∨ l = "ref" ∨ l = n ∨ l = t := by simpa [colWords] using hl
      rcases this with rfl | rfl | rfl | rfl | rfl
      · exact ⟨wordOk_empty.1, wordOk_empty.2.1⟩
      · exact ⟨wordOk_empty.1, wordOk_empty.2.1⟩
      · exact ⟨wordOk_ref.1, wordOk_ref.2.1⟩
      · exact ⟨hco.1.1, hco.1.2.1⟩
      · exact ⟨(hco.2 _ rfl).1, (hco.2 _ rfl).2.1⟩
theorem words_ne {T : List Tab} (h : T ≠ []) : words T ≠ [] := by
  cases T with
  | nil => exact absurd rfl h
  | cons t r => intro z; simp [words, tabWords] at z
theorem split_text {T : List Tab} (h : tabsOk T) (hn : T ≠ []) : Txt.split (textOf T) nl = rowsOf T := by
  unfold textOf rowsOf
  rw [show nl = (⟨#[10]⟩ : Str) from nl_is]
  refine split_join 10 (by simpa using words_ne hn) (fun l hl => ?_)
  obtain ⟨ws, hw, rfl⟩ := List.mem_map.mp hl
  exact free_row fun w hw' => ((words_fine h ws hw).2 w hw').1
theorem read_text {T : List Tab} (h : okTabs [] T) (hn : T ≠ []) : readText (textOf T) = some T := by
  have ht := ok_tabsOk h
  unfold readText wordsText
  rw [split_text ht hn]
  unfold rowsOf
  rw [List.map_map]
  have e : (words T).map ((fun r => Txt.split r sp) ∘ PM.rowOf) = words T := by
    conv => rhs; rw [← List.map_id (words T)]
    apply List.map_congr_left
    intro ws hw
    exact split_row (words_fine ht ws hw).1 fun w hw' => ((words_fine ht ws hw).2 w hw').2
  rw [e]
  exact read_tabs T [] h
/-! the beginnings -/
theorem begin_words : ∀ (T : List Tab) (m : Nat), 1 ≤ m → m ≤ (words T).length → ∃ T1 t T2 j, T = T1 ++ t :: T2 ∧ (words T).take m = words (T1 ++ [(t.1, t.2.take j)]) ∧ j ≤ t.2.length
  | [], m, h1, h2 => by simp [words] at h2; omega
  | t :: r, m, h1, h2 => by
    have e : words (t :: r) = tabWords t ++ words r := rfl
    have hl : (tabWords t).length = t.2.length + 1 := by simp [tabWords]
    by_cases hm : m ≤ t.2.length + 1
    · refine ⟨[], t, r, m - 1, rfl, ?_, by omega⟩
      rw [e, List.take_append_of_le_length (by omega)]
      show (tabWords t).take m = tabWords (t.1, t.2.take (m - 1)) ++ words []
      unfold tabWords
      obtain ⟨m', rfl⟩ : ∃ m', m = m' + 1 := ⟨m - 1, by omega⟩
      simp [words, List.map_take]
    · have h2' : m - (t.2.length + 1) ≤ (words r).length := by
        rw [e, List.length_append, hl] at h2; omega
      obtain ⟨T1, u, T2, j, e1, e2, hj⟩ := begin_words r (m - (t.2.length + 1)) (by omega) h2'
      refine ⟨t :: T1, u, T2, j, by rw [e1]; rfl, ?_, hj⟩
      rw [e, List.take_append, hl, List.take_of_length_le (by omega), e2]
      rfl
theorem begin_ok {T1 T2 : List Tab} {t : Tab} (h : okTabs [] (T1 ++ t :: T2)) (j : Nat) : okTabs [] (T1 ++ [(t.1, t.2.take j)]) := by
  obtain ⟨h1, h2⟩ := okTabs_app.mp h
  exact okTabs_app.mpr ⟨h1, ⟨h2.1.1, h2.1.2.1, h2.1.2.2.1, okCols_take h2.1.2.2.2 j⟩, True.intro⟩
end SP
/-! M2: the drawn tables are right ones, also with other names. -/
namespace SP
open PySem L2 DV PM IX
theorem join_len (y : Str) : ∀ ls : List Str, (Txt.join y ls).length ≤ (ls.map (·.length)).sum + ls.length * y.length
  | [] => by show (Str.empty).length ≤ _; exact Nat.zero_le _
  | [a] => by rw [join_one]; simp
  | a :: b :: r => by
    rw [join_cons, len_app, len_app]
    have := join_len y (b :: r)
    simp only [List.map_cons, List.sum_cons, List.length_cons, Nat.add_mul] at this ⊢
    omega
theorem text_ok {T : List Tab} (h : tabsOk T) (hn : T ≠ []) : (textOf T).length ≤ 100000 ∧ PyData.strOk (textOf T) = true := by
  have h2 := T3.rows_len h T.length
  rw [List.take_length] at h2
  have h3 := h.1
  have h1 := sum_le (ls := rowsOf T) (k := 30) (fun l hl => (row_ok h hl).2)
  have h4 := join_len nl (rowsOf T)
  have h5 : nl.length = 1 := by decide +kernel
  have e : textOf T = Txt.join nl (rowsOf T) := rfl
  rw [h5] at h4
  refine ⟨by rw [e]; omega, ?_⟩
  rw [e]
  exact ok_join (by decide +kernel) (by unfold rowsOf; simpa using words_ne hn) (fun l hl => (row_ok h hl).1)
/-! drawn -/
def CN : List Str := ["p", "size", "r", "one"]
theorem names_ok (s : Fd) : (namesOf s).Nodup ∧ ∀ n ∈ namesOf s, fineB n = true ∧ n ≠ "x" := by
  have h := fdI_lt (s := s) (show 0 < 4 by decide)
  unfold namesOf NAMES
  generalize fdI s 4 = i at h
  match i, h with
  | 0, _ => exact by decide +kernel
  | 1, _ => exact by decide +kernel
  | 2, _ => exact by decide +kernel
  | 3, _ => exact by decide +kernel
theorem refsN_app (a b : List Col) : refsN (a ++ b) = refsN a + refsN b := by unfold refsN; rw [List.filter_append, List.length_append]
theorem cols0_ok (T : List Tab) (s : Fd) : okCols T [] (cols0 s) ∧ refsN (cols0 s) = 0 ∧ (cols0 s).map Prod.fst = (["p", "size"] : List Str).take (FEW.getD (fdI s 5) 0) := by
  have h := few_le (fdI s 5)
  unfold cols0
  generalize FEW.getD (fdI s 5) 0 = n at h
  have f1 : fineB "p" = true := by decide +kernel
  have f2 : fineB "size" = true := by decide +kernel
  have f3 : ("size" : Str) ∉ [("p" : Str)] := by decide +kernel
  match n, h with
  | 0, _ => exact ⟨True.intro, rfl, rfl⟩
  | 1, _ => exact ⟨⟨⟨rfl, by decide, f1, by simp⟩, True.intro⟩, rfl, rfl⟩
  | 2, _ => exact ⟨⟨⟨rfl, by decide, f1, by simp⟩, ⟨rfl, by decide, f2, f3⟩, True.intro⟩, rfl, rfl⟩
theorem new_ref {n j : Nat} (hn : n ≤ 2) (hj : j < 2) : fineB ((["r", "one"] : List Str).getD j "") = true ∧ (["r", "one"] : List Str).getD j "" ∉ (["p", "size"] : List Str).take n ++ (["r", "one"] : List Str).take j := by
  match n, hn, j, hj with
  | 0, _, 0, _ => decide +kernel
  | 0, _, 1, _ => decide +kernel
  | 1, _, 0, _ => decide +kernel
  | 1, _, 1, _ => decide +kernel
  | 2, _, 0, _ => decide +kernel
  | 2, _, 1, _ => decide +kernel
theorem inner_ok {found : List Tab} {k : Nat} {z : List Col × Fd} {n many : Nat} (hk : found.length = k) (hk0 : 0 < many → 0 < k) (hn : n ≤ 2) (hm2 : many ≤ 2) (hs : sumRefs found + many ≤ 3) (h1 : okCols found [] z.1) (h2 : refsN z.1 = 0) (h3 : z.1.map Prod.fst = (["p", "size"] : List Str).take n) :
    ∀ j, j ≤ many → okCols found [] (innerT found k j z).1 ∧ refsN (innerT found k j z).1 = j ∧ (innerT found k j z).1.map Prod.fst = (["p", "size"] : List Str).take n ++ (["r", "one"] : List Str).take j
  | 0, _ => ⟨h1, h2, by rw [List.take_zero, List.append_nil]; exact h3⟩
  | j + 1, hj => by
    obtain ⟨i1, i2, i3⟩ := inner_ok hk hk0 hn hm2 hs h1 h2 h3 j (by omega)
    have kp := hk0 (by omega)
    obtain ⟨f1, f2⟩ := new_ref (n := n) (j := j) hn (by omega)
    rw [← i3] at f2
    have hix : ([k - 1, k - 1, fdI (innerT found k j z).2 k] : List Nat).getD (fdI (fdT (innerT found k j z).2 k) 3) 0 < k := by
      have hfd := fdI_lt (s := (innerT found k j z).2) kp
      have h3 := fdI_lt (s := fdT (innerT found k j z).2 k) (show 0 < 3 by decide)
      generalize fdI (fdT (innerT found k j z).2 k) 3 = q at h3
      match q, h3 with
      | 0, _ => show k - 1 < k; omega
      | 1, _ => show k - 1 < k; omega
      | 2, _ => exact hfd
    show okCols found [] ((innerT found k j z).1 ++ [_]) ∧ refsN ((innerT found k j z).1 ++ [_]) = j + 1 ∧ ((innerT found k j z).1 ++ [_]).map Prod.fst = _
    generalize ([k - 1, k - 1, fdI (innerT found k j z).2 k] : List Nat).getD (fdI (fdT (innerT found k j z).2 k) 3) 0 = ix at hix
    refine ⟨okCols_app.mpr ⟨i1, ⟨?_, True.intro⟩⟩, ?_, ?_⟩
    · rw [List.nil_append]
      refine ⟨by omega, by omega, f1, f2, ?_⟩
      have hi : ix < found.length := by omega
      rw [List.getD_eq_getElem?_getD, List.getElem?_eq_getElem hi]
      exact List.mem_map.mpr ⟨_, List.getElem_mem hi, rfl⟩
    · rw [refsN_snoc, i2]; simp
    · rw [List.map_append, i3, List.append_assoc]
      congr 1
      have : j < 2 := by omega
      match j, this with
      | 0, _ => rfl
      | 1, _ => rfl
theorem outer_ok (s : Fd) (s0 : Fd) : ∀ k, k ≤ 3 → okTabs [] (outerT (namesOf s) s0 k).1 ∧ (outerT (namesOf s) s0 k).1.map Prod.fst = (namesOf s).take k ∧ (outerT (namesOf s) s0 k).2.1 + sumRefs (outerT (namesOf s) s0 k).1 = 3 ∧ ∀ t ∈ (outerT (namesOf s) s0 k).1, ∀ c ∈ t.2, c.1 ∈ CN
  | 0, _ => ⟨True.intro, rfl, rfl, fun t h => by cases h⟩
  | k + 1, hk => by
    obtain ⟨o1, o2, o3, o4⟩ := outer_ok s s0 k (by omega)
    have hlen := outer_len (namesOf s) s0 k
    obtain ⟨n1, n2⟩ := names_ok s
    have n3 := names_len s
    show okTabs [] ((outerT (namesOf s) s0 k).1 ++ [_]) ∧ ((outerT (namesOf s) s0 k).1 ++ [_]).map Prod.fst = _ ∧ _ - _ + sumRefs ((outerT (namesOf s) s0 k).1 ++ [_]) = 3 ∧ ∀ t ∈ (outerT (namesOf s) s0 k).1 ++ [_], ∀ c ∈ t.2, c.1 ∈ CN
    generalize outerT (namesOf s) s0 k = Y at o1 o2 o3 o4 hlen
    obtain ⟨found, left, sk⟩ := Y
    simp only [] at o1 o2 o3 o4 hlen
    obtain ⟨c1, c2, c3⟩ := cols0_ok found sk
    obtain ⟨m1, m2⟩ := many_le k left sk
    have hk0 : 0 < manyOf k left sk → 0 < k := fun h => by
      by_cases z : k = 0
      · have : manyOf k left sk = 0 := if_pos z
        omega
      · omega
    obtain ⟨i1, i2, i3⟩ := inner_ok (z := (cols0 sk, feed2 k sk)) hlen hk0 (few_le (fdI sk 5)) m1 (by omega) c1 c2 c3 (manyOf k left sk) (Nat.le_refl _)
    have hnk : (namesOf s)[k]? = some ((namesOf s).getD k "") := by
      have : k < (namesOf s).length := by omega
      rw [List.getD_eq_getElem?_getD, List.getElem?_eq_getElem this]
      rfl
    have hmem := List.mem_of_getElem? hnk
    have htk : (namesOf s).take (k + 1) = (namesOf s).take k ++ [(namesOf s).getD k ""] := by rw [List.take_add_one, hnk]; rfl
    have hnew : (namesOf s).getD k "" ∉ (namesOf s).take k := fun z => by
      have nd2 : ((namesOf s).take (k + 1)).Nodup := n1.sublist (List.take_sublist _ _)
      rw [htk] at nd2
      exact (List.nodup_append.mp nd2).2.2 _ z _ (by simp) rfl
    refine ⟨okTabs_snoc _ _ _ o1 ⟨(n2 _ hmem).1, ?_, ?_, ?_⟩, ?_, ?_, ?_⟩
    · rw [List.nil_append, o2]; exact hnew
    · rw [List.nil_append]; show found.length < 3; omega
    · rw [List.nil_append]; exact i1
    · rw [List.map_append, o2, htk]; rfl
    · rw [sumRefs_snoc]
      show left - manyOf k left sk + (sumRefs found + refsN (innerT found k (manyOf k left sk) (cols0 sk, feed2 k sk)).1) = 3
      rw [i2]; omega
    · intro t ht c hc
      rcases List.mem_append.mp ht with h | h
      · exact o4 t h c hc
      · rw [List.mem_singleton.mp h] at hc
        have hcn : c.1 ∈ (innerT found k (manyOf k left sk) (cols0 sk, feed2 k sk)).1.map Prod.fst := List.mem_map.mpr ⟨c, hc, rfl⟩
        rw [i3] at hcn
        rcases List.mem_append.mp hcn with q | q
        · have := List.mem_of_mem_take q
          have e : c.1 = "p" ∨ c.1 = "size" := by simpa using this
          rcases e with e | e <;> rw [e] <;> decide +kernel
        · have := List.mem_of_mem_take q
          have e : c.1 = "r" ∨ c.1 = "one" := by simpa using this
          rcases e with e | e <;> rw [e] <;> decide +kernel
theorem cnt_pos (s : Fd) : 1 ≤ countOf s := by
  have h := fdI_lt (s := fdT s 4) (show 0 < 6 by decide)
  unfold countOf CNT
  generalize fdI (fdT s 4) 6 = i at h
  match i, h with
  | 0, _ => decide
  | 1, _ => decide
  | 2, _ => decide
  | 3, _ => decide
  | 4, _ => decide
  | 5, _ => decide
theorem drawn (s : Fd) : okTabs [] (tablesOf s) ∧ tablesOf s ≠ [] ∧ (∀ t ∈ tablesOf s, ∀ c ∈ t.2, c.1 ∈ CN) ∧ ∀ t ∈ tablesOf s, t.1 ≠ "x" := by
  obtain ⟨o1, o2, _, o4⟩ := outer_ok s (fdT (fdT s 4) 6) (countOf s) (cnt_le _)
  have hlen := outer_len (namesOf s) (fdT (fdT s 4) 6) (countOf s)
  refine ⟨o1, fun z => ?_, o4, fun t ht => ?_⟩
  · have := cnt_pos s
    have e : (tablesOf s).length = countOf s := hlen
    rw [z] at e
    simp at e
    omega
  · have : t.1 ∈ (tablesOf s).map Prod.fst := List.mem_map.mpr ⟨t, ht, rfl⟩
    have e : (tablesOf s).map Prod.fst = (namesOf s).take (countOf s) := o2
    rw [e] at this
    exact ((names_ok s).2 _ (List.mem_of_mem_take this)).2
end SP
/-! M3: other names. -/
namespace SP
open PySem L2 DV PM IX
theorem fine_q {n : Str} (h : n ∈ CN) : fineB (n ++ "q") = true := by
  have e : n = "p" ∨ n = "size" ∨ n = "r" ∨ n = "one" := by simpa [CN] using h
  rcases e with rfl | rfl | rfl | rfl <;> decide +kernel
theorem q_inj {a b : Str} (h : a ++ ("q" : Str) = b ++ "q") : a = b := by
  apply lst_eq
  have := congrArg (fun x : Str => x.cps.toList) h
  simp only [app_list] at this
  exact List.append_cancel_right this
theorem xs_ok {i : Nat} (h : i < 3) : fineB (xs i) = true ∧ xs i ∉ (List.range i).map xs := by
  match i, h with
  | 0, _ => decide +kernel
  | 1, _ => decide +kernel
  | 2, _ => decide +kernel
theorem refs_nam (ns : List Str) (cs : List Col) : refsN (cs.map (namC ns)) = refsN cs := by
  unfold refsN
  rw [List.filter_map, List.length_map]
  congr 1
  apply List.filter_congr
  intro c _
  obtain ⟨n, t⟩ := c
  cases t <;> rfl
theorem named_len (T : List Tab) : (namedT T).length = T.length := List.length_mapIdx
theorem named_get {T : List Tab} {i : Nat} {t : Tab} (h : T[i]? = some t) : (namedT T)[i]? = some (namT (T.map (·.1)) i t) := by
  unfold namedT
  rw [List.getElem?_mapIdx, h]; rfl
theorem named_names (T : List Tab) : (namedT T).map (·.1) = (List.range T.length).map xs := by
  apply List.ext_getElem?
  intro i
  rw [List.getElem?_map, List.getElem?_map]
  by_cases h : i < T.length
  · rw [named_get (List.getElem?_eq_getElem h), List.getElem?_range h]; rfl
  · have : (namedT T)[i]? = none := List.getElem?_eq_none (by rw [named_len]; omega)
    have h2 : (List.range T.length)[i]? = none := List.getElem?_eq_none (by rw [List.length_range]; omega)
    rw [this, h2]; rfl
theorem named_take (T : List Tab) (i : Nat) : ((namedT T).take i).map Prod.fst = ((List.range T.length).map xs).take i := by
  rw [List.map_take]
  show (((namedT T).map (·.1)).take i) = _
  rw [named_names]
theorem sum_take {T : List Tab} (i : Nat) : sumRefs ((namedT T).take i) = sumRefs (T.take i) := by
  unfold sumRefs
  congr 1
  apply List.ext_getElem?
  intro j
  rw [List.getElem?_map, List.getElem?_map, List.getElem?_take, List.getElem?_take]
  by_cases hj : j < i
  · rw [if_pos hj, if_pos hj]
    cases h : T[j]? with
    | none =>
      have : (namedT T)[j]? = none := by
        have := List.getElem?_eq_none_iff.mp h
        exact List.getElem?_eq_none (by rw [named_len]; exact this)
      rw [this]
    | some t =>
      rw [named_get h]
      show some (refsN (t.2.map (namC _))) = some (refsN t.2)
      rw [refs_nam]
  · simp only [if_neg hj]
theorem idx_lt {n : Str} {l : List Str} (h : n ∈ l) : idxN n l < l.length := (List.getElem?_eq_some_iff.mp (idxN_get h).1).1
theorem okCols_nam {T0 N0 : List Tab} {ns : List Str} (hs : sumRefs N0 = sumRefs T0) (hm : ∀ e, e ∈ T0.map Prod.fst → xs (idxN e ns) ∈ N0.map Prod.fst) : ∀ (cs done : List Col), (∀ c ∈ cs, c.1 ∈ CN) → okCols T0 done cs → okCols N0 (done.map (namC ns)) (cs.map (namC ns))
  | [], _, _, _ => True.intro
  | c :: r, done, hn, ⟨h1, h2⟩ => by
    have ih := okCols_nam hs hm r (done ++ [c]) (fun c' hc' => hn c' (List.mem_cons_of_mem _ hc')) h2
    rw [List.map_append] at ih
    refine ⟨?_, ih⟩
    have hc := fine_q (hn c List.mem_cons_self)
    have hnew : c.1 ∉ done.map Prod.fst → c.1 ++ "q" ∉ (done.map (namC ns)).map Prod.fst := fun h z => by
      rw [List.map_map] at z
      obtain ⟨d, hd, ed⟩ := List.mem_map.mp z
      exact h (List.mem_map.mpr ⟨d, hd, q_inj ed⟩)
    obtain ⟨n, t⟩ := c
    cases t with
    | none =>
      obtain ⟨a, b, _, d⟩ := h1
      exact ⟨by rw [refs_nam]; exact a, by rw [List.length_map]; exact b, hc, hnew d⟩
    | some t =>
      obtain ⟨a, b, _, d, e⟩ := h1
      exact ⟨by rw [refs_nam]; exact a, by rw [refs_nam, hs]; exact b, hc, hnew d, hm _ e⟩
theorem named_ok {T : List Tab} (h : okTabs [] T) (hn : ∀ t ∈ T, ∀ c ∈ t.2, c.1 ∈ CN) : okTabs [] (namedT T) := by
  have key : ∀ i, i ≤ T.length → okTabs [] ((namedT T).take i) := by
    intro i
    induction i with
    | zero => intro _; exact True.intro
    | succ i ih =>
      intro hi
      have ht : T[i]? = some T[i] := List.getElem?_eq_getElem (by omega)
      generalize T[i] = t at ht
      have h3 := ok_len h
      obtain ⟨x1, x2⟩ := xs_ok (i := i) (by omega)
      obtain ⟨_, _, _, hcs⟩ := okTabs_at h ht
      have e : (namedT T).take (i + 1) = (namedT T).take i ++ [namT (T.map (·.1)) i t] := by rw [List.take_add_one, named_get ht]; rfl
      have er : ((List.range T.length).map xs).take i = (List.range i).map xs := by
        rw [← List.map_take, List.take_range, Nat.min_eq_left (by omega)]
      rw [e]
      refine okTabs_snoc _ _ _ (ih (by omega)) ?_
      rw [List.nil_append]
      refine ⟨x1, by rw [named_take, er]; exact x2, by rw [List.length_take, named_len]; omega, ?_⟩
      refine okCols_nam (T0 := T.take i) (sum_take i) (fun e he => ?_) t.2 [] (hn t (List.mem_of_getElem? ht)) hcs
      rw [named_take, er]
      have he' : e ∈ (T.map (·.1)).take i := by rw [List.map_take] at he; exact he
      have hl := idx_lt he'
      have e2 : idxN e (T.map (·.1)) = idxN e ((T.map (·.1)).take i) := by
        have := idxN_app (m := (T.map (·.1)).drop i) he'
        rw [List.take_append_drop] at this
        exact this
      rw [e2]
      rw [List.length_take, List.length_map] at hl
      exact List.mem_map.mpr ⟨_, List.mem_range.mpr (by omega), rfl⟩
  have := key T.length (Nat.le_refl _)
  rw [← named_len T, List.take_length] at this
  exact this
theorem named_ne {T : List Tab} (h : T ≠ []) : namedT T ≠ [] := fun z => by
  have := named_len T
  rw [z] at this
  exact h (List.length_eq_zero_iff.mp this.symm)
theorem shape_named {T : List Tab} (h : okTabs [] T) (hn : ∀ t ∈ T, ∀ c ∈ t.2, c.1 ∈ CN) : shapeD (namedT T) = shapeD T := by
  have ho := named_ok h hn
  have h3 := ok_len h
  unfold shapeD
  congr 1
  apply List.ext_getElem?
  intro i
  rw [List.getElem?_map, List.getElem?_map]
  cases ht : T[i]? with
  | none =>
    have : (namedT T)[i]? = none := List.getElem?_eq_none (by rw [named_len]; exact List.getElem?_eq_none_iff.mp ht)
    rw [this]; rfl
  | some t =>
    rw [named_get ht]
    show some (D.lst ((t.2.map (namC (T.map (·.1)))).map (idxD ((namedT T).map (·.1))))) = some (D.lst (t.2.map (idxD (T.map (·.1)))))
    congr 2
    rw [List.map_map]
    apply List.map_congr_left
    intro c hc
    obtain ⟨n, o⟩ := c
    cases o with
    | none => rfl
    | some o =>
      have hm := early_ok (ok_early h) t (List.mem_of_getElem? ht) _ hc o rfl
      have hl := idx_lt hm
      rw [List.length_map] at hl
      show D.int (idxN (xs (idxN o (T.map (·.1)))) ((namedT T).map (·.1)) : Nat) = D.int (idxN o (T.map (·.1)) : Nat)
      rw [idxN_nodup (i := idxN o (T.map (·.1))) (ok_nodup ho) (by rw [named_names, List.getElem?_map, List.getElem?_range hl]; rfl)]
theorem rows_head (t : Tab) (r : List Tab) : rowsOf (t :: r) = PM.rowOf ["table", t.1] :: (rowsOf (t :: r)).tail := rfl
theorem named_rows {T : List Tab} (hx : ∀ t ∈ T, t.1 ≠ "x") (hn : T ≠ []) : ¬ rowsOf (namedT T) = rowsOf T := fun z => by
  cases T with
  | nil => exact hn rfl
  | cons t r =>
    have h0 : (namedT (t :: r))[0]? = some (namT ((t :: r).map (·.1)) 0 t) := named_get rfl
    cases hN : namedT (t :: r) with
    | nil => rw [hN] at h0; cases h0
    | cons u q =>
      rw [hN] at h0 z
      have eu : u = namT ((t :: r).map (·.1)) 0 t := Option.some.inj h0
      have z' : PM.rowOf ["table", u.1] :: (rowsOf (u :: q)).tail = PM.rowOf ["table", t.1] :: (rowsOf (t :: r)).tail := z
      have e := (List.cons.inj z').1
      rw [← row_table, ← row_table, Str.empty_append] at e
      have e2 : u.1 = t.1 := by
        apply lst_eq
        have := congrArg (fun x : Str => x.cps.toList) e
        simp only [app_list] at this
        exact List.append_cancel_left this
      have e3 : u.1 = "x" := by rw [eu]; rfl
      exact hx t List.mem_cons_self (e2 ▸ e3)
theorem lows_nam (ns : List Str) (cs : List Col) : lowsOf (cs.map (namC ns)) = lowsOf cs := by
  unfold lowsOf
  rw [List.map_map]
  congr 1
  apply List.map_congr_left
  intro c _
  obtain ⟨n, t⟩ := c
  cases t <;> rfl
theorem row_nam (ns : List Str) (cs : List Col) (vs : List Int) : rowB (cs.map (namC ns)) vs = rowB cs vs := by
  unfold rowB
  rw [lows_nam, List.length_map]
end SP
/-! L0: what the law needs beside. -/
namespace SP
open PySem L2 DV PM IX
variable {K : PySem.W.Frag}
section
variable {P : List Addr} {ss : List Sl} {cs cs1 cs2 : List (List D)} {te : TE} {ta : TA} {B0 H0 H : Hp} {σ : L2.St} {De : Ends}
theorem ef_lst {tA : TA} {ds : List D} (h : EvA K P ss cs tA (ds.map Sl.dat) cs1) (hl : ds.length ≤ 1000000 := by decide) : EvF K P ss cs (tLst tA) ds cs1 := fun B H σ o Q q =>
  h B H σ o _ fun vs B1 H1 s1 o1 r1 => by
    have ra := rsA r1
    refine ⟨le_line (by rw [ra.length]; exact hl), fun p hp => ?_⟩
    have hp0 : H p = none := by
      cases e : H p with
      | none => rfl
      | some u => obtain ⟨u', h'⟩ := s1.dm p u e; rw [hp] at h'; cases h'
    have bp : B1 p = none := o1.ex.free hp
    have hP : p ∉ P := fun z => by
      obtain ⟨u, h1, _⟩ := o1.mu.mem z
      rw [hp] at h1; cases h1
    refine q p vs B1 _ hp0 ⟨s1.ex, fun b u n e => ?_, s1.nb, fun b u e => ?_⟩ ⟨ex_upd o1.ex bp, o1.sl, o1.mu.keep (Ex.refl _) (fun x hx => upd_ne fun z => hP (z ▸ hx)) fun x hx => (o1.mu.mem hx).choose_spec.2⟩ upd_same bp ra
    · rw [upd_ne (ne_of_none e hp0)]; exact s1.fr b u n e
    · rw [upd_ne (ne_of_none e hp0)]; exact s1.dm b u e
/-- a new list, told to nobody -/
def spFeed (K : PySem.W.Frag) : Sp := fun vs H Q _ => ∃ B ns i, RSs K B vs [.dat (.fro (ns.map D.int)), .dat (.int (i : Nat))] ∧ ns.length ≤ 63 ∧ i < 60 ∧ Ex B H ∧
  ∀ p ws B' H', H p = none → Stp [] B H B' H' → Ex B' H' → H' p = some (.lst ws) → B' p = none → RpA K B' ws (fdD (preFeed.feedOf ns i)) → Q (.ref p) H'
theorem ef_feed {ns : List Int} {i : Nat} (h : EvA K P ss cs ta [.dat (.fro (ns.map D.int)), .dat (.int (i : Nat))] cs1) (hl : ns.length ≤ 63) (hi : i < 60) : EvF K P ss cs (tCall (spFeed K) [] E0 ta) (fdD (preFeed.feedOf ns i)) cs1 := fun B H σ o Q q =>
  h B H σ o _ fun vs B1 H1 s1 o1 r1 => by
    show spFeed K (vs ++ []) H1 Q E0
    rw [List.append_nil]
    refine ⟨B1, ns, i, r1, hl, hi, o1.ex, fun p ws B2 H2 hp s2 e2 h2 b2 r2 => ?_⟩
    have hp0 : H p = none := by
      cases e : H p with
      | none => rfl
      | some u => obtain ⟨u', h'⟩ := s1.dm p u e; rw [hp] at h'; cases h'
    exact q p ws B2 H2 hp0 (s1.trans s2.ofNil) (o1.step0 s2 e2) h2 b2 r2
theorem st_par {i j : Nat} {r1 r2 : Sl} (h : Sta K P B0 H0 ss cs σ H) (he : EvA K P ss cs ta [r1, r2] cs1) (k : ∀ σ' H', Sta K P B0 H0 ((ss.set i r1).set j r2) cs1 σ' H' → De.nx σ' H') : tPar i j ta De σ H := by
  obtain ⟨B, s, o⟩ := h
  refine he B H σ o _ fun vs B1 H1 s1 o1 r => ?_
  obtain ⟨v, v', rfl, h1, h2⟩ := rs2 r
  exact ⟨v, v', rfl, k _ _ ⟨B1, s.trans s1, o1.ex, (o1.sl.set h1).set h2, o1.mu⟩⟩
theorem ev_cmeth {C : Addr} {pre : Pre} {rs : List Sl} {r : Sl} (ha : EvA K P ss cs ta rs cs1) (hp : pre (.val (.ref C) :: rs) [] [] r []) : Ev K P ss cs (ClX.tCMeth C (spM K pre) E0 (tC (.ref C)) ta) r cs1 := fun B H σ o Q q => by
  refine ⟨rfl, ha B H σ o _ fun vs B1 H1 s1 o1 r1 => ?_⟩
  exact ⟨B1, _, [], [], r, [], hp, o1.ex, ⟨rfl, r1⟩, True.intro, fun v B2 H2 s2 e2 _ v2 => q v B2 H2 (s1.trans s2.ofNil) (o1.step0 s2 e2) v2⟩
end
theorem cb_strOwn {C : Addr} {T : List Tab} (hT : tabsOk T) : CbD K (OWN.rStrOwn C (spM K (preStr C))) [.dat (schD C T)] (.dat (.str (textOf T))) := fun B H vs e h Q q => by
  obtain ⟨v, rfl, h1⟩ := rs1 h
  have a' : Rp K B v (schD C T) := h1
  obtain ⟨a, rfl⟩ : ∃ a, v = .ref a := by
    unfold schD at a'
    cases a' with
    | @obj a => exact ⟨a, rfl⟩
  obtain ⟨dx, fvs, hH⟩ : ∃ dx fvs, H a = some (.ins C dx fvs) := by
    unfold schD at a'
    cases a' with
    | obj h5 _ => exact ⟨_, _, e _ _ h5⟩
  refine ⟨a, dx, fvs, rfl, hH, B, _, [], [], _, [], ⟨T, rfl, hT, rfl, rfl, rfl, rfl⟩, e, ⟨h1, True.intro⟩, True.intro, fun z B2 H2 s2 e2 _ v2 => ?_⟩
  have b' : Rp K B2 z (.str (textOf T)) := v2
  cases b'
  exact ⟨_, rfl, q _ B2 H2 s2 e2 v2⟩
theorem od_eqOwn {C : Addr} {T U : List Tab} {neg : Bool} (hT : tabsOk T) (hU : tabsOk U) : OpD K (OWN.rEqOwn K C (spM K (preSEq C)) neg) (.dat (schD C T)) (.dat (schD C U)) (.dat (.bl (if neg then !decide (rowsOf T = rowsOf U) else decide (rowsOf T = rowsOf U)))) := fun B H x y e h1 h2 Q q => by
  have isRef : ∀ {v : V} {T : List Tab}, Rp K B v (schD C T) → ∃ a dx fvs, v = .ref a ∧ H a = some (.ins C dx fvs) := fun {v T} a' => by
    unfold schD at a'
    cases a' with
    | @obj a _ dx fvs _ h5 _ => exact ⟨a, dx, fvs, rfl, e _ _ h5⟩
  obtain ⟨a, dx, fs, rfl, ha⟩ := isRef h1
  obtain ⟨b, dy, gs, rfl, hb⟩ := isRef h2
  refine ⟨a, dx, fs, rfl, ha, ⟨b, dy, gs, rfl, hb⟩, B, _, [], [], _, [], ⟨T, U, rfl, hT, hU, rfl, rfl, rfl, rfl⟩, e, ⟨h1, h2, True.intro⟩, True.intro, fun z B2 H2 s2 e2 _ v2 => ?_⟩
  have b' : Rp K B2 z (.bl (decide (rowsOf T = rowsOf U))) := v2
  cases b'
  exact ⟨_, rfl, q _ B2 H2 s2 e2 (.bl _)⟩
end SP
/-! R0: sorted keys, digits, what the laws' own rows want. -/
namespace SP
open PySem L2 DV PM LK NV QD
def insI (x : Int) : List Int → List Int
  | [] => [x]
  | y :: ys => if x ≤ y then x :: y :: ys else y :: insI x ys
def sortI : List Int → List Int
  | [] => []
  | x :: xs => insI x (sortI xs)
theorem insI_perm (x : Int) : ∀ l : List Int, (insI x l).Perm (x :: l)
  | [] => .refl _
  | y :: ys => by
    unfold insI
    split
    · exact .refl _
    · exact ((insI_perm x ys).cons y).trans (.swap x y ys)
theorem sortI_perm : ∀ l : List Int, (sortI l).Perm l
  | [] => .refl _
  | x :: xs => (insI_perm x _).trans ((sortI_perm xs).cons x)
theorem insI_srt (x : Int) : ∀ {l : List Int}, l.Pairwise (· ≤ ·) → (insI x l).Pairwise (· ≤ ·)
  | [], _ => by simp [insI]
  | y :: ys, h => by
    have h' := List.pairwise_cons.mp h
    unfold insI
    split
    · rename_i hx
      refine List.pairwise_cons.mpr ⟨fun z hz => ?_, h⟩
      rcases List.mem_cons.mp hz with rfl | hz
      · exact hx
      · exact Int.le_trans hx (h'.1 z hz)
    · rename_i hx
      refine List.pairwise_cons.mpr ⟨fun z hz => ?_, insI_srt x h'.2⟩
      rcases List.mem_cons.mp ((insI_perm x ys).mem_iff.mp hz) with rfl | hz
      · omega
      · exact h'.1 z hz
theorem sortI_srt : ∀ l : List Int, (sortI l).Pairwise (· ≤ ·)
  | [] => .nil
  | x :: xs => insI_srt x (sortI_srt xs)
theorem srt_uniq : ∀ {a b : List Int}, a.Perm b → a.Pairwise (· ≤ ·) → b.Pairwise (· ≤ ·) → a = b
  | [], b, p, _, _ => (List.Perm.nil_eq p)
  | x :: xs, [], p, _, _ => by have := p.length_eq; simp at this
  | x :: xs, y :: ys, p, ha, hb => by
    have ha' := List.pairwise_cons.mp ha
    have hb' := List.pairwise_cons.mp hb
    have e : x = y := by
      rcases List.mem_cons.mp (p.mem_iff.mp (List.mem_cons_self (a := x))) with e | h1
      · exact e
      rcases List.mem_cons.mp (p.mem_iff.mpr (List.mem_cons_self (a := y))) with e | h2
      · exact e.symm
      exact Int.le_antisymm (ha'.1 y h2) (hb'.1 x h1)
    subst e
    rw [srt_uniq (List.Perm.cons_inv p) ha'.2 hb'.2]
theorem sortI_len (l : List Int) : (sortI l).length = l.length := (sortI_perm l).length_eq
theorem sortI_mem {l : List Int} {x : Int} : x ∈ sortI l ↔ x ∈ l := (sortI_perm l).mem_iff
variable {K : PySem.W.Frag}
def rSortD1 (K : PySem.W.Frag) : List V → Hp → VK → Prop := fun xs H Q => ∃ (a : Addr) (kvs : List (Key × V)) (ks : List Int), xs = [.ref a] ∧ Rd H a (.dK kvs) ∧ kvs.map (·.1) = ks.map Sum.inl ∧ ks.length < 64 ∧ ∀ (ys : List Int) (p : Addr), ys.Perm ks → ys.Pairwise (· ≤ ·) → H p = none → Q (.ref p) (upd H p (.lst (ys.map V.int)))
theorem call_sortD1 {X : Cx} (hc : X.calm = true) : CallR X (.builtin "sorted") (rSortD1 X.K) := call_sortedDI hc
theorem keys_in {B : Hp} : ∀ {vs : List (Key × V)} {l : List (Int × Row)}, RpK K B vs (inKs l) → vs.map (·.1) = (l.map (·.1)).map Sum.inl
  | _, [], h => by
    have : RpK K B _ [] := h
    cases this
    rfl
  | _, (a, c) :: l, h => by
    have g : RpK K B _ (((Sum.inl a : Key), rowD c) :: inKs l) := h
    cases g with
    | cons h1 h2 => rw [List.map_cons, List.map_cons, List.map_cons, keys_in h2]
theorem cb_sortD {l : List (Int × Row)} (hl : l.length < 64) : CbD K (rSortD1 K) [.dat (inD l)] (.dat (.lst ((sortI (l.map (·.1))).map D.int))) := fun B H vs e h Q q => by
  obtain ⟨v, rfl, h1⟩ := rs1 h
  have a' : Rp K B v (inD l) := h1
  unfold inD at a'
  cases a' with
  | @dic a kvs _ h5 r =>
    refine ⟨a, kvs, l.map (·.1), rfl, .inl (e _ _ h5), keys_in r, by rw [List.length_map]; exact hl, fun ys p hp hs hn => ?_⟩
    have ey : ys = sortI (l.map (·.1)) := srt_uniq (hp.trans (sortI_perm _).symm) hs (sortI_srt _)
    subst ey
    have s := stp_new (o := .lst ((sortI (l.map (·.1))).map V.int)) e hn
    exact q _ _ _ s e.updB (Rp.lst upd_same RpA.ofInts)
section
variable {P : List Addr} {ss : List Sl} {cs cs1 cs2 cs3 : List (List D)} {te tk : TE} {p : Addr} {s : Fd} {i j n : Nat} {E : XK}
theorem ev_takeR (h0 : 0 < n) (h1 : n ≤ 100000) (hi : ss[i]? = some (.val (.ref p))) (he : Ev K P ss cs te (.dat (.int (n : Nat))) cs1) (hP : P[j]? = some p) (hc : cs1[j]? = some (fdD s)) :
    Ev K P ss cs (tCall (spM K preTake) [] E (tCons (tVar i) (tCons te tNil))) (.dat (.int (fdI s n : Nat))) (cs1.set j (fdD (fdT s n))) :=
  ev_call1 (j := j) (ds := fdD s) (ds' := fdD (fdT s n)) (ea_cons (r := .val (.ref p)) (ev_var hi) (ea_cons he ea_nil)) hP hc ⟨p, s, n, rfl, rfl, rfl, h0, h1, rfl, rfl⟩
theorem ev_pickR {α : Type} {l : List α} {f : α → D} (a0 : α) (hn : l.length = n) (h0 : 0 < n) (h1 : n ≤ 100000) (hi : ss[i]? = some (.val (.ref p))) (he : Ev K P ss cs te (.dat (.lst (l.map f))) cs1) (hP : P[j]? = some p) (hc : cs1[j]? = some (fdD s)) :
    Ev K P ss cs (tCall (spM K prePick) [] E (tCons (tVar i) (tCons te tNil))) (.dat (f (l.getD (fdI s n) a0))) (cs1.set j (fdD (fdT s n))) := by
  have hl : (l.map f).length = n := by rw [List.length_map]; exact hn
  refine ev_call1 (j := j) (ds := fdD s) (ds' := fdD (fdT s n)) (ea_cons (r := .val (.ref p)) (ev_var hi) (ea_cons he ea_nil)) hP hc ⟨p, s, _, _, rfl, rfl, rfl, by rw [hl]; exact h0, by rw [hl]; exact h1, ?_, rfl, by rw [hl]⟩
  rw [hl]
  exact pk_get l f a0 s n hn h0
theorem getD_memS {α : Type} {l : List α} {i : Nat} {a0 : α} (h : i < l.length) : l.getD i a0 ∈ l := by
  rw [List.getD_eq_getElem?_getD, List.getElem?_eq_getElem h]
  exact List.getElem_mem h
theorem ev_dnewR : Ev K P ss cs tDNewK (.dat (.dic [])) cs := fun B H σ o Q q => fun p hp => by
  have s := stp_new (o := .dK []) o.ex hp
  exact q _ _ _ s.ofNil (o.step0 s o.ex.updB) (.dic upd_same .nil)
end
theorem room1 {n : Nat} {A : Around} (h : Room (n + 1) A) : A.in1.units + 64 < cLine := (h.in1).units
end SP
/-! R1: the laws' own drawing of a row. -/
namespace SP
open PySem L2 DV PM LK NV
def okA (R : Rs) (row : Row) (p : Col × Nat) : Bool := match p.1.2 with
  | none => true
  | some t => (((R.lookup t).getD []).lookup (row.getD (p.2 + 1) 0)).isSome
theorem hasT_okA {R : Rs} {cols : List Col} {row : Row} : hasT R cols row = (cols.zipIdx 0).all (okA R row) := rfl
/-- how great the numbers of a row, of rows of tables are -/
def bi (b x : Int) : Prop := -b ≤ x ∧ x ≤ b
def bnd (b : Int) (r : Row) : Prop := ∀ x ∈ r, bi b x
def bdR (b : Int) (R : Rs) : Prop := ∀ t ∈ R, ∀ p ∈ t.2, bi b p.1 ∧ bnd b p.2
def rowW (R : Rs) (cols : List Col) (k : Int) : Wh := fun r c => ∃ s', c = [fdD s'] ∧ ((r = .dat .non ∧ ∃ cl ∈ cols, ∃ t, cl.2 = some t ∧ R.lookup t = some []) ∨ ∃ row, r = .dat (rowD row) ∧ row.head? = some k ∧ row.length = cols.length + 1 ∧ hasT R cols row = true ∧ ∀ b, 100 ≤ b → bdR b R → bi b k → bnd b row)
def preRowN : PreN := fun rs Pl cs W => ∃ p s T R n cols k, rs = [.val (.ref p), .dat (encTs T), .dat (tabD R), .dat (.str n), .dat (.int k)] ∧ schOk T ∧ refsOk T ∧ R.map (·.1) = T.map (·.1) ∧ (∀ t ∈ R, (t.2.map (·.1)).Nodup ∧ t.2.length < 64) ∧ T.lookup n = some cols ∧ Pl = [p] ∧ cs = [fdD s] ∧ W = rowW R cols k
theorem look_key {l : List (Int × Row)} {k : Int} (h : k ∈ l.map (·.1)) : (l.lookup k).isSome = true := by
  induction l with
  | nil => simp at h
  | cons t l ih =>
    obtain ⟨a, c⟩ := t
    by_cases e : k = a
    · subst e; simp [List.lookup]
    · have e' : (k == a) = false := by simpa using e
      simp only [List.lookup, e']
      refine ih ?_
      rcases List.mem_cons.mp h with z | z
      · exact absurd z e
      · exact z
theorem okA_app {R : Rs} {row : Row} {x : Int} {p : Col × Nat} (h : p.2 + 1 < row.length) : okA R (row ++ [x]) p = okA R row p := by
  unfold okA
  cases p.1.2 with
  | none => rfl
  | some t =>
    have : (row ++ [x]).getD (p.2 + 1) 0 = row.getD (p.2 + 1) 0 := by
      rw [List.getD_eq_getElem?_getD, List.getD_eq_getElem?_getD, List.getElem?_append_left h]
    simp only [this]
theorem eqIn_nil {l : List (Int × Row)} : eqIn l [] = l.isEmpty := by
  unfold eqIn
  cases l with
  | nil => rfl
  | cons a l => rfl
end SP
namespace T3
open PySem L2 DV PM SP LK NV
section
variable {P : Program} {w : World} {K : PySem.W.Frag} {mg : Str → Option Value} {base : Heap}
end
end T3
/-! RM: rows of tables, put, taken away, looked up. -/
namespace SP
open PySem L2 DV PM LK NV
theorem lookup_putL {l : List (Int × Row)} {i k : Int} {r : Row} : (putL l i r).lookup k = if k = i then some r else l.lookup k := by
  unfold putL
  by_cases e : (l.any fun p => decide (p.1 = i)) = true
  · rw [if_pos e]
    induction l with
    | nil => simp at e
    | cons q l ih =>
      obtain ⟨a, c⟩ := q
      rw [List.map_cons]
      by_cases ha : a = i
      · subst ha
        rw [if_pos rfl]
        by_cases hk : k = a
        · subst hk; simp [List.lookup]
        · have hk' : (k == a) = false := by simpa using hk
          simp only [List.lookup, hk', if_neg hk]
          by_cases h2 : (l.any fun p => decide (p.1 = a)) = true
          · rw [ih h2, if_neg hk]
          · congr 1
            have : ∀ p ∈ l, p.1 ≠ a := fun p hp z => h2 (List.any_eq_true.mpr ⟨p, hp, decide_eq_true z⟩)
            have e3 : (l.map fun p => if p.1 = a then (p.1, r) else p) = l.map id := List.map_congr_left fun p hp => if_neg (this p hp)
            rw [e3, List.map_id]
      · rw [if_neg ha]
        have e2 : (l.any fun p => decide (p.1 = i)) = true := by simpa [ha] using e
        have := ih e2
        by_cases hk : k = a
        · subst hk
          simp [List.lookup, ha]
        · have hk' : (k == a) = false := by simpa using hk
          simp only [List.lookup, hk']
          exact this
  · rw [if_neg e]
    have hn : ∀ p ∈ l, p.1 ≠ i := fun p hp z => e (List.any_eq_true.mpr ⟨p, hp, decide_eq_true z⟩)
    clear e
    induction l with
    | nil =>
      by_cases hk : k = i
      · subst hk; simp [List.lookup]
      · have hk' : (k == i) = false := by simpa using hk
        simp [List.lookup, hk', hk]
    | cons q l ih =>
      obtain ⟨a, c⟩ := q
      have ha : a ≠ i := hn (a, c) List.mem_cons_self
      have := ih fun p hp => hn p (List.mem_cons_of_mem _ hp)
      by_cases hk : k = a
      · subst hk
        simp [List.lookup, ha]
      · have hk' : (k == a) = false := by simpa using hk
        simp only [List.cons_append, List.lookup, hk']
        exact this
theorem lookup_delL {l : List (Int × Row)} {i k : Int} : (delL l i).lookup k = if k = i then none else l.lookup k := by
  unfold delL
  induction l with
  | nil => simp
  | cons q l ih =>
    obtain ⟨a, c⟩ := q
    by_cases ha : a = i
    · subst ha
      rw [List.filter_cons_of_neg (by simp), ih]
      by_cases hk : k = a
      · subst hk; simp
      · have hk' : (k == a) = false := by simpa using hk
        simp only [if_neg hk, List.lookup, hk']
    · rw [List.filter_cons_of_pos (by simpa using ha)]
      by_cases hk : k = a
      · subst hk
        simp [List.lookup, ha]
      · have hk' : (k == a) = false := by simpa using hk
        simp only [List.lookup, hk']
        exact ih
theorem lookup_setT {R : Rs} {n t : Str} {f : List (Int × Row) → List (Int × Row)} : (setT R n f).lookup t = if t = n then (R.lookup n).map f else R.lookup t := by
  unfold setT
  induction R with
  | nil => simp
  | cons q R ih =>
    obtain ⟨a, c⟩ := q
    rw [List.map_cons]
    by_cases ha : a = n
    · subst ha
      rw [if_pos rfl]
      by_cases ht : t = a
      · subst ht; simp [List.lookup]
      · have ht' : (t == a) = false := by simpa using ht
        simp only [List.lookup, ht', if_neg ht]
        rw [ih, if_neg ht]
    · rw [if_neg ha]
      by_cases ht : t = a
      · subst ht
        simp [List.lookup, ha]
      · have ht' : (t == a) = false := by simpa using ht
        simp only [List.lookup, ht']
        rw [ih]
        by_cases h2 : t = n
        · subst h2
          rw [if_pos rfl, if_pos rfl]
          simp [List.lookup, ht']
        · rw [if_neg h2, if_neg h2]
theorem keys_setT {R : Rs} {n : Str} {f : List (Int × Row) → List (Int × Row)} : (setT R n f).map (·.1) = R.map (·.1) := by
  unfold setT
  rw [List.map_map]
  apply List.map_congr_left
  intro t _
  show (if t.1 = n then (t.1, f t.2) else t).1 = t.1
  split <;> rfl
theorem getR_step {R : Rs} {c : Ch} {t : Str} {k : Int} (hm : (R.lookup c.tab).isSome = true) : getR (stepCh R c) t k = if t = c.tab ∧ k = (match c.new with | none => keyOf c.old c.new | some r => r.headD 0) then c.new else getR R t k := by
  unfold getR stepCh
  rw [lookup_setT]
  by_cases ht : t = c.tab
  · subst ht
    rw [if_pos rfl]
    cases hl : R.lookup c.tab with
    | none => rw [hl] at hm; cases hm
    | some l =>
      rw [Option.map_some, Option.getD_some, Option.getD_some]
      unfold stepL
      cases hn : c.new with
      | none =>
        dsimp only []
        rw [lookup_delL]
        simp
      | some r =>
        dsimp only []
        rw [lookup_putL]
        simp
  · rw [if_neg ht, if_neg fun z => ht z.1]
theorem okA_getR {R : Rs} {row : Row} {nm : Str} {t : Str} {j : Nat} : okA R row ((nm, some t), j) = (getR R t (row.getD (j + 1) 0)).isSome := rfl
theorem hasT_mono {R R' : Rs} {cols : List Col} {row : Row} (h : ∀ t k, (∃ cl ∈ cols, cl.2 = some t) → (getR R t k).isSome = true → (∃ q ∈ cols.zipIdx 0, q.1.2 = some t ∧ row.getD (q.2 + 1) 0 = k) → (getR R' t k).isSome = true) (hh : hasT R cols row = true) : hasT R' cols row = true := by
  rw [hasT_okA, List.all_eq_true] at hh ⊢
  intro q hq
  have := hh q hq
  obtain ⟨⟨nm, t⟩, j⟩ := q
  cases t with
  | none => rfl
  | some t =>
    rw [okA_getR] at this ⊢
    have hj := List.mem_zipIdx hq
    simp only [Nat.zero_add, Nat.sub_zero] at hj
    exact h t _ ⟨(nm, some t), by rw [hj.2.2]; exact List.getElem_mem _, rfl⟩ this ⟨_, hq, rfl, rfl⟩
def refsIn (T : List Tab) (R : Rs) : Prop := ∀ t ∈ R, ∀ cols, T.lookup t.1 = some cols → ∀ p ∈ t.2, hasT R cols p.2 = true
def small (R : Rs) (m : Nat) : Prop := ∀ t ∈ R, t.2.length ≤ m
structure Gd (T : List Tab) (R : Rs) (m : Nat) : Prop where
  ok : rowsOk T R
  rf : refsIn T R
  sm : small R m
theorem hasT_led {R : Rs} {cols : List Col} {row : Row} (hl : row.length = cols.length + 1) : hasT R cols row = (ledOf cols row).all fun p => (getR R p.1 p.2).isSome := by
  obtain ⟨a, tl, rfl⟩ : ∃ a tl, row = a :: tl := by
    cases row with
    | nil => simp at hl
    | cons a tl => exact ⟨a, tl, rfl⟩
  have hl' : tl.length = cols.length := by simpa using hl
  have gen : ∀ (cols : List Col) (tl pre : List Int) (k : Nat), tl.length = cols.length → pre.length = k → ((cols.zipIdx k).all (okA R (a :: (pre ++ tl)))) = ((ledOf cols (a :: tl)).all fun p => (getR R p.1 p.2).isSome) := by
    intro cols
    induction cols with
    | nil => intro tl pre k h _; cases tl with | nil => rfl | cons _ _ => cases h
    | cons c cols ih =>
      intro tl pre k h hp
      cases tl with
      | nil => cases h
      | cons x tl =>
        have := ih tl (pre ++ [x]) (k + 1) (by simpa using h) (by simp [hp])
        rw [List.append_assoc] at this
        have e1 : [x] ++ tl = x :: tl := rfl
        rw [e1] at this
        rw [List.zipIdx_cons, List.all_cons, this]
        obtain ⟨nm, t⟩ := c
        cases t with
        | none => rfl
        | some t =>
          have e2 : (a :: (pre ++ x :: tl)).getD (k + 1) 0 = x := by
            rw [List.getD_eq_getElem?_getD, List.getElem?_cons_succ, List.getElem?_append_right (by omega), hp]
            simp
          show ((getR R t ((a :: (pre ++ x :: tl)).getD (k + 1) 0)).isSome && _) = _
          rw [e2]
          rfl
  rw [hasT_okA]
  exact gen cols tl [] 0 hl' rfl
theorem lAllow_ok {T : List Tab} {R : Rs} {c : Ch} {cols : List Col} {l : List (Int × Row)} (hc : chOk T c) (hT : T.lookup c.tab = some cols) (hR : R.lookup c.tab = some l) : lAllow T R cols l c = okCh T R c := by
  obtain ⟨cols', h0, ho, hn, hk⟩ := hc
  rw [hT] at h0
  cases h0
  have hg : ∀ k, getR R c.tab k = l.lookup k := fun k => by unfold getR; rw [hR]; rfl
  unfold okCh allowsB
  rw [hT, Option.getD_some, hg]
  cases c with
  | ins n r =>
    have := hn r rfl
    show (_ && hasT R cols r) = (_ && ((ledOf cols r).all fun p => (getR R p.1 p.2).isSome))
    rw [hasT_led this]
    rfl
  | del n r =>
    show (_ && !isRefL T R n (r.headD 0)) = (_ && !isLed T R n (r.headD 0))
    rw [isRefL_led]
    rfl
  | set n o nw =>
    have := hn nw rfl
    show (_ && hasT R cols nw) = (_ && ((ledOf cols nw).all fun p => (getR R p.1 p.2).isSome))
    rw [hasT_led this]
    rfl
theorem mem_stepL {c : Ch} {l : List (Int × Row)} {p : Int × Row} (h : p ∈ stepL c l) : (p ∈ l ∧ (c.new = none → p.1 ≠ keyOf c.old c.new)) ∨ ∃ r, c.new = some r ∧ p = (r.headD 0, r) := by
  unfold stepL at h
  cases hn : c.new with
  | none =>
    rw [hn] at h
    have h' := List.mem_filter.mp h
    exact .inl ⟨h'.1, fun _ => by simpa using h'.2⟩
  | some r =>
    rw [hn] at h
    rcases mem_putL h with h | h
    · exact .inl ⟨h, fun z => by cases z⟩
    · exact .inr ⟨r, rfl, h⟩
theorem len_stepL (c : Ch) (l : List (Int × Row)) : (stepL c l).length ≤ l.length + 1 := by
  unfold stepL
  cases c.new with
  | none => exact Nat.le_trans (len_delL _ _) (Nat.le_succ _)
  | some r => exact len_putL _ _ _
/-- a change that is allowed keeps the references -/
theorem refs_step {T : List Tab} {R : Rs} {c : Ch} {cols : List Col} (ok : rowsOk T R) (rf : refsIn T R) (hT : schOk T) (hn : ∀ r, c.new = some r → r.length = cols.length + 1) (h0 : T.lookup c.tab = some cols) (ha2 : tailB T R c.tab cols (keyOf c.old c.new) c.new = true) : refsIn T (stepCh R c) := by
  have nd' : (R.map (·.1)).Nodup := by rw [ok.1]; exact hT.2
  have hmem : c.tab ∈ R.map (·.1) := by rw [ok.1]; exact List.mem_map.mpr ⟨(c.tab, cols), mem_lookup h0, rfl⟩
  obtain ⟨t0, ht0, e0⟩ := List.mem_map.mp hmem
  have hl0 : R.lookup c.tab = some t0.2 := by rw [← e0]; exact look_ofT nd' ht0
  have hsome : (R.lookup c.tab).isSome = true := by rw [hl0]; rfl
  intro t ht cols' hc' p hp
  unfold stepCh setT at ht
  obtain ⟨q, hq, rfl⟩ := List.mem_map.mp ht
  have hq1 : (if q.1 = c.tab then (q.1, stepL c q.2) else q).1 = q.1 := by split <;> rfl
  rw [hq1] at hc'
  have hget : ∀ t' k, (getR R t' k).isSome = true → (c.new = none → ¬ (t' = c.tab ∧ k = keyOf c.old c.new)) → (getR (stepCh R c) t' k).isSome = true := fun t' k h1 h2 => by
    rw [getR_step hsome]
    by_cases hz : t' = c.tab ∧ k = (match c.new with | none => keyOf c.old c.new | some r => r.headD 0)
    · rw [if_pos hz]
      cases hn' : c.new with
      | none => rw [hn'] at hz; exact absurd ⟨hz.1, by rw [hn']; exact hz.2⟩ (h2 hn')
      | some r => rfl
    · rw [if_neg hz]; exact h1
  have old : ∀ row, hasT R cols' row = true → (∃ r0, (q.1, r0) ∈ [q] ∧ ∃ k0, (k0, row) ∈ q.2) ∨ c.new ≠ none → hasT (stepCh R c) cols' row = true := fun row hr hcase => by
    refine hasT_mono (fun t' k _ h1 h3 => hget t' k h1 fun hnone hz => ?_) hr
    rcases hcase with ⟨_, _, k0, hk0⟩ | h
    · -- a delete: nothing refers to the row
      rw [hnone] at ha2
      have h4 : (!isLed T R c.tab (keyOf c.old none)) = true := ha2
      rw [← isRefL_led] at h4
      have h5 : isRefL T R c.tab (keyOf c.old none) = true := by
        unfold isRefL
        rw [List.any_eq_true]
        refine ⟨(q.1, cols'), mem_lookup hc', ?_⟩
        rw [look_ofT nd' hq, Option.getD_some, List.any_eq_true]
        refine ⟨(k0, row), hk0, ?_⟩
        unfold refB
        rw [List.any_eq_true]
        obtain ⟨q', hq', e1, e2⟩ := h3
        refine ⟨q', hq', ?_⟩
        rw [Bool.and_eq_true]
        refine ⟨decide_eq_true (by rw [e1, hz.1]), decide_eq_true ?_⟩
        rw [e2, hz.2, hnone]
      rw [h5] at h4
      cases h4
    · exact h hnone
  by_cases hz : q.1 = c.tab
  · rw [if_pos hz] at hp
    rcases mem_stepL hp with ⟨h1, _⟩ | ⟨r, hr, rfl⟩
    · exact old p.2 (rf q hq cols' hc' p h1) (.inl ⟨q.2, by simp, p.1, h1⟩)
    · rw [hz, h0] at hc'
      cases hc'
      have hrl := hn r hr
      rw [hr] at ha2
      have h4 : ((ledOf cols r).all fun p => (getR R p.1 p.2).isSome) = true := ha2
      rw [← hasT_led hrl] at h4
      exact old r h4 (.inr (by rw [hr]; simp))
  · rw [if_neg hz] at hp
    exact old p.2 (rf q hq cols' hc' p hp) (.inl ⟨q.2, by simp, p.1, hp⟩)
theorem Gd.step {T : List Tab} {R : Rs} {m : Nat} {c : Ch} (g : Gd T R m) (hm : m + 1 ≤ 1000) (hT : schOk T) (hc : chOk T c) (ha : okCh T R c = true) : Gd T (stepCh R c) (m + 1) := by
  obtain ⟨cols, h0, ho, hn, hk⟩ := id hc
  refine ⟨(step_ok (k := 0) g.ok hc (fun t ht => by have := g.sm t ht; omega)).1, refs_step g.ok g.rf hT hn h0 ?_, ?_⟩
  · unfold okCh at ha
    rw [h0, Option.getD_some] at ha
    unfold allowsB at ha
    rw [Bool.and_eq_true] at ha
    exact ha.2
  · intro t ht
    unfold stepCh setT at ht
    obtain ⟨q, hq, rfl⟩ := List.mem_map.mp ht
    have h1 := g.sm q hq
    by_cases z : q.1 = c.tab
    · rw [if_pos z]
      have := len_stepL c q.2
      show (stepL c q.2).length ≤ m + 1
      omega
    · rw [if_neg z]; omega
theorem chOk_ins {T : List Tab} {n : Str} {cols : List Col} {r : Row} (h : T.lookup n = some cols) (hl : r.length = cols.length + 1) : chOk T (.ins n r) := by
  refine ⟨cols, h, fun q hq => ?_, fun q hq => ?_, fun a b ha _ => ?_⟩
  · cases hq
  · cases hq; exact hl
  · cases ha
theorem chOk_del {T : List Tab} {n : Str} {cols : List Col} {r : Row} (h : T.lookup n = some cols) (hl : r.length = cols.length + 1) : chOk T (.del n r) := by
  refine ⟨cols, h, fun q hq => ?_, fun q hq => ?_, fun a b _ hb => ?_⟩
  · cases hq; exact hl
  · cases hq
  · cases hb
theorem chOk_set {T : List Tab} {n : Str} {cols : List Col} {o r : Row} (h : T.lookup n = some cols) (ho : o.length = cols.length + 1) (hl : r.length = cols.length + 1) (hk : o.headD 0 = r.headD 0) : chOk T (.set n o r) := by
  refine ⟨cols, h, fun q hq => ?_, fun q hq => ?_, fun a b ha hb => ?_⟩
  · cases hq; exact ho
  · cases hq; exact hl
  · cases ha; cases hb; exact hk
def chB (b : Int) (c : Ch) : Prop := (∀ r, c.old = some r → bnd b r) ∧ ∀ r, c.new = some r → bnd b r
theorem bi.mono {b b' x : Int} (h : bi b x) (e : b ≤ b') : bi b' x := ⟨by have := h.1; omega, by have := h.2; omega⟩
theorem bnd.mono {b b' : Int} {r : Row} (h : bnd b r) (e : b ≤ b') : bnd b' r := fun x hx => (h x hx).mono e
theorem bdR.mono {b b' : Int} {R : Rs} (h : bdR b R) (e : b ≤ b') : bdR b' R := fun t ht p hp => ⟨(h t ht p hp).1.mono e, (h t ht p hp).2.mono e⟩
theorem chB.mono {b b' : Int} {c : Ch} (h : chB b c) (e : b ≤ b') : chB b' c := ⟨fun r hr => (h.1 r hr).mono e, fun r hr => (h.2 r hr).mono e⟩
theorem bnd.head {b : Int} {r : Row} (h : bnd b r) (hb : 0 ≤ b) : bi b (r.headD 0) := by
  cases r with
  | nil => exact ⟨by show -b ≤ 0; omega, hb⟩
  | cons a r => exact h a List.mem_cons_self
theorem bdR.step {b : Int} {R : Rs} {c : Ch} (h : bdR b R) (hb : 0 ≤ b) (hc : chB b c) : bdR b (stepCh R c) := fun t ht p hp => by
  unfold stepCh setT at ht
  obtain ⟨q, hq, rfl⟩ := List.mem_map.mp ht
  by_cases z : q.1 = c.tab
  · rw [if_pos z] at hp
    rcases mem_stepL hp with ⟨h1, _⟩ | ⟨r, hr, rfl⟩
    · exact h q hq p h1
    · exact ⟨(hc.2 r hr).head hb, hc.2 r hr⟩
  · rw [if_neg z] at hp
    exact h q hq p hp
theorem Gd.mono {T : List Tab} {R : Rs} {m m' : Nat} (g : Gd T R m) (h : m ≤ m') : Gd T R m' := ⟨g.ok, g.rf, fun t ht => Nat.le_trans (g.sm t ht) h⟩
end SP
/-! XT: InvalidText(row), made, raised, read (from the guide's skeleton of an own error). -/
namespace PySem
namespace BadX
open PySem.W PySem.Calls PyProof.Rows PySem.HandSPX
/-! ### the text of __init__ -/
def iA (p1 p2 : Pos) : Arguments := { posonlyargs := [], args := [{ arg := "self", annotation := none, pos := p1 }, { arg := "row", annotation := none, pos := p2 }], vararg := none, kwonlyargs := [], kw_defaults := [], kwarg := none, defaults := [] }
def iB (q1 q2 q3 q4 : Pos) : List Stmt := [.Assign [.Attribute (.Name "self" q1) "row" q2] (.Name "row" q3) q4]
def iS : Scope := { kind := .function, names := [(PySem.Str.ofString "self", .local), (PySem.Str.ofString "row", .local)], isGenerator := false, isCoroutine := false, more := [] }
/-- what the written part says of Low, at C, and of its __init__, at fI -/
structure BadTxt (K : Frag) (mg : Str → Option Value) (C fI : Addr) : Prop where
  gC : mg "InvalidText" = some (.ref C)
  cls : ∃ nm q N bs bm sn sub ab col dd k0 k1 k2 k3 k5, K.lookup C = some (excClassObj nm q C N bs bm true sn sub ab col dd k0 k1 k2 k3 k5 "ValueError.__new__") ∧ refsVE bm = true
  sa : findIn K (.ref C) "__setattr__" = some (some (.builtin "object.__setattr__"))
  ga : findIn K (.ref C) "__getattribute__" = some (some (.builtin "BaseException.__getattribute__"))
  gg : findIn K (.ref C) "__getattr__" = some none
  noN : findIn K (.ref C) "row" = some none
  iC : findIn K (.ref C) "__init__" = some (some (.ref fI))
  tC : typeIn K (.ref fI) = some (.type "function")
  kC : keepIn K (.ref C) = true
  exC : subIn K (.ref C) (.type "BaseException") = some true
  tyC : typeIn K (.ref C) = some (.type "type")
  hdC : hasDictIn K C = true
  te : exmOne K (.ref C) (.ref C) = some true
  fn : ∃ (oc : Value) (od : Option Addr) (doc pm : Value) (an : Option Addr) (cdv ct : Value) (osl : Array (Option Value)) (p1 p2 q1 q2 q3 q4 : Pos),
    K.lookup fI = some ⟨oc, od, .func (fnOf "__init__" "InvalidText.__init__" (iA p1 p2) (iB q1 q2 q3 q4) iS .none .none doc pm an cdv ct), osl⟩ ∧ codeIn K cdv "InvalidText.__init__" = true
theorem one_size (v : Value) : [v].length ≤ sizeLine := by
  rw [sizeLine_eq]
  exact (by decide : 1 ≤ 16777216)
theorem kept_but {K : Frag} {h h' : Heap} {x : Addr} (X : K.In h) (hx : K.lookup x = none) (k : ∀ b o, b ≠ x → h.get? b = some o → h'.get? b = some o) : K.In h' := fun a o e =>
  k a o (fun z => by rw [z, hx] at e; cases e) (X a o e)
theorem ldC {M : Model} {s : Shared} {name : Str} {scope : Scope} {L a : Addr} {cd : Value} {m : Str → Option Value} {x : Str} {pos : Pos} {v : Value} {Q : Value → Shared → Prop} {A : Around} {E : Value → Shared → Prop} (hn : s.heap.Ns L m) (hv : m x = some v) (h : Q v s)
    (hk : scope.kind = .function := by rfl) (hl : (envOfC name scope L a cd).kindOf x = some .local := by rfl) (hd : (x == ("__debug__" : Str)) = false := by decide) :
    wpAny M A (eval (.Name x pos) (envOfC name scope L a cd)) Q E s := wpAny_Name (wpAny_loadName_local hk hl hn hv h) hd
/-- what __init__ leaves of a fresh exception at x -/
structure InitEnd (h h' : Heap) (x C dx t1 : Addr) (v : Value) : Prop where
  keep : ∀ b o, b ≠ x → h.get? b = some o → h'.get? b = some o
  obj : h'.get? x = some { cls := .ref C, dict := some dx, data := .fields #[.ref t1, .none, .none, .none, .bool false, .none] }
  dbig : h.objs.size ≤ dx
  dne : dx ≠ x
  ns : h'.Ns1 dx (fun y => if y = "row" then some v else none)
/-- a made Low -/
structure OwnMade (h h' : Heap) (e C d : Addr) (v : Value) : Prop where
  keep : ∀ b o, h.get? b = some o → h'.get? b = some o
  new : h.objs.size ≤ e
  obj : ∃ oe vs, h'.get? e = some oe ∧ oe.cls = .ref C ∧ oe.dict = some d ∧ oe.data = .fields vs ∧ vs[1]? = some .none
  dbig : h.objs.size ≤ d
  dne : d ≠ e
  ns : h'.Ns1 d (fun y => if y = "row" then some v else none)
section
variable {prog : Program} {w : World} {A : Around} {E : Value → Shared → Prop} {R : Result → Shared → Prop} {s : Shared} {K : Frag} {mg : Str → Option Value} {C fI : Addr}
theorem bad_init (T : BadTxt K mg C fI) {x t0 : Addr} {v : Value} (X : K.In s.heap) (hlim : s.heap.NoLimit) (hx : s.heap.get? x = some (excO C t0)) (hnx : K.lookup x = none) (hroom : A.depth < recursionLimit)
    (hq : ∀ h' tk dx, InitEnd s.heap h' x C dx t0 v → R (.ok (.ret .none)) { s with heap := h', toks := tk }) :
    codeAny (model prog w) A (.call (.ref fI) ⟨[.ref x, v], []⟩) R s := by
  obtain ⟨oc, od, doc, pm, an, cdv, ct, osl, p1, p2, q1, q2, q3, q4, ho, hcd⟩ := T.fn
  obtain ⟨nm, q, N, bs, bm, sn, sub, ab, col, dd, k0, k1, k2, k3, k5, hC, hbm⟩ := T.cls
  have hcl : clsIn K C = some { name := nm, bases := bs, mro := .ref C :: bm, ns := N, qualname := q, hasDict := true, slotNames := sn, subclasses := sub, abstract := ab, collection := col, hasDel := false } := by unfold clsIn; rw [hC] <;> rfl
  refine Att.call_fn (binds := [("self", .ref x), ("row", v)]) X hlim ho hcd hroom (BindsTo.of_eq (by first | rfl | with_unfolding_all rfl)) (by first | rfl | decide | with_unfolding_all rfl) (fun s₁ IC => ?_) rfl rfl rfl
  obtain ⟨h₁, tk₁, rfl⟩ := IC.toInCall.same
  have k : ∀ b o, s.heap.get? b = some o → h₁.get? b = some o := IC.toInCall.keep
  have hn := IC.toInCall.ns
  have hxL : s.heap.objs.size ≠ x := Nat.ne_of_gt (Heap.lt_size hx)
  have X₁ : K.In h₁ := X.keeps k
  have hx₁ := k _ _ hx
  -- self.by = by
  show wpAny _ _ (execs _ _) _ _ _
  refine wpAny_execs_cons (plainObj_wpAny_Assign_Attribute ?_)
  refine ldC (v := v) hn (by first | rfl | with_unfolding_all rfl | kernel_rfl) (ldC (v := .ref x) hn (by first | rfl | with_unfolding_all rfl | kernel_rfl) ?_)
  refine set_plain X₁ (ox := excO C t0) (od := none) ⟨hx₁, rfl, rfl, trivial⟩ T.sa ?_
  refine exc_osa X₁ hx₁ hcl (show refsVE (.ref C :: bm) = true from hbm) rfl T.noN (fun h₃ tk₃ dx k₃ dn dne hx₃ hn₃ => ?_)
  show wpAny _ _ (execs _ _) _ _ _
  have z : s.heap.objs.size < h₁.objs.size := hn.lt
  exact wpAny_execs_nil (hq h₃ tk₃ dx ⟨fun b o hb e => k₃ b o hb (k b o e), hx₃, Nat.le_of_lt (Nat.lt_of_lt_of_le z dn), dne, hn₃⟩)
theorem bad_made (T : BadTxt K mg C fI) {v : Value} (X : K.In s.heap) (hlim : s.heap.NoLimit) (hroom : A.depth + 1 < recursionLimit)
    (hq : ∀ h' tk e d, OwnMade s.heap h' e C d v → R (.ok (.ret (.ref e))) { s with heap := h', toks := tk }) :
    codeAny (model prog w) A (.call (.ref C) ⟨[v], []⟩) R s := by
  obtain ⟨nm, q, N, bs, bm, sn, sub, ab, col, dd, k0, k1, k2, k3, k5, hC, hbm⟩ := T.cls
  obtain ⟨hp, g, dr, tk, os⟩ := s
  have k : ∀ b o, hp.get? b = some o → ((hp.push (kdv_tup [v])).push (excO C hp.objs.size)).get? b = some o := fun b o e => Heap.get?_push_of_some _ (Heap.get?_push_of_some _ e)
  have hget : ((hp.push (kdv_tup [v])).push (excO C hp.objs.size)).get? (hp.objs.size + 1) = some (excO C hp.objs.size) := by heap_get
  have hnx : K.lookup (hp.objs.size + 1) = none := by
    cases e : K.lookup (hp.objs.size + 1) with
    | none => rfl
    | some o =>
      have z : hp.get? (hp.objs.size + 1) = some o := X _ _ e
      exact absurd (Nat.lt_of_succ_lt (Heap.lt_size z)) (Nat.lt_irrefl _)
  refine call_own F.excBase_ValueError (fun X => refsVE_contains X bm hbm) (X _ _ hC) (looks_findIn X T.iC) (fun self => bind_fn X self T.tC) (one_size v) ?_
  refine bad_init (s := ⟨(hp.push (kdv_tup [v])).push (excO C hp.objs.size), g, dr, tk, os⟩) T (X.keeps k) (hlim.keeps k) hget hnx ?_ fun h' tk' dx ⟨k', hx, dn, dne, hns⟩ => ?_
  · show A.depth + 1 < recursionLimit
    exact hroom
  · have old : ∀ b o, hp.get? b = some o → h'.get? b = some o := fun b o e => k' b o (Nat.ne_of_lt (Nat.lt_succ_of_lt (Heap.lt_size e))) (k b o e)
    have z : hp.objs.size + 1 + 1 ≤ dx := by
      first
        | (simpa only [Heap.size_push] using dn)
        | exact dn
        | (have q := dn; rw [Heap.size_push, Heap.size_push] at q; exact q)
    exact ⟨rfl, hq h' tk' (hp.objs.size + 1) dx ⟨old, Nat.le_succ _, ⟨_, _, hx, rfl, rfl, rfl, rfl⟩, Nat.le_trans (Nat.le_trans (Nat.le_succ _) (Nat.le_succ _)) z, dne, hns⟩⟩
end
end BadX
end PySem
namespace L2
open PySem PySem.Spec PyProof.Rows
theorem relO_bad {v : V} {v' : Value} (r : RelV v v') (f : Str) : RelO (List.lookup f [(("row" : Str), v)]) (if f = "row" then some v' else none) := by
  by_cases hw : f = "row"
  · subst hw
    rw [if_pos rfl]
    have q : List.lookup ("row" : Str) [(("row" : Str), v)] = some v := by simp [List.lookup]
    rw [q]
    exact r
  · rw [if_neg hw]
    have qw : (f == ("row" : Str)) = false := by simpa using hw
    have q2 : List.lookup f [(("row" : Str), v)] = none := by simp [List.lookup, qw]
    rw [q2]
    trivial
section
variable {X : Cx} {C fI : Addr}
/-- Low(e) -/
def tMkBad (C : Addr) (ta : TA) : St → Hp → XK → Prop := fun σ H Q => ta σ H fun vs H1 => ∃ v, vs = [v] ∧ ∀ d, H1 d = none → Q (.ref C) (some d) (upd H1 d (.xd [(("row" : Str), v)]))
theorem pmk_bad {a : Expr} {ta : TA} {p pos : Pos} {k : Nat} (T : PySem.BadX.BadTxt X.K X.mg C fI) (hr : Room k X.A) (ha : PA X [a] ta) (hg : Gl X "InvalidText" := by rfl)
    (he : starEach (a :: []) X.env = (false, eval a X.env) :: starEach [] X.env := by rfl) (hpl : (backTo pos (starEach [] X.env)).any (·.1) = false := by rfl) :
    PMk X (.Call (.Name "InvalidText" p) [a] [] pos) (tMkBad C ta) := by
  intro pins s σ H Q I h
  refine wpAny_Call_Name_kw (ld_glob I hg T.gC ?_)
  refine PySem.W.callWith_K (h₀ := X.base) I.ok.mod.kin T.kC (thn (ha.run pos pins s σ H _ I h) fun us s1 hh => ?_) he hpl
  obtain ⟨vs, H1, I1, r1, v, ev, q1⟩ := hh
  subst ev
  refine ⟨I1.kIn, ?_⟩
  cases r1 with
  | cons rv rn =>
    rename_i v' us'
    cases rn
    show wpAny _ _ (call (.ref C) [v']) _ _ _
    have hlim := I1.nolimit
    obtain ⟨hp, g, dr, tk, os⟩ := s1
    refine wpAny_call (PySem.BadX.bad_made T I1.kIn hlim (by have := hr.dp; omega) fun h' tk' e d M => ?_)
    show MkP X pins σ Q (.ref e) ⟨h', g, dr, tk', os⟩
    obtain ⟨oe, fv, hoe, hc, hd, hdat, h1⟩ := M.obj
    have hns := M.ns
    obtain ⟨G', g1, g2⟩ := restrict h' fun b => decide (b ≠ e)
    have gk : ∀ b, b ≠ e → G'.get? b = h'.get? b := fun b hb => g1 b (decide_eq_true hb)
    have ge : G'.get? e = none := g2 e (by simp)
    have old : ∀ b o, hp.get? b = some o → G'.get? b = some o := fun b o q => (gk b (Nat.ne_of_lt (Nat.lt_of_lt_of_le (Heap.lt_size q) M.new))).trans (M.keep b o q)
    have ob : ObjOk X.prog X.w (upd H1 d (.xd [(("row" : Str), v)])) G' d (.xd [(("row" : Str), v)]) :=
      ⟨_, hns.at (fun o q => (gk d M.dne).trans q), fun f => relO_bad rv f⟩
    have J : Inv X pins σ (upd H1 d (.xd [(("row" : Str), v)])) ⟨G', g, dr, tk', os⟩ := I1.laid (t' := tk') old M.dbig ob
    refine ⟨e, oe, fv, ⟨G', g, dr, tk', os⟩, _, .ref C, some d, rfl, J, fun b o q => ?_, ge, hoe, ⟨hc, hd⟩, hdat, h1, ?_, rfl, I1.bare, raises_own T.exC T.tyC, q1 d (I1.hok.fresh M.dbig)⟩
    · by_cases hb : b = e
      · have q' : G'.get? b = some o := q
        rw [hb, ge] at q'; cases q'
      · exact (gk b hb).symm.trans q
    · rw [upd_ne (Ne.symm M.dne)]
      exact I1.hok.fresh M.new
/-- raise Low(e) -/
def tRaiseBad (C : Addr) (W : WX) (ta : TA) : TS := fun _ σ H => tMkBad C ta σ H fun cls d H' => W cls d σ H'
theorem ps_raiseBad {a : Expr} {ta : TA} {W : WX} {p pos pos2 : Pos} {k : Nat} (hc : X.calm = true) (T : PySem.BadX.BadTxt X.K X.mg C fI) (hr : Room k X.A) (tk : Takes X W) (ha : PA X [a] ta) (hg : Gl X "InvalidText" := by rfl)
    (he : starEach (a :: []) X.env = (false, eval a X.env) :: starEach [] X.env := by rfl) (hpl : (backTo pos (starEach [] X.env)).any (·.1) = false := by rfl) :
    PS X (.Raise (some (.Call (.Name "InvalidText" p) [a] [] pos)) none pos2) (tRaiseBad C W ta) := ps_raise hc tk (pmk_bad T hr ha hg he hpl)
/-- low.by, low the exception that the suite holds (at a; its class cls, its dict d) -/
def tRowBad (C : Addr) (a : Addr) (cls : Value) (d : Option Addr) (te : TE) : TE := fun σ H Q => te σ H fun x H1 => x = .ref a ∧ cls = .ref C ∧ ∃ (dd : Addr) (v : V), d = some dd ∧ H1 dd = some (.xd [(("row" : Str), v)]) ∧ Q v H1
theorem pe_rowBad {a : Addr} {oe : Obj} {cls : Value} {d : Option Addr} {pn : List (Addr × Obj)} {e : Expr} {te : TE} {pos : Pos} (T : PySem.BadX.BadTxt X.K X.mg C fI) (hz : Zc cls d oe) (hf : ∃ vs, oe.data = .fields vs) (he : PE (X.suite a ((a, oe) :: pn)) e te)
    (hb : attributeBase e "row" X.env (eval e X.env) = eval e X.env := by rfl) :
    PE (X.suite a ((a, oe) :: pn)) (.Attribute e "row" pos) (tRowBad C a cls d te) := by
  refine ⟨fun pins s σ H Q I h => ?_⟩
  refine attr_of hb (thn (he.run pins s σ H _ I h) fun u s1 hh => ?_)
  obtain ⟨x, H1, I1, rx, ex, ec, dd, v, ed, ea, q⟩ := hh
  subst ex
  obtain rfl : u = Value.ref a := rx
  subst ec
  subst ed
  obtain ⟨ha, _⟩ := I1.pin (a, oe) (List.mem_append_left _ List.mem_cons_self)
  obtain ⟨vs, hd⟩ := hf
  have hx : ObjOk X.prog X.w H1 s1.heap dd (.xd [(("row" : Str), v)]) := I1.hok dd _ ea
  obtain ⟨mA, hns, hr⟩ := hx
  obtain ⟨od, ho, hl⟩ := lookIn_ns hns
  have l : List.lookup ("row" : Str) [(("row" : Str), v)] = some v := by simp [List.lookup]
  obtain ⟨u, hu, ru⟩ := RelO.some_of (v := v) (o := mA "row") (by rw [← l]; exact hr "row")
  have J : PySem.W.InstAt s1.heap a oe C (some od) := ⟨ha, hz.1, by unfold PySem.W.notCls; rw [hd] <;> rfl, by rw [hz.2]; exact ho⟩
  exact HandSPX.exc_get I1.kIn J T.ga T.gg T.exC (PySem.W.findObj_own T.hdC T.noN rfl (by rw [hl, hu])) (handed_of ru) ⟨v, H1, I1.tok _, ru, q⟩
end
end L2
/-! K2: repr of plain data. -/
namespace SP
open PySem L2 DV PM IX
def keyPy : Key → PyData
  | .inl i => .int i
  | .inr x => .str x
mutual
def D.pyR : D → PyData
  | .non => .none
  | .bl b => .bool b
  | .int i => .int i
  | .str x => .str x
  | .lst ds => .list (D.pyRA ds)
  | .tup ds => .tuple (D.pyRA ds)
  | .nt ds => .tuple (D.pyRA ds)
  | .dic ks => .dict (D.pyRK ks)
  | .fro _ => .none
  | .obj _ _ => .none
def D.pyRA : List D → List PyData
  | [] => []
  | d :: ds => D.pyR d :: D.pyRA ds
def D.pyRK : List (Key × D) → List (PyData × PyData)
  | [] => []
  | (k, d) :: ds => (keyPy k, D.pyR d) :: D.pyRK ds
end
mutual
/-- no instance, no script -/
def D.okR : D → Bool
  | .lst ds => D.okRA ds
  | .tup ds => D.okRA ds
  | .nt ds => D.okRA ds
  | .dic ks => D.okRK ks
  | .fro _ => false
  | .obj _ _ => false
  | _ => true
def D.okRA : List D → Bool
  | [] => true
  | d :: ds => D.okR d && D.okRA ds
def D.okRK : List (Key × D) → Bool
  | [] => true
  | (_, d) :: ds => D.okR d && D.okRK ds
end
mutual
/-- no list -/
def D.noL : D → Bool
  | .lst _ => false
  | .tup ds => D.noLA ds
  | .nt ds => D.noLA ds
  | .dic ks => D.noLK ks
  | _ => true
def D.noLA : List D → Bool
  | [] => true
  | d :: ds => D.noL d && D.noLA ds
def D.noLK : List (Key × D) → Bool
  | [] => true
  | (_, d) :: ds => D.noL d && D.noLK ds
end
section
variable {X : Cx} {pins : List (Addr × Obj)} {σ : L2.St} {B H : Hp} {s : Shared}
theorem keys_read {h : Heap} {P : Program} {w : World} : ∀ {es : List DictEntry} {vs : List (Key × Value)} {kvs : List (Key × V)} {ks : List (Key × D)}, PySem.Pairs (mixKind P w) es vs → KV kvs vs → kvs.map (·.1) = ks.map (·.1) → ReadsAll h (es.map (·.key)) ((D.pyRK ks).map (·.1)) []
  | [], _, _, [], .nil, .nil, _ => ReadsAll.nil
  | [], _, _, _ :: _, .nil, .nil, h => by cases h
  | _ :: _, _, _, [], .cons _ _ _, .cons _ _, h => by cases h
  | e :: es, _, _, (k, d) :: ks, .cons h1 h2 h3, .cons q1 q2, hk => by
    rename_i kv' kvs' kv vs'
    have e1 : kv.1 = k := by
      have := (List.cons.inj hk).1
      simpa using this
    have e2 : kv.1 = kv'.1 := q1.1
    have ih := keys_read (h := h) h3 q2 (List.cons.inj hk).2
    rcases keyIs_shape (k := kv'.1) (v := e.key) h1 with ⟨i, t, a, b⟩ | ⟨x, t, a, b⟩
    · have ek : k = Sum.inl i := by rw [← e1, e2]; exact a
      subst ek
      show ReadsAll h (e.key :: es.map (·.key)) (PyData.int i :: _) []
      rw [b]
      exact ReadsAll.cons (Reads.int i t) ih
    · have ek : k = Sum.inr x := by rw [← e1, e2]; exact a
      subst ek
      show ReadsAll h (e.key :: es.map (·.key)) (PyData.str x :: _) []
      rw [b]
      exact ReadsAll.cons (Reads.str x t) ih
theorem RpK.keys {K : PySem.W.Frag} : ∀ {kvs : List (Key × V)} {ks : List (Key × D)}, RpK K B kvs ks → kvs.map (·.1) = ks.map (·.1)
  | _, _, .nil => rfl
  | _, _, .cons _ r => by rw [List.map_cons, List.map_cons, RpK.keys r]
mutual
theorem Rp.reads (I : Inv X pins σ H s) (e : Ex B H) : ∀ {v : V} {d : D} {u : Value}, Rp X.K B v d → D.okR d = true → RelV v u → ∃ as, Reads s.heap u (D.pyR d) as ∧ (D.noL d = true → sysModules ∉ as)
  | _, _, _, .non, _, r => by cases r; exact ⟨_, Reads.none, fun _ => by simp⟩
  | _, _, _, .bl b, _, r => by cases r; exact ⟨_, Reads.bool b, fun _ => by simp⟩
  | _, _, _, .int i, _, r => by obtain ⟨t, rfl⟩ := r; exact ⟨_, Reads.int i t, fun _ => by simp⟩
  | _, _, _, .str x, _, r => by obtain ⟨t, rfl⟩ := r; exact ⟨_, Reads.str x t, fun _ => by simp⟩
  | _, _, _, .lst h ra, ok, r => by
    cases r
    obtain ⟨its, rv, ⟨o, n, ho, hc, _, hd⟩, _⟩ := I.list (.inl (.inl (e _ _ h)))
    obtain ⟨as, hr, _⟩ := RpA.reads I e ra ok rv
    exact ⟨_, Reads.list ho hc hd hr, fun z => by cases z⟩
  | _, _, _, .tup h ra, ok, r => by
    cases r
    obtain ⟨its, rv, ⟨o, ho, hc, n, hd⟩, _⟩ := I.tuple (.inl (RdEx e h))
    obtain ⟨as, hr, hs⟩ := RpA.reads I e ra ok rv
    exact ⟨_, Reads.tuple ho hc hd hr, hs⟩
  | _, _, _, .nt h _ ra, ok, r => by
    cases r
    obtain ⟨its, rv, ⟨o, ho, hc, n, hd⟩, _⟩ := I.tuple (.inl (.inr ⟨_, e _ _ h⟩))
    obtain ⟨as, hr, hs⟩ := RpA.reads I e ra ok rv
    exact ⟨_, Reads.tuple ho hc hd hr, hs⟩
  | _, _, _, .dic (a := a) h rk, ok, r => by
    cases r
    obtain ⟨_, hsm, vs, hkv, o, es, ep, ho, hx, hd, _, hp, _⟩ := I.hok _ _ (e _ _ h)
    obtain ⟨as, hr, hs⟩ := RpK.reads I e rk ok hkv hp
    refine ⟨_, Reads.dict ho hx.1 hd (keys_read hp hkv (RpK.keys rk)) hr, fun z => ?_⟩
    intro m
    rcases List.mem_append.mp m with m | m
    · rcases List.mem_cons.mp m with q | q
      · rw [← q] at hsm
        simp at hsm
      · cases q
    · exact hs z m
  | _, _, _, .fro _ _, ok, _ => by cases ok
  | _, _, _, .obj _ _, ok, _ => by cases ok
theorem RpA.reads (I : Inv X pins σ H s) (e : Ex B H) : ∀ {vs : List V} {ds : List D} {us : List Value}, RpA X.K B vs ds → D.okRA ds = true → Vals vs us → ∃ as, ReadsAll s.heap us (D.pyRA ds) as ∧ (D.noLA ds = true → sysModules ∉ as)
  | _, _, _, .nil, _, r => by cases r; exact ⟨_, ReadsAll.nil, fun _ => by simp⟩
  | _, _, _, .cons h ra, ok, r => by
    have ok' := ok
    simp only [D.okRA, Bool.and_eq_true] at ok'
    cases r with
    | cons r1 r2 =>
      obtain ⟨as, q1, s1⟩ := Rp.reads I e h ok'.1 r1
      obtain ⟨bs, q2, s2⟩ := RpA.reads I e ra ok'.2 r2
      refine ⟨_, ReadsAll.cons q1 q2, fun z => ?_⟩
      simp only [D.noLA, Bool.and_eq_true] at z
      exact fun m => (List.mem_append.mp m).elim (s1 z.1) (s2 z.2)
theorem RpK.reads (I : Inv X pins σ H s) (e : Ex B H) : ∀ {vs : List (Key × V)} {ds : List (Key × D)} {us : List (Key × Value)} {es : List DictEntry}, RpK X.K B vs ds → D.okRK ds = true → KV vs us → PySem.Pairs (mixKind X.prog X.w) es us → ∃ as, ReadsAll s.heap (es.map (·.val)) ((D.pyRK ds).map (·.2)) as ∧ (D.noLK ds = true → sysModules ∉ as)
  | _, _, _, _, .nil, _, r, p => by cases r; cases p; exact ⟨_, ReadsAll.nil, fun _ => by simp⟩
  | _, _, _, _, .cons h ra, ok, r, p => by
    have ok' := ok
    simp only [D.okRK, Bool.and_eq_true] at ok'
    cases r with
    | cons r1 r2 =>
      cases p with
      | cons p1 p2 p3 =>
        obtain ⟨as, q1, s1⟩ := Rp.reads I e h ok'.1 r1.2
        obtain ⟨bs, q2, s2⟩ := RpK.reads I e ra ok'.2 r2 p3
        refine ⟨as ++ bs, ?_, fun z => ?_⟩
        · rw [List.map_cons, p2]
          exact ReadsAll.cons q1 q2
        · simp only [D.noLK, Bool.and_eq_true] at z
          exact fun m => (List.mem_append.mp m).elim (s1 z.1) (s2 z.2)
end
end
/-- what may be shown -/
structure Sho (d : D) : Prop where
  ok : D.okR d = true
  sh : (D.pyR d).showable = true
  dp : (D.pyR d).depth ≤ 60
  dc : (D.pyR d).hasDict = true → D.noL d = true
  ln : (D.pyR d).shown.length ≤ 1000000
def rReprD (K : PySem.W.Frag) : List V → Hp → VK → Prop := fun xs H Q => ∃ x d B, xs = [x] ∧ Ex B H ∧ Rp K B x d ∧ Sho d ∧ Q (.str (D.pyR d).shown) H
open PySem.Spec PyProof.Rows in
theorem call_reprD {X : Cx} {k : Nat} (hr : Room k X.A) (hg : X.A.guards = some []) : CallR X (.builtin "repr") (rReprD X.K) := by
  intro pins s σ H xs us Q I r h
  obtain ⟨x, d, B, rfl, e, hx, hs, q⟩ := h
  obtain ⟨u, rfl, rx⟩ := vals1 r
  have hu := hr.units
  have hln := le_line hs.ln
  have key : ∀ {a : Addr}, u = .ref a → wpAny (model X.prog X.w) X.A (call (.builtin "repr") [u]) (EP X pins σ Q) X.xe s := fun {a} ea => by
    obtain ⟨as, rd, hsm⟩ := Rp.reads I e hx hs.ok rx
    subst ea
    have hdp := hs.dp
    exact repr_of_reads' rd hs.sh (fun z => hsm (hs.dc z)) hg (by omega) (fun _ _ q => q) (fun h' u tk kp => ⟨.str _, H, I.kept (t' := tk) kp, ⟨u, rfl⟩, q⟩) hln
  cases hx with
  | non => cases rx; exact PySem.P.repr_of_none ⟨.str _, H, I.tok _, ⟨_, rfl⟩, q⟩
  | bl b => cases rx; exact PySem.P.repr_of_bool ⟨.str _, H, I.tok _, ⟨_, rfl⟩, q⟩
  | int i => obtain ⟨t, rfl⟩ := rx; exact PySem.P.repr_of_int (of_decide_eq_true hs.sh) ⟨.str _, H, I.tok _, ⟨_, rfl⟩, q⟩
  | str y => obtain ⟨t, rfl⟩ := rx; exact PySem.P.repr_of_str ⟨.str _, H, I.tok _, ⟨_, rfl⟩, q⟩ hln
  | lst _ _ => exact key rx
  | tup _ _ => exact key rx
  | nt _ _ _ => exact key rx
  | dic _ _ => exact key rx
  | obj _ _ => exact key rx
  | fro _ _ => exact key rx
theorem cb_reprD {K : PySem.W.Frag} {d : D} (h : Sho d) : CbD K (rReprD K) [.dat d] (.dat (.str (D.pyR d).shown)) := fun B H vs e hv Q q => by
  obtain ⟨v, rfl, h1⟩ := rs1 hv
  exact ⟨v, d, B, rfl, e, h1, h, q _ B H (Stp.refl _ _ _) e (.str _)⟩
end SP
/-! CG: is_within and is_row for values of any kind. -/
namespace SP
open PySem L2 DV PM
/-- the name of the built-in type -/
def tyN : D → Option String
  | .non => some "NoneType"
  | .bl _ => some "bool"
  | .int _ => some "int"
  | .str _ => some "str"
  | .lst _ => some "list"
  | .tup _ => some "tuple"
  | .nt _ => some "tuple"
  | .dic _ => some "dict"
  | .obj _ _ => none
  | .fro _ => none
def withD (d : D) (lo hi : Int) : Bool := match d with
  | .int v => decide (lo ≤ v) && decide (v ≤ hi)
  | _ => false
def rowG (cols : List Col) (d : D) : Bool := match d with
  | .tup ds => decide (ds.length = 1 + cols.length) && ((List.zip ds (lowsOf cols)).all fun p => withD p.1 p.2 1000000)
  | _ => false
def preWithinG : Pre := fun rs Pl cs r cs' => ∃ d t, ∃ lo hi : Int, rs = [.dat d, .dat (.int lo), .dat (.int hi)] ∧ tyN d = some t ∧ Pl = [] ∧ cs = [] ∧ r = .dat (.bl (withD d lo hi)) ∧ cs' = []
def notNt : D → Bool
  | .nt _ => false
  | _ => true
def preIsRowG (C : Addr) : Pre := fun rs Pl cs r cs' => ∃ T n cols d t, rs = [.dat (schD C T), .dat (.str n), .dat d] ∧ T.lookup n = some cols ∧ cols.length ≤ 1000 ∧ tyN d = some t ∧ notNt d = true ∧
  (∀ ds, d = .tup ds → ds.length ≤ 1000 ∧ ∀ e ∈ ds, ∃ u, tyN e = some u) ∧ Pl = [] ∧ cs = [] ∧ r = .dat (.bl (rowG cols d)) ∧ cs' = []
section
variable {K : PySem.W.Frag}
theorem tyX_of {B H : Hp} {v : V} {d : D} {t : String} (e : Ex B H) (h : Rp K B v d) (ht : tyN d = some t) : TyX K H v (.type t) := by
  cases h with
  | non => cases ht; exact .base .non
  | bl b => cases ht; exact .base (.bl b)
  | int i => cases ht; exact .base (.int i)
  | str x => cases ht; exact .base (.str x)
  | lst h _ => cases ht; exact .base (.lst (e _ _ h))
  | tup h _ =>
    cases ht
    rcases RdEx e h with h | ⟨o, h⟩
    · exact .base (.tup h)
    · exact .fTuple h
  | nt h _ _ => cases ht; exact .fTuple (e _ _ h)
  | dic h _ => cases ht; exact .base (.dK (e _ _ h))
  | obj _ _ => cases ht
  | fro _ _ => cases ht
theorem cb_isG {d : D} {t n : String} {b : Bool} (ht : tyN d = some t) (hk : kitB t n = some b) : CbD K (rIsi K) [.dat d, .val (.ty n)] (.dat (.bl b)) := fun B H vs e h Q q => by
  obtain ⟨v, v', rfl, h1, h2⟩ := rs2 h
  exact ⟨v, v', .type t, .type n, b, rfl, by rw [show v' = V.ty n from h2]; exact .ty _, tyX_of e h1 ht, kit_ty hk, q _ B H (Stp.refl _ _ _) e (.bl _)⟩
def isTy (d : D) (n : String) : Bool := match d, n with
  | .tup _, "tuple" => true
  | .nt _, "tuple" => true
  | .int _, "int" => true
  | .bl _, "int" => true
  | .bl _, "bool" => true
  | _, _ => false
theorem kit_all : ∀ t ∈ ["NoneType", "bool", "int", "str", "list", "tuple", "dict"], kitB t "tuple" = some (t == "tuple") ∧ kitB t "int" = some (t == "int" || t == "bool") ∧ kitB t "bool" = some (t == "bool") := by decide +kernel
theorem tyN_mem {d : D} {t : String} (h : tyN d = some t) : t ∈ ["NoneType", "bool", "int", "str", "list", "tuple", "dict"] := by
  cases d <;> cases h <;> decide
end
end SP
namespace T3
open PySem L2 DV PM SP
section
variable {P : Program} {w : World} {K : PySem.W.Frag} {mg : Str → Option Value} {base : Heap} {C : Addr}
end
end T3
/-! ZN: zip of a list and a tuple, by the library's zip over two iterators of any kind. -/
namespace ZN
open PySem PySem.Spec PyProof.Rows L2 RZ
/-- what a turn of zip(list, tuple) gives -/
def ItzN (K : PySem.W.Frag) (a b : Addr) (n m : Nat) : It where
  go i H := ∃ xs ys x y, SqL K H a xs ∧ SqT K H b ys ∧ xs[i]? = some x ∧ ys[i]? = some y ∧ xs.length = n ∧ ys.length = m
  yld i H v H' := ∃ T x y, v = .ref T ∧ H T = none ∧ H' = upd H T (.tup [x, y]) ∧ (∀ xs, SqL K H a xs → xs[i]? = some x) ∧ ∀ ys, SqT K H b ys → ys[i]? = some y
  stop i H := ∃ xs ys, SqL K H a xs ∧ SqT K H b ys ∧ xs.length = n ∧ ys.length = m ∧ min n m ≤ i
/-- the five cells of it between two turns -/
def Cells (z TI TO i1 i2 a b : Addr) (N i : Nat) (h : Heap) : Prop := i ≤ N ∧ IsZip h z TI TO .none ∧ IsPair h TI (.ref i1) (.ref i2) ∧ (∃ x y, IsPair h TO x y) ∧ h.IsListIter i1 a i ∧ h.IsTupleIter i2 b i
theorem sepOf {z TI TO i1 i2 a b : Addr} (D : ZipApart z TI TO i1 i2 a b) : ZipSep2 z TI TO i1 i2 [i1, a] [i2, b] where
  TIz := D.TIz
  TOz := D.TOz
  TITO := D.TITO
  TIi1 := D.TIi1
  mem1 := by simp
  zf1 := by simp [Ne.symm D.i1z, Ne.symm D.l1z]
  Tf1 := by simp [D.TOi1, Ne.symm D.l1TO]
  TIi2 := D.TIi2
  mem2 := by simp
  zf2 := by simp [Ne.symm D.i2z, Ne.symm D.l2z]
  Tf2 := by simp [D.TOi2, Ne.symm D.l2TO]
  sep1_2 := by simp [D.i12, Ne.symm D.l2i1]
  sep2_1 := by simp [Ne.symm D.i12, Ne.symm D.l1i2]
theorem cases5 {c z TI TO i1 i2 : Addr} (h : c ∈ [z, TI, TO, i1, i2]) : c = z ∨ c = TI ∨ c = TO ∨ c = i1 ∨ c = i2 := by simpa using h
theorem cell_obj {z TI TO i1 i2 a b c : Addr} {N i : Nat} {h : Heap} (st : Cells z TI TO i1 i2 a b N i h) (hc : c ∈ [z, TI, TO, i1, i2]) : ∃ o, h.get? c = some o ∧ ∀ v, o.data ≠ .cell v := by
  obtain ⟨_, p1, p2, ⟨_, _, p3⟩, ⟨o4, p4, _, d4⟩, ⟨o5, p5, _, d5⟩⟩ := st
  rcases cases5 hc with rfl | rfl | rfl | rfl | rfl
  · exact ⟨_, p1, nofun⟩
  · exact ⟨_, p2, nofun⟩
  · exact ⟨_, p3, nofun⟩
  · exact ⟨o4, p4, fun v e => by rw [d4] at e; cases e⟩
  · exact ⟨o5, p5, fun v e => by rw [d5] at e; cases e⟩
theorem turnN {P : Program} {w : World} {K : PySem.W.Frag} {elts : List Expr} {kk : Nat} {tpos : Pos} {a b z TI TO i1 i2 : Addr} {n m : Nat} (D : ZipApart z TI TO i1 i2 a b) : Turn P w K (.Tuple elts kk tpos) (ItzN K a b n m) [z, TI, TO, i1, i2] z (Cells z TI TO i1 i2 a b (min n m)) where
  mem := List.mem_cons_self
  obj i h st c hc := cell_obj st hc
  keep i h h' st k := by
    obtain ⟨p0, p1, p2, ⟨x, y, p3⟩, p4, p5⟩ := st
    refine ⟨p0, k _ ?_ _ p1, k _ ?_ _ p2, ⟨x, y, k _ ?_ _ p3⟩, p4.at (k _ ?_), p5.at (k _ ?_)⟩ <;> simp
  item := by
    intro X hP hw hK hc i pins s σ H E I free st go
    subst hP hw hK
    have st0 := st
    obtain ⟨p0, p1, p2, ⟨u0, v0, p3⟩, p4, p5⟩ := st
    obtain ⟨xs, ys, x, y, qa, qb, ex, ey, hn, hm⟩ := go
    have i1n := (List.getElem?_eq_some_iff.mp ex).1
    have i2m := (List.getElem?_eq_some_iff.mp ey).1
    obtain ⟨ua, ra, la0, _⟩ := I.list qa
    obtain ⟨ub, rb, tb, _⟩ := I.tuple qb
    obtain ⟨u, eu, ru⟩ := ra.get ex
    obtain ⟨v, ev, rv⟩ := rb.get ey
    have none1 : X.A.in1.handled = none := I.ok.hd hc
    refine wpAny_pyNext_zipD2_item (sepOf D) (Draws.list none1 i1 a D.l1i1 ua.toArray) (Draws.tuple none1 i2 b D.l2i2 ub.toArray) p1 p2 p3 ⟨p4, la0.isList⟩ ⟨p5, tb⟩
      (by simpa using (List.getElem?_eq_some_iff.mp eu).1) (by simpa using (List.getElem?_eq_some_iff.mp ev).1) fun v1 v2 h1 tk e1 e2 n1 n3 n4 n5 nT nS old => ?_
    have w1 : v1 = u := by simpa [eu] using e1.symm
    have w2 : v2 = v := by simpa [ev] using e2.symm
    subst w1 w2
    have lt : ∀ c ∈ [z, TI, TO, i1, i2], c < s.heap.objs.size := fun c h => (cell_obj st0 h).elim fun o q => Heap.lt_size q.1
    refine ⟨_, rfl, wpAny_letOwnedTupleGo_zip (s := { s with heap := h1, toks := tk }) n1 fun h2 m1 same => ?_⟩
    have at2 : ∀ c o, c ≠ z → h1.get? c = some o → h2.get? c = some o := fun c o n q => (same.2 c n).trans q
    have old2 : ∀ c o, c ∉ [z, TI, TO, i1, i2] → s.heap.get? c = some o → h2.get? c = some o := fun c o n q => by
      simp only [List.mem_cons, List.not_mem_nil, or_false, not_or] at n
      exact at2 c o n.1 (old c o n.1 n.2.2.1 n.2.2.2.1 n.2.2.2.2 q)
    have newT : h2.get? s.heap.objs.size = some { cls := .type "tuple", data := .seq #[v1, v2] } := at2 _ _ (Nat.ne_of_gt (lt z (by simp))) nT
    have I1 : Inv X pins σ (upd H s.heap.objs.size (.tup [x, y])) { s with heap := h2, toks := tk } :=
      I.turnedNew (t' := tk) (ch := [z, TI, TO, i1, i2]) old2 free (Nat.le_refl _) ⟨by show 2 ≤ sizeLine; decide, [v1, v2], .cons ru (.cons rv .nil), _, newT, rfl, _, rfl⟩
    refine ⟨.ref _, _, I1, rfl, ⟨_, x, y, rfl, I.hok.fresh (Nat.le_refl _), rfl, fun l q => I.list_inj q qa ▸ ex, fun l q => I.tuple_inj q qb ▸ ey⟩, ⟨by omega, m1, at2 _ _ D.TIz (old _ _ D.TIz D.TITO D.TIi1 D.TIi2 p2), ⟨v1, v2, at2 _ _ D.TOz n3⟩, n4.1.at fun o q => at2 _ o D.i1z q, n5.1.at fun o q => at2 _ o D.i2z q⟩, fun c h => ?_⟩
    rw [upd_ne (Nat.ne_of_lt (lt c h))]
    exact (free c h).1
  done := by
    intro X hP hw hK hc i pins s σ H E I free st fin
    subst hP hw hK
    obtain ⟨p0, p1, p2, ⟨u0, v0, p3⟩, p4, p5⟩ := st
    obtain ⟨xs, ys, qa, qb, hn, hm, he⟩ := fin
    obtain ⟨ua, ra, la0, _⟩ := I.list qa
    obtain ⟨ub, rb, tb, _⟩ := I.tuple qb
    have la := ra.length
    have lb' := rb.length
    have none1 : X.A.in1.handled = none := I.ok.hd hc
    refine wpAny_pyNext_zipD2_end (i := i) (sepOf D) (Draws.list none1 i1 a D.l1i1 ua.toArray) (Draws.tuple none1 i2 b D.l2i2 ub.toArray) p1 p2 p3 ⟨p4, la0.isList⟩ ⟨p5, tb⟩
      (by rw [List.size_toArray]; omega) (by rw [List.size_toArray]; omega) (by rw [List.size_toArray, List.size_toArray]; omega) fun h1 tk old => ⟨rfl, I.turnedL (t' := tk) (ch := [z, TI, TO, i1, i2]) (fun c o n q => ?_) free⟩
    simp only [List.mem_cons, List.not_mem_nil, or_false, not_or] at n
    exact old c o n.1 n.2.2.1 n.2.2.2.1 n.2.2.2.2 q
  self A i s Q E st h := wpAny_pyIter_zip st.2.1 h
/-- zip(l, t) -/
def iZipN (K : PySem.W.Frag) (ta : TA) : TI := fun σ H R => ta σ H fun vs H1 => ∃ a b xs ys, vs = [.ref a, .ref b] ∧ SqL K H1 a xs ∧ SqT K H1 b ys ∧ R (ItzN K a b xs.length ys.length) H1
theorem pi_zipN {X : Cx} {e1 e2 : Expr} {ta : TA} {np cp tp : Pos} {elts : List Expr} {n : Nat} (hg : Gl X "zip") (hm : X.mg "zip" = none) (ha : PA X [e1, e2] ta)
    (h1 : starEach [e1, e2] X.env = (false, eval e1 X.env) :: starEach [e2] X.env := by rfl) (h2 : (backTo cp (starEach [e2] X.env)).any (·.1) = false := by rfl) : PI X (.Tuple elts n tp) (.Call (.Name "zip" np) [e1, e2] [] cp) (iZipN X.K ta) where
  run pins s σ H R I h := by
    refine Call_ (ld_blt I hg hm PyProof.Rows.boot_zip (PyProof.Rows.callWith_type1 (thn (ha.run cp pins s σ H _ I h) fun us t ⟨vs, G, I1, rv, a, b, xs, ys, ev, qa, qb, q⟩ => ?_) h1 h2))
    subst ev
    obtain ⟨u1, u2, rfl, r1, r2⟩ := vals2 rv
    cases r1
    cases r2
    obtain ⟨ua, ra, la0, _⟩ := I1.list qa
    obtain ⟨ub, rb, tb, _⟩ := I1.tuple qb
    have at' := tb
    obtain ⟨ob, gb, _⟩ := at'
    have far : ∀ k, FpOk X pins G (t.heap.objs.size + k) := fun k => I1.fpOk (Nat.le_add_right _ _) (I1.hok.fresh (Nat.le_add_right _ _))
    refine zip_begins2 (begins_list a ua.toArray) (begins_tuple b ub.toArray) la0.isList tb fun h' z0 z2 z3 c1 c2 _ old => wpAny_pyIter_zip z0 ⟨_, _, _, _, G, rfl, I1.kept (t' := t.toks) old, turnN (PySem.W.ktu_apart t.heap.objs.size a b la0.lt (Heap.lt_size gb)), ⟨Nat.zero_le _, z0, z2, ⟨_, _, z3⟩, ⟨_, c1, rfl, rfl⟩, ⟨_, c2, rfl, rfl⟩⟩, fun c hc => ?_, q⟩
    rcases cases5 hc with rfl | rfl | rfl | rfl | rfl
    · exact far 4
    · exact far 2
    · exact far 3
    · exact far 0
    · exact far 1
end ZN
/-! K3: dict(..) of pairs, {}, xs[::-1], == and != of an instance with a value of another kind, zip of a list and a tuple. -/
namespace SP
open PySem PySem.Spec PyProof.Rows L2
section
variable {X : Cx} {n : Nat} {C f : Addr} {fd : FuncData} {ps : List Str} {sp : Sp}
/-- x == y, x an instance of the class at C with an own __eq__, y of a built-in type -/
def rEqOth (K : PySem.W.Frag) (C : Addr) (sp : Sp) (neg : Bool) : R2 := fun x y H Q => ∃ a dx fs t, x = .ref a ∧ H a = some (.ins C dx fs) ∧ TyX K H y t ∧ PySem.W.notFirst K C t = true ∧ sp [x, y] H (fun z H' => ∃ k, z = .bl k ∧ Q (.bl (if neg then !k else k)) H') E0
theorem op_eqOth (F : FnOk X.prog X.w X.K X.mg X.base CX0 n f fd ps sp) (hb : Binds X.K fd ps []) (hs : PySem.W.findIn X.K (.ref C) "__eq__" = some (some (.ref f))) (hf : PySem.W.isFn X.K (.ref f) = true) (hr : Room n X.A) : OpR X (compareOp .Eq) (rEqOth X.K C sp false) := by
  intro pins s σ H x y v u Q I rx ry hq
  obtain ⟨a, dx, fs, t, rfl, ha, ty, hn, h⟩ := hq
  cases rx
  obtain ⟨mA, J, _⟩ := ins_get I.hok ha
  obtain ⟨od, J, _⟩ := J.look
  obtain ⟨P, Z, p, hx⟩ := kit_of I ry ty
  obtain ⟨m, hF⟩ := I.fr
  show wpAny (model X.prog X.w) X.A (richCompare .Eq (.ref a) u) (EP X pins σ Q) X.xe s
  refine PySem.W.cmp_K (op := .Eq) (tb := t) hr.units0 hF I.ok.mod.kin J (Z.ty _ _ I.kIn p) hn hs hf (wpAny_mono (OWN.run_at ⟨hr, rfl⟩ F hb I (.cons rfl (.cons ry .nil) : Vals [V.ref a, y] [Value.ref a, u]) h) (fun v s' z => ?_) fun _ _ e => e)
  obtain ⟨z, H', I', rz, ⟨k, rfl, q⟩⟩ := z
  cases rz
  exact ⟨.bl k, H', I', rfl, q⟩
theorem op_neOth (F : FnOk X.prog X.w X.K X.mg X.base CX0 n f fd ps sp) (hb : Binds X.K fd ps []) (hs : PySem.W.findIn X.K (.ref C) "__eq__" = some (some (.ref f))) (hf : PySem.W.isFn X.K (.ref f) = true) (hne : PySem.W.findIn X.K (.ref C) "__ne__" = some (some (.builtin "object.__ne__"))) (hm : PySem.W.mroIn X.K C (.type "object") = some true)
    (hr : Room (n + 1) X.A) : OpR X (compareOp .NotEq) (rEqOth X.K C sp true) := by
  intro pins s σ H x y v u Q I rx ry hq
  obtain ⟨a, dx, fs, t, rfl, ha, ty, hn, h⟩ := hq
  cases rx
  obtain ⟨mA, J, _⟩ := ins_get I.hok ha
  obtain ⟨od, J, _⟩ := J.look
  obtain ⟨P, Z, p, hx⟩ := kit_of I ry ty
  have sb : Sub X n X.A.in1 := Sub.in1 ⟨hr, rfl⟩
  have hu : X.A.units + 1 < cLine := sb.room.units0
  show wpAny (model X.prog X.w) X.A (richCompare .NotEq (.ref a) u) (EP X pins σ Q) X.xe s
  refine OWN.ne_K (tb := t) hu I.kIn J (Z.ty _ _ I.kIn p) hn hm hne hs hf (wpAny_mono (OWN.run_at sb F hb I (.cons rfl (.cons ry .nil) : Vals [V.ref a, y] [Value.ref a, u]) h) (fun v s' z => ?_) fun _ _ e => e)
  obtain ⟨z, H', I', rz, ⟨k, rfl, q⟩⟩ := z
  cases rz
  exact ⟨k, rfl, .bl (!k), H', I', rfl, q⟩
end
end SP
namespace SP
open PySem L2 DV PM IX
variable {K : PySem.W.Frag}
section
variable {P : List Addr} {ss : List Sl} {cs cs1 : List (List D)} {te : TE}
theorem ev_dnew : Ev K P ss cs tDNewK (.dat (.dic [])) cs := fun B H σ o Q q => fun p hp => by
  have s2 := stp_new (o := .dK []) o.ex hp
  exact q _ _ _ s2.ofNil (o.step0 s2 o.ex.updB) (Rp.dic upd_same .nil)
theorem ev_rev {ds : List D} (h : Ev K P ss cs te (.dat (.lst ds)) cs1) : Ev K P ss cs (tRevL K te) (.dat (.lst ds.reverse)) cs1 := fun B H σ o Q q =>
  h B H σ o _ fun v B1 H1 s1 o1 v1 => by
    have a' : Rp K B1 v (.lst ds) := v1
    cases a' with
    | @lst a xs _ h5 r =>
      refine ⟨a, xs, rfl, .inl (.inl (o1.ex _ _ h5)), fun p hp => ?_⟩
      have s2 := stp_new (o := .lst xs.reverse) o1.ex hp
      have rv : ∀ {vs : List V} {ds : List D}, RpA K B1 vs ds → RpA K B1 vs.reverse ds.reverse := by
        intro vs ds r
        induction vs generalizing ds with
        | nil => cases r; exact .nil
        | cons v vs ih =>
          cases r with
          | cons h r =>
            rw [List.reverse_cons, List.reverse_cons]
            exact (ih r).append (.cons h .nil)
      exact q _ _ _ (s1.trans s2.ofNil) (o1.step0 s2 o1.ex.updB) (Rp.lst upd_same ((rv r).mono s2.ex))
end
/-! dict(..) of pairs with ints -/
def rDictP (K : PySem.W.Frag) : List V → Hp → VK → Prop := fun xs H Q => ∃ (a : Addr) (ps : List Addr) (kvs : List (Key × V)), xs = [.ref a] ∧ SqL K H a (ps.map V.ref) ∧ Paired (fun p kv => SqT K H p [kV kv.1, kv.2]) ps kvs ∧ ∀ p, H p = none → Q (.ref p) (upd H p (.dK (mergeK [] kvs)))
theorem call_dictP1 {X : Cx} (hc : X.calm = true) : CallR X (.type "dict") (rDictP X.K) := call_dictP hc
theorem merge_nodup : ∀ {more kvs : List (Key × V)}, ((kvs ++ more).map (·.1)).Nodup → mergeK kvs more = kvs ++ more
  | [], kvs, _ => by simp [mergeK]
  | p :: r, kvs, h => by
    have hn : valV kvs p.1 = none := by
      unfold valV
      rw [Option.map_eq_none_iff, List.find?_eq_none]
      intro q hq
      rw [List.map_append] at h
      have := (List.nodup_append.mp h).2.2 q.1 (List.mem_map.mpr ⟨q, hq, rfl⟩) p.1 (by simp)
      simpa using this
    show mergeK (putK kvs p.1 p.2) r = _
    rw [putK_new _ hn, merge_nodup (by rw [List.append_assoc]; exact h), List.append_assoc]
    rfl
theorem cb_dictI {l : List (Int × D)} (nd : (l.map (·.1)).Nodup) : CbD K (rDictP K) [.dat (.lst (l.map fun p => D.tup [.int p.1, p.2]))] (.dat (.dic (l.map fun p => ((Sum.inl p.1 : Key), p.2)))) := fun B H vs e hv Q q => by
  obtain ⟨v, rfl, h1⟩ := rs1 hv
  have a' : Rp K B v (.lst (l.map fun p => D.tup [.int p.1, p.2])) := h1
  cases a' with
  | @lst a xs _ h5 r =>
    have gen : ∀ {xs : List V} {l : List (Int × D)}, RpA K B xs (l.map fun p => D.tup [.int p.1, p.2]) → ∃ (ps : List Addr) (kvs : List (Key × V)), xs = ps.map V.ref ∧ Paired (fun p kv => SqT K H p [kV kv.1, kv.2]) ps kvs ∧ RpK K B kvs (l.map fun p => ((Sum.inl p.1 : Key), p.2)) ∧ kvs.map (·.1) = l.map fun p => (Sum.inl p.1 : Key) := by
      intro xs l
      induction l generalizing xs with
      | nil => intro r; cases r; exact ⟨[], [], rfl, .nil, .nil, rfl⟩
      | cons p l ih =>
        intro r
        cases r with
        | cons h r =>
          obtain ⟨ps, kvs, e1, e2, e3, e4⟩ := ih r
          cases h with
          | @tup t ys _ ht hy =>
            cases hy with
            | cons hk hy =>
              cases hk
              cases hy with
              | cons hd hy =>
                cases hy
                exact ⟨t :: ps, ((Sum.inl p.1 : Key), _) :: kvs, by rw [e1]; rfl, .cons (.inl (RdEx e ht)) e2, .cons hd e3, by rw [List.map_cons, e4]; rfl⟩
    obtain ⟨ps, kvs, rfl, e2, e3, e4⟩ := gen r
    have hm : mergeK [] kvs = kvs := by
      have := merge_nodup (kvs := []) (more := kvs) (by
        rw [List.nil_append, e4]
        have e5 : (l.map fun p => (Sum.inl p.1 : Key)) = (l.map (·.1)).map Sum.inl := by rw [List.map_map]; rfl
        rw [e5]
        exact List.pairwise_map.mpr (nd.imp fun h z => h (Sum.inl.inj z)))
      simpa using this
    refine ⟨a, ps, kvs, rfl, .inl (.inl (e _ _ h5)), e2, fun p hp => ?_⟩
    rw [hm]
    have s := stp_new (o := .dK kvs) e hp
    exact q _ _ _ s e.updB (Rp.dic upd_same (e3.mono s.ex))
/-! zip of a list and a tuple -/
theorem wd_zipN {P : List Addr} {ss : List Sl} {cs cs1 : List (List D)} {ta : TA} {ds es : List D} (h : EvA K P ss cs ta [.dat (.lst ds), .dat (.tup es)] cs1) : WD K P ss cs (ZN.iZipN K ta) (zipD ds es) cs1 := fun B H σ o R q =>
  h B H σ o _ fun vs B1 H1 s1 o1 r1 => by
    obtain ⟨v, v', rfl, h1, h2⟩ := rs2 r1
    have a' : Rp K B1 v (.lst ds) := h1
    have b' : Rp K B1 v' (.tup es) := h2
    cases a' with
    | @lst a xs _ h5 r => cases b' with
      | @tup b ys _ h6 r' =>
        refine ⟨_, _, xs, ys, rfl, .inl (.inl (o1.ex _ _ h5)), .inl (RdEx o1.ex h6), q _ B1 H1 s1 o1 fun i B2 H2 e1 e2 => ?_⟩
        have z : SqL K H2 a xs := .inl (.inl (e2 _ _ (e1 _ _ h5)))
        have z' : SqT K H2 b ys := .inl (RdEx e2 (RdEx e1 h6))
        refine ⟨fun d hd => ?_, fun hl => ⟨xs, ys, z, z', rfl, rfl, ?_⟩⟩
        · obtain ⟨e, e', he, he', rfl⟩ := zipD_get hd
          obtain ⟨v, h1, h2⟩ := r.get he
          obtain ⟨v', h1', h2'⟩ := r'.get he'
          refine ⟨⟨xs, ys, v, v', z, z', h1, h1', rfl, rfl⟩, fun x H' y => ?_⟩
          obtain ⟨T, x', y', rfl, hT, rfl, f, f'⟩ := y
          have q1 := f xs z
          have q2 := f' ys z'
          rw [h1] at q1; rw [h1'] at q2
          cases q1; cases q2
          have s := stp_new (o := .tup [v, v']) e2 hT
          exact ⟨_, s, e2.updB, .tup (.inl upd_same) (.cons (h2.mono (e1.trans s.ex)) (.cons (h2'.mono (e1.trans s.ex)) .nil))⟩
        · rw [r.length, r'.length]
          have e := hl
          unfold zipD at e
          rw [List.length_zipWith] at e
          exact e
end SP
/-! TL: [(name, new dict) for ..], and the dict of it. -/
namespace SP
open PySem L2 DV PM LK NV QD
variable {K : PySem.W.Frag}
/-- a list at D of pairs at ts of names and dicts at as -/
structure LP (K : PySem.W.Frag) (B H : Hp) (D : Addr) (ts as : List Addr) (R : Rs) : Prop where
  lst : H D = some (.lst (ts.map V.ref))
  lt : ts.length = R.length
  la : as.length = R.length
  tup : ∀ (i : Nat) (t a : Addr) (r : Str × List (Int × Row)), ts[i]? = some t → as[i]? = some a → R[i]? = some r → H t = some (.tup [.str r.1, .ref a])
  inn : ∀ (i : Nat) (a : Addr) (r : Str × List (Int × Row)), as[i]? = some a → R[i]? = some r → ∃ vs, H a = some (.dK vs) ∧ RpK K B vs (inKs r.2)
  nd : as.Nodup
  no : ∀ a ∈ as, B a = none
theorem snoc_get {α : Type} {l : List α} {x y : α} {i : Nat} (h : (l ++ [x])[i]? = some y) : (i < l.length ∧ l[i]? = some y) ∨ (i = l.length ∧ x = y) := by
  by_cases hi : i < l.length
  · rw [List.getElem?_append_left hi] at h
    exact .inl ⟨hi, h⟩
  · rw [List.getElem?_append_right (by omega)] at h
    by_cases h0 : i = l.length
    · subst h0
      simp at h
      exact .inr ⟨rfl, h⟩
    · rw [List.getElem?_eq_none (by simp; omega)] at h
      cases h
theorem tabs_lc {α : Type} {P : List Addr} {ss : List Sl} {cs : List (List D)} {g : TG} {te : TE} {vs : List Nat} {It : It} {l : List α} {enc : α → D} {nm : α → Str} {rl : α → List (Int × Row)} {B1 H1 : Hp} {σ : L2.St} {Q : VK} (o1 : Okk K P ss cs B1 H1 σ) (wk : Walks K B1 It (l.map enc)) (hz : l.length ≤ 1000)
    (hs : ∀ (i : Nat) (x : α), l[i]? = some x → ∃ G W, GR K (wipeS ss vs) g (enc x) G W ∧ (∀ k ∈ W, k ∈ vs) ∧ ∀ B' H' σ', Stp P B1 H1 B' H' → Okk K P G cs B' H' σ' → ∀ Q : VK,
      (∀ t a kvs B2 H2, Stp P B' H' B2 H2 → Okk K P G cs B2 H2 σ' → H' t = none → H' a = none → H2 t = some (.tup [.str (nm x), .ref a]) → H2 a = some (.dK kvs) → RpK K B2 kvs (inKs (rl x)) → B2 a = none → Q (.ref t) H2) → te σ' H' Q)
    (q : ∀ D ts as B' H', Stp P B1 H1 B' H' → Okk K P ss cs B' H' σ → LP K B' H' D ts as (l.map fun x => (nm x, rl x)) → (∀ a ∈ as, H1 a = none) → Q (.ref D) H') :
    ∀ Dp, H1 Dp = none → ∃ W : Nat → Nat → Hp → Prop, (∃ m, W 0 m (upd H1 Dp (.lst []))) ∧ ∀ i m H, W i m H →
      (It.stop i H ∧ Q (.ref Dp) H) ∨ (It.go i H ∧ ∃ Nx : Hp → Prop, (∀ H', Nx H' → ∃ m', m' < m ∧ W (i + 1) m' H') ∧ ∀ x H', It.yld i H x H' → g x (wipe σ vs) H' fun σ2 H2 => wipe σ2 vs = wipe σ vs ∧ tYes σ2 H2 fun b H3 =>
        if b = true then te σ2 H3 fun y H4 => ∃ acc, H4 Dp = some (.lst acc) ∧ acc.length < sizeLine ∧ Nx (upd H4 Dp (.lst (acc ++ [y]))) else Nx H3) := by
  intro Dp hDp
  have hB1 : B1 Dp = none := o1.ex.free hDp
  have hDP : Dp ∉ P := fun z => by
    obtain ⟨u, h1, _⟩ := o1.mu.mem z
    rw [hDp] at h1; cases h1
  let out : Nat → Rs := fun i => (l.take i).map fun x => (nm x, rl x)
  let I : Nat → Hp → Prop := fun i H' => ∃ B' ts as, Stp P B1 H1 B' H' ∧ Okk K P ss cs B' H' σ ∧ LP K B' H' Dp ts as (out i) ∧ B' Dp = none ∧ ∀ a ∈ as, H1 a = none
  have i0 : I 0 (upd H1 Dp (.lst [])) :=
    ⟨B1, [], [], ⟨Ex.refl _, fun b u n e => Ex.new hDp b u e, fun _ _ _ => rfl, fun b u e => ⟨u, Ex.new hDp b u e⟩⟩, ⟨fun b u e => Ex.new hDp b u (o1.ex b u e), o1.sl, o1.mu.keep (Ex.refl _) (fun x hx => upd_ne fun z => hDP (z ▸ hx)) fun x hx => (o1.mu.mem hx).choose_spec.2⟩,
      ⟨upd_same, rfl, rfl, fun i t a r h => by simp at h, fun i a r h => by simp at h, .nil, fun a h => by cases h⟩, hB1, fun a h => by cases h⟩
  refine ⟨fun i m H' => m = l.length - i ∧ i ≤ l.length ∧ I i H', ⟨l.length, by simp, Nat.zero_le _, i0⟩, ?_⟩
  rintro i m H' ⟨rfl, hi, B2, ts, as, s2, o2, lp, hb2, fr⟩
  obtain ⟨w1, w2⟩ := wk i B2 H' s2.ex o2.ex
  by_cases hlt : i < l.length
  · have hx : l[i]? = some l[i] := List.getElem?_eq_getElem hlt
    generalize l[i] = x at hx
    have hd' : (l.map enc)[i]? = some (enc x) := by rw [List.getElem?_map, hx]; rfl
    obtain ⟨go, yl⟩ := w1 _ hd'
    obtain ⟨G, W, hg, hW, hev⟩ := hs i x hx
    refine .inr ⟨go, I (i + 1), fun H3 q => ⟨l.length - (i + 1), by omega, rfl, hlt, q⟩, fun y H3 hy => ?_⟩
    obtain ⟨B3, s3, e3, x3⟩ := yl y H3 hy
    have o3 := o2.step0 s3 e3
    refine hg B3 H3 (wipe σ vs) y o3.ex (o3.sl.wipe vs) x3 _ fun σ4 s4 on => ⟨on.wipe hW, ?_⟩
    unfold tYes
    dsimp only []
    rw [if_pos rfl]
    refine hev B3 H3 σ4 (s2.trans s3.ofNil) ⟨o3.ex, s4, o3.mu⟩ _ fun t a kvs B6 H6 s6 o6 ht3 ha3 ht ha rk ba => ?_
    have s26 : Stp P B2 H' B6 H6 := s3.ofNil.trans s6
    have hD6 : H6 Dp = some (.lst (ts.map V.ref)) := s26.fr _ _ hDP lp.lst
    have hb6 : B6 Dp = none := by rw [s26.nb _ _ lp.lst]; exact hb2
    have hol : (out i).length = i := by simp [out]; omega
    have hati : i < (out i).length → False := fun h => by omega
    have nP : ∀ b o, B2 b = none → H' b = some o → b ∉ P → H6 b = some o := fun b o _ h n => s26.fr b o n h
    have tD : t ≠ Dp := fun z => by rw [z, hD6] at ht; cases ht
    have aD : a ≠ Dp := fun z => by rw [z, hD6] at ha; cases ha
    have asP : ∀ b ∈ as, b ∉ P := fun b hb z => by
      obtain ⟨j, hj, ej⟩ := List.getElem_of_mem hb
      obtain ⟨_, hk, _⟩ := lp.inn j b _ (by rw [List.getElem?_eq_getElem hj, ej]) (List.getElem?_eq_getElem (by rw [← lp.la]; exact hj))
      obtain ⟨u, h1, _⟩ := o2.mu.mem z
      have h2 := fr b hb
      obtain ⟨⟨u', h3⟩⟩ : Nonempty (∃ u', H1 b = some u') := by
        obtain ⟨u0, h0, _⟩ := o1.mu.mem z
        exact ⟨u0, h0⟩
      rw [h2] at h3; cases h3
    refine ⟨_, hD6, lt_line (by rw [List.length_map, lp.lt, hol]; omega), B6, ts ++ [t], as ++ [a], ?_, ?_, ?_, hb6, fun b hb => ?_⟩
    · have s16 := s2.trans s26
      refine ⟨s16.ex, fun b u n e => ?_, s16.nb, fun b u e => ?_⟩
      · rw [upd_ne fun z => by rw [z, hDp] at e; cases e]; exact s16.fr b u n e
      · rw [upd_ne fun z => by rw [z, hDp] at e; cases e]; exact s16.dm b u e
    · exact ⟨fun b u e => by rw [upd_ne fun z => by rw [z, hb6] at e; cases e]; exact o6.ex b u e, o2.sl.mono s26.ex, o6.mu.keep (Ex.refl _) (fun x hx => upd_ne fun z => hDP (z ▸ hx)) fun x hx => (o6.mu.mem hx).choose_spec.2⟩
    · have ho : out (i + 1) = out i ++ [(nm x, rl x)] := by
        show (l.take (i + 1)).map _ = (l.take i).map _ ++ _
        rw [List.take_add_one, hx, List.map_append]
        rfl
      refine ⟨?_, ?_, ?_, fun j t' a' r h1 h2 h3 => ?_, fun j a' r h2 h3 => ?_, ?_, fun b hb => ?_⟩
      · rw [upd_same, List.map_append]; rfl
      · rw [ho, List.length_append, List.length_append, lp.lt]; rfl
      · rw [ho, List.length_append, List.length_append, lp.la]; rfl
      · rw [ho] at h3
        have tn : t' ≠ Dp := fun z => by
          rcases snoc_get h1 with ⟨hj, h1⟩ | ⟨rfl, rfl⟩
          · have hja : j < as.length := by rw [lp.la, ← lp.lt]; exact hj
            have hjr : j < (out i).length := by rw [← lp.lt]; exact hj
            have := lp.tup j t' _ _ h1 (List.getElem?_eq_getElem hja) (List.getElem?_eq_getElem hjr)
            rw [z, lp.lst] at this; cases this
          · exact tD z
        rw [upd_ne tn]
        rcases snoc_get h1 with ⟨hj, h1⟩ | ⟨rfl, rfl⟩
        · have hja : j < as.length := by rw [lp.la, ← lp.lt]; exact hj
          have hjr : j < (out i).length := by rw [← lp.lt]; exact hj
          rw [List.getElem?_append_left hja] at h2
          rw [List.getElem?_append_left hjr] at h3
          have h4 := lp.tup j t' a' r h1 h2 h3
          have h5 : t' ∉ P := fun z => by
            obtain ⟨⟨ws, hw⟩, _⟩ : (∃ ws, H' t' = some (.lst ws)) ∧ True := by
              obtain ⟨k, hk, ek⟩ := List.getElem_of_mem z
              obtain ⟨k2, hk2⟩ : ∃ d, cs[k]? = some d := by
                have : ∀ {P : List Addr} {cs : List (List D)}, Mu K B2 H' P cs → P.length = cs.length := by
                  intro P
                  induction P with
                  | nil => intro cs m; cases cs with | nil => rfl | cons _ _ => exact m.elim
                  | cons p P ih => intro cs m; cases cs with
                    | nil => exact m.elim
                    | cons c cs => rw [List.length_cons, List.length_cons, ih m.2.2.2]
                have hl := this o2.mu
                exact ⟨cs[k], List.getElem?_eq_getElem (by omega)⟩
              obtain ⟨⟨ws, hw, _⟩, _⟩ := o2.mu.get (j := k) (by rw [List.getElem?_eq_getElem hk, ek]) hk2
              exact ⟨⟨ws, hw⟩, True.intro⟩
            rw [h4] at hw; cases hw
          exact s26.fr _ _ h5 h4
        · have e1 : as.length = ts.length := by rw [lp.la, lp.lt]
          rw [← e1, List.getElem?_append_right (Nat.le_refl _)] at h2
          rw [lp.lt, List.getElem?_append_right (Nat.le_refl _)] at h3
          simp at h2 h3
          subst h2
          subst h3
          exact ht
      · rw [ho] at h3
        rcases snoc_get h2 with ⟨hj, h2⟩ | ⟨rfl, rfl⟩
        · have hjr : j < (out i).length := by rw [← lp.la]; exact hj
          rw [List.getElem?_append_left hjr] at h3
          obtain ⟨ws, h4, h5⟩ := lp.inn j a' r h2 h3
          refine ⟨ws, ?_, RpK.mono s26.ex h5⟩
          rw [upd_ne fun z => by rw [z, lp.lst] at h4; cases h4]
          exact s26.fr _ _ (asP _ (List.mem_of_getElem? h2)) h4
        · rw [lp.la, List.getElem?_append_right (Nat.le_refl _)] at h3
          simp at h3
          subst h3
          exact ⟨kvs, by rw [upd_ne aD]; exact ha, rk⟩
      · rw [List.nodup_append]
        refine ⟨lp.nd, by simp, fun b hb c hc z => ?_⟩
        rw [List.mem_singleton.mp hc] at z
        subst z
        obtain ⟨j, hj, ej⟩ := List.getElem_of_mem hb
        obtain ⟨ws, h4, _⟩ := lp.inn j b _ (by rw [List.getElem?_eq_getElem hj, ej]) (List.getElem?_eq_getElem (by rw [← lp.la]; exact hj))
        have := s3.fr _ _ (by simp) h4
        rw [ha3] at this; cases this
      · rcases List.mem_append.mp hb with hb | hb
        · obtain ⟨j, hj, ej⟩ := List.getElem_of_mem hb
          obtain ⟨ws, h4, _⟩ := lp.inn j b _ (by rw [List.getElem?_eq_getElem hj, ej]) (List.getElem?_eq_getElem (by rw [← lp.la]; exact hj))
          rw [s26.nb _ _ h4]
          exact lp.no b hb
        · rw [List.mem_singleton.mp hb]; exact ba
    · rcases List.mem_append.mp hb with hb | hb
      · exact fr b hb
      · rw [List.mem_singleton.mp hb]
        cases e : H1 a with
        | none => rfl
        | some u =>
          obtain ⟨u', h'⟩ := (s2.trans s3.ofNil).dm a u e
          rw [ha3] at h'; cases h'
  · have e : i = l.length := by omega
    subst e
    have ho : out l.length = l.map fun x => (nm x, rl x) := by show (l.take l.length).map _ = _; rw [List.take_length]
    rw [ho] at lp
    exact .inl ⟨w2 (by rw [List.length_map]; exact Nat.le_refl _), q Dp ts as B2 H' s2 o2 lp fr⟩
theorem gname_go {i : Nat} {v : V} {σ : L2.St} {H : Hp} {Q : L2.St → Hp → Prop} (h : Q (σ.set i (some v)) H) : gName i v σ H Q := h
theorem asg_cb {rr : List V → Hp → VK → Prop} {te : TE} {i : Nat} {De : Ends} {σ : L2.St} {H : Hp} (h : te σ H fun v H1 => rr [v] H1 fun w H2 => De.nx (σ.set i (some w)) H2) : tAsg (tCB rr (tCons te tNil)) (gName i) De σ H := h
theorem ret_cb {rr : List V → Hp → VK → Prop} {te : TE} {De : Ends} {σ : L2.St} {H : Hp} (h : te σ H fun v H1 => rr [v] H1 De.rt) : tRet (tCB rr (tCons te tNil)) De σ H := h
theorem lc_of {wi : TI} {g : TG} {tt : TT} {te : TE} {vs : List Nat} {σ : L2.St} {H : Hp} {Q : VK} (h : wi σ H fun J H1 => ∀ D, H1 D = none → ∃ W : Nat → Nat → Hp → Prop, (∃ m, W 0 m (upd H1 D (.lst []))) ∧ ∀ i m H, W i m H →
    (J.stop i H ∧ Q (.ref D) H) ∨ (J.go i H ∧ ∃ Nx : Hp → Prop, (∀ H', Nx H' → ∃ m', m' < m ∧ W (i + 1) m' H') ∧ ∀ x H', J.yld i H x H' → g x (wipe σ vs) H' fun σ2 H2 => wipe σ2 vs = wipe σ vs ∧ tt σ2 H2 fun b H3 =>
      if b = true then te σ2 H3 fun y H4 => ∃ acc, H4 D = some (.lst acc) ∧ acc.length < sizeLine ∧ Nx (upd H4 D (.lst (acc ++ [y]))) else Nx H3)) : tLc wi g tt te vs σ H Q := h
theorem tabs_new {α : Type} {P : List Addr} {ss : List Sl} {cs : List (List D)} {wi : TI} {g : TG} {te : TE} {vs : List Nat} {l : List α} {enc : α → D} {nm : α → Str} {rl : α → List (Int × Row)} {B H : Hp} {σ : L2.St} {Q : VK} (o : Okk K P ss cs B H σ) (hw : ∀ R : It → Hp → Prop, (∀ J B1 H1, Stp P B H B1 H1 → Okk K P ss cs B1 H1 σ → Walks K B1 J (l.map enc) → R J H1) → wi σ H R) (hz : l.length ≤ 1000)
    (hs : ∀ (i : Nat) (x : α), l[i]? = some x → ∃ G W, GR K (wipeS ss vs) g (enc x) G W ∧ (∀ k ∈ W, k ∈ vs) ∧ ∀ B' H' σ', Stp P B H B' H' → Okk K P G cs B' H' σ' → ∀ Q : VK,
      (∀ t a kvs B2 H2, Stp P B' H' B2 H2 → Okk K P G cs B2 H2 σ' → H' t = none → H' a = none → H2 t = some (.tup [.str (nm x), .ref a]) → H2 a = some (.dK kvs) → RpK K B2 kvs (inKs (rl x)) → B2 a = none → Q (.ref t) H2) → te σ' H' Q)
    (q : ∀ D ts as B' H', Stp P B H B' H' → Okk K P ss cs B' H' σ → LP K B' H' D ts as (l.map fun x => (nm x, rl x)) → (∀ a ∈ as, H a = none) → (∀ a ∈ as, a ∉ P) → Q (.ref D) H') : tLc wi g tYes te vs σ H Q :=
  hw _ fun It B1 H1 s1 o1 wk => tabs_lc o1 wk hz (fun i x hx => by
    obtain ⟨G, W, a, b, c⟩ := hs i x hx
    exact ⟨G, W, a, b, fun B' H' σ' s' => c B' H' σ' (s1.trans s')⟩) fun D ts as B2 H2 s2 o2 lp fr => q D ts as B2 H2 (s1.trans s2) o2 lp (fun a ha => by
      cases e : H a with
      | none => rfl
      | some u => obtain ⟨u', h'⟩ := s1.dm a u e; rw [fr a ha] at h'; cases h') fun a ha z => by
        obtain ⟨u, h1, _⟩ := o1.mu.mem z
        rw [fr a ha] at h1; cases h1
/-- the dict of such a list -/
theorem tabs_dict {P : List Addr} {ss : List Sl} {cs : List (List D)} {B H : Hp} {σ : L2.St} {D : Addr} {ts as : List Addr} {R : Rs} (o : Okk K P ss cs B H σ) (lp : LP K B H D ts as R) (nd : (R.map (·.1)).Nodup) (asP : ∀ a ∈ as, a ∉ P) {Q : VK}
    (q : ∀ p B' H', H p = none → Stp P B H B' H' → Okk K P ss cs B' H' σ → Tabs K B' H' p as R → Q (.ref p) H') : rDictP K [.ref D] H Q := by
  let kvs : List (Key × V) := List.zipWith (fun r a => ((Sum.inr r.1 : Key), V.ref a)) R as
  refine ⟨D, ts, kvs, rfl, .inl (.inl lp.lst), ?_, fun p hp => ?_⟩
  · have gen : ∀ (R : Rs) (ts as : List Addr), ts.length = R.length → as.length = R.length → (∀ (i : Nat) (t a : Addr) (r : Str × List (Int × Row)), ts[i]? = some t → as[i]? = some a → R[i]? = some r → H t = some (.tup [.str r.1, .ref a])) →
        Paired (fun p (kv : Key × V) => SqT K H p [kV kv.1, kv.2]) ts (List.zipWith (fun r a => ((Sum.inr r.1 : Key), V.ref a)) R as) := by
      intro R
      induction R with
      | nil => intro ts as h1 h2 _; cases ts with
        | nil => exact .nil
        | cons _ _ => cases h1
      | cons r R ih =>
        intro ts as h1 h2 h
        cases ts with
        | nil => cases h1
        | cons t ts => cases as with
          | nil => cases h2
          | cons a as => exact .cons (.inl (.inl (h 0 t a r rfl rfl rfl))) (ih ts as (by simpa using h1) (by simpa using h2) fun i t' a' r' x y z => h (i + 1) t' a' r' (by simpa using x) (by simpa using y) (by simpa using z))
    exact gen R ts as lp.lt lp.la lp.tup
  · have hk : kvs.map (·.1) = (R.map (·.1)).map Sum.inr := by
      show (List.zipWith _ R as).map _ = _
      rw [List.map_zipWith]
      have : ∀ (R : Rs) (as : List Addr), as.length = R.length → List.zipWith (fun (r : Str × List (Int × Row)) (a : Addr) => (Sum.inr r.1 : Key)) R as = (R.map (·.1)).map Sum.inr := by
        intro R
        induction R with
        | nil => intro as _; rfl
        | cons r R ih => intro as h; cases as with
          | nil => cases h
          | cons a as => rw [List.zipWith_cons_cons, List.map_cons, List.map_cons, ih as (by simpa using h)]
      exact this R as lp.la
    have hm : mergeK [] kvs = kvs := by
      have := merge_nodup (more := kvs) (kvs := []) (by
        rw [List.nil_append, hk]
        exact List.Pairwise.map _ (fun a b h z => h (Sum.inr.inj z)) nd)
      simpa using this
    rw [hm]
    have hpP : p ∉ P := fun z => by
      obtain ⟨u, h1, _⟩ := o.mu.mem z
      rw [hp] at h1; cases h1
    have has : ∀ a ∈ as, ∃ vs, H a = some (.dK vs) := fun a ha => by
      obtain ⟨j, hj, ej⟩ := List.getElem_of_mem ha
      obtain ⟨vs, h, _⟩ := lp.inn j a _ (by rw [List.getElem?_eq_getElem hj, ej]) (List.getElem?_eq_getElem (by rw [← lp.la]; exact hj))
      exact ⟨vs, h⟩
    refine q p B _ hp ⟨Ex.refl _, fun b u _ e => Ex.new hp b u e, fun _ _ _ => rfl, fun b u e => ⟨u, Ex.new hp b u e⟩⟩ ⟨fun b u e => Ex.new hp b u (o.ex b u e), o.sl, o.mu.keep (Ex.refl _) (fun x hx => upd_ne fun z => hpP (z ▸ hx)) fun x hx => (o.mu.mem hx).choose_spec.2⟩
      ⟨lp.la, upd_same, fun i a r h1 h2 => ?_, ?_, fun a ha => ?_⟩
    · obtain ⟨vs, h3, h4⟩ := lp.inn i a r h1 h2
      exact ⟨vs, Ex.new hp _ _ h3, h4⟩
    · refine List.nodup_cons.mpr ⟨fun z => ?_, lp.nd⟩
      obtain ⟨vs, h⟩ := has p z
      rw [hp] at h; cases h
    · rcases List.mem_cons.mp ha with rfl | ha
      · exact o.ex.free hp
      · exact lp.no a ha
end SP
/-! R2: the laws' own drawing of the rows of all tables. -/
namespace SP
open PySem L2 DV PM LK NV QD RG
variable {K : PySem.W.Frag}
theorem stp_cell {B H : Hp} {a : Addr} {o : HO} (h : H a = none) : Stp [] B H B (upd H a o) := ⟨Ex.refl _, fun b u _ e => Ex.new h b u e, fun _ _ _ => rfl, fun b u e => ⟨u, Ex.new h b u e⟩⟩
theorem ex_cell {B H : Hp} {a : Addr} {o : HO} (e : Ex B H) (h : H a = none) : Ex B (upd H a o) := fun b u q => Ex.new h b u (e b u q)
theorem mu_free {P : List Addr} {cs : List (List D)} {B H : Hp} (m : Mu K B H P cs) {a : Addr} (h : H a = none) : a ∉ P := fun z => by
  obtain ⟨u, h1, _⟩ := m.mem z
  rw [h] at h1; cases h1
theorem ndA_ints : ∀ l : List Int, ndA (l.map D.int) = true
  | [] => rfl
  | _ :: l => ndA_ints l
theorem nd_row (r : Row) : RG.nd (rowD r) = true := ndA_ints r
def rowsW (T : List Tab) (m : Nat) : Wh := fun r c => ∃ s' R, c = [fdD s'] ∧ r = .dat (tabD R) ∧ Gd T R m ∧ bdR 100 R
def preRowsN : PreN := fun rs Pl cs W => ∃ p s T m, rs = [.val (.ref p), .dat (encTs T), .dat (.int (m : Nat))] ∧ schOk T ∧ refsOk T ∧ m ≤ 10 ∧ Pl = [p] ∧ cs = [fdD s] ∧ W = rowsW T m
/-- how many rows stand in each table while they are drawn: i the table, j its turn -/
def cnt (R : Rs) (m i j : Nat) : Prop := ∀ x t, R[x]? = some t → t.2.length ≤ if x < i then m else if x = i then j else 0
theorem tabs_publ {P : List Addr} {ss : List Sl} {cs : List (List D)} {B0 H0 B H : Hp} {σ : L2.St} {t : Addr} {as : List Addr} {R : Rs} {i : Nat} {PS : List Addr} (s : Stp PS B0 H0 B H) (o : Okk K P ss cs B H σ) (x : Tabs K B H t as R) (hi : ss[i]? = some (.val (.ref t))) (ft : ∀ a ∈ t :: as, H0 a = none) (hPS : ∀ q ∈ PS, q ∉ P → q ∈ as) :
    Sta K P B0 H0 (ss.set i (.dat (tabD R))) cs σ H := by
  have hh := held_of (B := B) (H := H) x.no
  have e1 := RG.pub_ex hh.no
  have hasP : ∀ a ∈ t :: as, a ∉ P := fun a ha z => by
    obtain ⟨k, hk, ek⟩ := List.getElem_of_mem z
    have hl : ∀ {P : List Addr} {cs : List (List D)}, Mu K B H P cs → ∀ p ∈ P, ∃ vs, H p = some (.lst vs) := by
      intro P
      induction P with
      | nil => intro cs m p h; cases h
      | cons q P ih =>
        intro cs m p h
        cases cs with
        | nil => exact m.elim
        | cons c cs =>
          obtain ⟨⟨vs, h1, _⟩, _, _, m'⟩ := m
          rcases List.mem_cons.mp h with rfl | h
          · exact ⟨vs, h1⟩
          · exact ih m' p h
    obtain ⟨vs, hv⟩ := hl o.mu a z
    obtain ⟨kvs, hk⟩ := x.has a ha
    rw [hk] at hv; cases hv
  refine ⟨RG.pub B (cellsOf H (t :: as)), ⟨s.ex.trans e1, fun b u n e => ?_, fun b u e => ?_, s.dm⟩, ⟨RG.pub_in o.ex hh, slots_dat (o.sl.mono e1) hi (x.pub (fun _ z => z) x.no), RG.mu_pub e1 (fun q hq => hasP _ (cells_mem.mp hq).1) o.mu⟩⟩
  · by_cases hb : b ∈ PS
    · have := hPS b hb n
      have h1 := ft b (List.mem_cons_of_mem _ this)
      rw [h1] at e; cases e
    · exact s.fr b u hb e
  · rw [RG.pub_ne fun q hq z => by
      have h1 := ft _ (cells_mem.mp hq).1
      rw [z, e] at h1; cases h1]
    exact s.nb b u e
end SP
namespace T3
open PySem L2 DV PM SP LK NV
section
variable {P : Program} {w : World} {K : PySem.W.Frag} {mg : Str → Option Value} {base : Heap}
end
end T3
/-! R3: the laws' own copy of rows. -/
namespace SP
open PySem L2 DV PM LK NV QD
variable {K : PySem.W.Frag}
def rDictD (K : PySem.W.Frag) : List V → Hp → VK → Prop := fun xs H Q => ∃ (a : Addr) (kvs : List (Key × V)), xs = [.ref a] ∧ Rd H a (.dK kvs) ∧ ∀ p, H p = none → Q (.ref p) (upd H p (.dK kvs))
theorem call_dictD1 {X : Cx} : CallR X (.type "dict") (rDictD X.K) := call_dictD
theorem ret_lock {te : TE} {rr : List V → Hp → VK → Prop} {De : Ends} {σ : L2.St} {H : Hp} (h : tLockE te σ H fun v H1 => rr [v] H1 De.rt) : tRet (tCB rr (tCons (tLockE te) tNil)) De σ H := h
theorem lock_of {te : TE} {σ : L2.St} {H : Hp} {Q : VK} {a : Addr} {u : HO} (h1 : H a = some u) (hm : Mut (some u)) (h : ∀ od, te σ (upd H a (.frz od u)) fun v H' => H' a = some (.frz od u) ∧ Q v (upd H' a u)) : tLockE te σ H Q := ⟨a, u, h1, hm, h⟩
theorem tab_open {B : Hp} {v : V} {R : Rs} (h : Rp K B v (tabD R)) : ∃ t kvo, v = .ref t ∧ B t = some (.dK kvo) ∧ RpK K B kvo (tabKs R) := by
  unfold tabD at h
  cases h with
  | @dic t kvo _ h6 rk => exact ⟨t, kvo, rfl, h6, rk⟩
theorem in_open {B : Hp} {v : V} {l : List (Int × Row)} (h : Rp K B v (inD l)) : ∃ a kvi, v = .ref a ∧ B a = some (.dK kvi) ∧ RpK K B kvi (inKs l) := by
  unfold inD at h
  cases h with
  | @dic t kvo _ h6 rk => exact ⟨t, kvo, rfl, h6, rk⟩
theorem in_ne {B : Hp} {t a : Addr} {kvo kvi : List (Key × V)} {R : Rs} {l : List (Int × Row)} (h1 : B t = some (.dK kvo)) (r1 : RpK K B kvo (tabKs R)) (hR : R ≠ []) (h2 : B a = some (.dK kvi)) (r2 : RpK K B kvi (inKs l)) : a ≠ t := fun z => by
  subst z
  rw [h1] at h2
  cases h2
  cases R with
  | nil => exact hR rfl
  | cons r R =>
    cases r1 with
    | cons _ _ =>
      cases l with
      | nil => cases r2
      | cons p l => cases r2
/-- the rows of tables, when the dict of the tables is locked -/
theorem tabKs_hide {B : Hp} {t : Addr} {od : Obj} {kvo : List (Key × V)} {R : Rs} (h1 : B t = some (.dK kvo)) (r1 : RpK K B kvo (tabKs R)) : RpK K (upd B t (.frz od (.dK kvo))) kvo (tabKs R) := by
  by_cases hR : R = []
  · subst hR
    cases r1
    exact .nil
  have gen : ∀ {vs : List (Key × V)} {R' : Rs}, RpK K B vs (tabKs R') → RpK K (upd B t (.frz od (.dK kvo))) vs (tabKs R') := by
    intro vs R'
    induction R' generalizing vs with
    | nil => intro h; cases h; exact .nil
    | cons r R' ih =>
      intro h
      have h : RpK K B vs (((Sum.inr r.1 : Key), inD r.2) :: tabKs R') := h
      cases h with
      | cons hv hr =>
        obtain ⟨a, kvi, rfl, ha, rk⟩ := in_open hv
        have ne := in_ne h1 r1 hR ha rk
        refine RpK.cons (k := (Sum.inr r.1 : Key)) (d := inD r.2) ?_ (ih hr)
        unfold inD
        refine .dic (by rw [upd_ne ne]; exact ha) ?_
        exact (rpK_hide h1 rk fun p hp => by obtain ⟨x, _, rfl⟩ := List.mem_map.mp hp; exact ndL_row _).mono off_upd
  exact gen r1
def spCopy (K : PySem.W.Frag) : Sp := fun vs H Q _ => ∃ B v R, vs = [v] ∧ Ex B H ∧ Rp K B v (tabD R) ∧ R.length ≤ 1000 ∧ (R.map (·.1)).Nodup ∧ ∀ t as B' H', Stp [] B H B' H' → Ex B' H' → Tabs K B' H' t as R → (∀ a ∈ t :: as, H a = none) → Q (.ref t) H'
end SP
namespace T3
open PySem L2 DV PM SP LK NV
section
variable {P : Program} {w : World} {K : PySem.W.Frag} {mg : Str → Option Value} {base : Heap}
end
end T3
namespace SP
open PySem L2 DV PM LK RG
variable {K : PySem.W.Frag}
def iOr (a b : TI) : TI := fun σ H R => a σ H R ∨ b σ H R
theorem pi_or {X : Cx} {tg e : Expr} {a b : TI} (ha : PI X tg e a) (hb : PI X tg e b) : PI X tg e (iOr a b) := ⟨fun pins s σ H R I h => h.elim (ha.run pins s σ H R I) (hb.run pins s σ H R I)⟩
section
variable {P : List Addr} {ss : List Sl} {cs cs1 : List (List D)} {a b : TI} {ds : List D}
theorem wd_orL (h : WD K P ss cs a ds cs1) : WD K P ss cs (iOr a b) ds cs1 := fun B H σ o R q => .inl (h B H σ o R q)
theorem wd_orR (h : WD K P ss cs b ds cs1) : WD K P ss cs (iOr a b) ds cs1 := fun B H σ o R q => .inr (h B H σ o R q)
end
def encP (q : Str × Row) : D := .tup [.str q.1, rowD q.2]
def emptyF (T : List Tab) : Rs := T.map fun t => (t.1, [])
def fillF (T : List Tab) (pairs : List (Str × Row)) : Rs := pairs.foldl (fun R q => stepCh R (.ins q.1 q.2)) (emptyF T)
/-- the empty tuple of the program's text -/
def KTup0 (K : PySem.W.Frag) (v : V) : Prop := ∃ (a : Addr) (o : Obj) (n : Nat), v = .ref a ∧ K.lookup a = some o ∧ o.cls = .type "tuple" ∧ o.data = .seq #[] n
theorem wd_tup0 {K : PySem.W.Frag} {P : List Addr} {ss : List Sl} {cs : List (List D)} {te : TE} {v : V} (k : KTup0 K v) (h : Ev K P ss cs te (.val v) cs) : WD K P ss cs (iTup K te) [] cs := fun B H σ o R q =>
  h B H σ o _ fun v' B1 H1 s1 o1 v1 => by
    have e : v' = v := v1
    subst e
    obtain ⟨a, ob, n, rfl, h1, h2, h3⟩ := k
    have z : ∀ H, SqT K H a [] := fun H => .inr ⟨ob, #[], n, h1, h2, h3, Nat.zero_le _, .nil⟩
    refine ⟨_, rfl, ⟨[], z _⟩, q _ B1 H1 s1 o1 fun i B2 H2 e1 e2 => ⟨fun d hd => ?_, fun _ => ⟨[], z _, Nat.zero_le _⟩⟩⟩
    simp at hd
theorem _root_.L2.FunD.okN {P : Program} {w : World} {K : PySem.W.Frag} {mg : Str → Option Value} {base : Heap} {x qual : Str} {params : Arguments} {body : List Stmt} {scope : Scope} {dvs : List V} {kws : List (Str × V)} {f : Addr} {fd : FuncData} {N ps : List Str} {k : Nat} {sp : Sp} (F : FunD K x qual params body scope dvs kws f fd) (S : FnScope N ps scope) (len : ∀ vs H Q E, sp vs H Q E → vs.length = ps.length)
    (hbody : ∀ (cdv : Value) (A : Around) (outer : List Env) (s : Shared) (H : Hp) (vs : List V) (Q : VK) (E : XK), Room k (A.deeper (PyProof.Rows.envOfC qual scope s.heap.objs.size f cdv)) → sp vs H Q E →
      ∃ t, PSs (cxOf CX0 P w K mg base N qual scope f cdv A outer s H E).nox body t ∧ t { nx := fun _ H' => Q .non H', rt := Q } (start N vs) H) : FnOk P w K mg base CX0 (k + 1) f fd ps sp :=
  F.ok S len fun cdv A outer s H vs Q E hr hsp => by
    obtain ⟨t, h, q⟩ := hbody cdv A outer s H vs Q E hr hsp
    exact ⟨t, h.nox, q⟩
def spBInit (K : PySem.W.Frag) (CB C : Addr) : Sp := fun vs H Q _ => ∃ p dx T v0 vr pairs B0 H0, vs = [.ref p, v0, vr] ∧ H = upd (upd H0 dx (.own p)) p (.ins CB dx []) ∧ H0 p = none ∧ H0 dx = none ∧ dx ≠ p ∧ Ex B0 H0 ∧ Rp K B0 v0 (schD C T) ∧ (Rp K B0 vr (.lst (List.map encP pairs)) ∨ Rp K B0 vr (.tup (List.map encP pairs)) ∨ (pairs = [] ∧ KTup0 K vr)) ∧ schOk T ∧
  (∀ q ∈ pairs, chOk T (.ins q.1 q.2)) ∧ pairs.length ≤ 900 ∧ ∀ t as B' H', Stp [] B0 H0 B' H' → Ex B' H' → BaseAt K B' H' p dx t as CB C v0 T (fillF T pairs) → (∀ a ∈ t :: as, H0 a = none) → Q .non H'
theorem stp_fresh {PS : List Addr} {B0 H0 B H B' H' : Hp} (s0 : Stp [] B0 H0 B H) (s : Stp PS B H B' H') (f : ∀ a ∈ PS, H0 a = none) : Stp [] B0 H0 B' H' where
  ex := s0.ex.trans s.ex
  fr b o _ h := s.fr b o (fun z => by rw [f b z] at h; cases h) (s0.fr b o (by simp) h)
  nb b o h := by
    obtain ⟨o', h'⟩ := s0.dm b o h
    rw [s.nb b o' h', s0.nb b o h]
  dm b o h := let ⟨o', h'⟩ := s0.dm b o h; s.dm b o' h'
/-- {table: {} for table in names}: new dicts -/
theorem dc_new {ss : List Sl} {It : It} {B1 H1 : Hp} {σ : L2.St} {Q : VK} {T : List Tab} {vs : List Nat} {i3 : Nat} (o1 : Okk K [] ss [] B1 H1 σ) (wk : Walks K B1 It (T.map fun t => D.str t.1)) (nd : (T.map (·.1)).Nodup) (hz : T.length ≤ 1000) (h3 : i3 ∈ vs) (h3' : i3 < (wipeS ss vs).length)
    (q : ∀ t as B' H', Stp [] B1 H1 B' H' → Okk K [] ss [] B' H' σ → Tabs K B' H' t as (emptyF T) → (∀ a ∈ t :: as, H1 a = none) → Q (.ref t) H') :
    ∀ Dp, H1 Dp = none → ∃ W : Nat → Nat → Hp → Prop, (∃ m, W 0 m (upd H1 Dp (.dK []))) ∧ ∀ i m H, W i m H →
      (It.stop i H ∧ Q (.ref Dp) H) ∨ (It.go i H ∧ ∃ Nx : Hp → Prop, (∀ H', Nx H' → ∃ m', m' < m ∧ W (i + 1) m' H') ∧ ∀ x H', It.yld i H x H' → gName i3 x (wipe σ vs) H' fun σ2 H2 => wipe σ2 vs = wipe σ vs ∧ tYes σ2 H2 fun b H3 =>
        if b = true then tVar i3 σ2 H3 fun y H4 => tDNewK σ2 H4 fun z H5 => ∃ kvs k, y = kV k ∧ H5 Dp = some (.dK kvs) ∧ kvs.length < sizeLine ∧ Nx (upd H5 Dp (.dK (putK kvs k z))) else Nx H3) := by
  intro Dp hDp
  have hB1 : B1 Dp = none := o1.ex.free hDp
  let ent : List Addr → Nat → List (Key × V) := fun as i => List.zipWith (fun (t : Tab) a => ((Sum.inr t.1 : Key), V.ref a)) (T.take i) as
  let I : Nat → Hp → Prop := fun i H' => ∃ B' as, Stp [] B1 H1 B' H' ∧ Okk K [] ss [] B' H' σ ∧ as.length = i ∧ H' Dp = some (.dK (ent as i)) ∧ B' Dp = none ∧ (Dp :: as).Nodup ∧ ∀ a ∈ as, H' a = some (.dK []) ∧ B' a = none ∧ H1 a = none
  have i0 : I 0 (upd H1 Dp (.dK [])) :=
    ⟨B1, [], ⟨Ex.refl _, fun b u n e => Ex.new hDp b u e, fun _ _ _ => rfl, fun b u e => ⟨u, Ex.new hDp b u e⟩⟩, ⟨fun b u e => Ex.new hDp b u (o1.ex b u e), o1.sl, True.intro⟩, rfl, upd_same, hB1, by simp, fun a h => by cases h⟩
  refine ⟨fun i m H' => m = T.length - i ∧ i ≤ T.length ∧ I i H', ⟨T.length, by simp, Nat.zero_le _, i0⟩, ?_⟩
  rintro i m H' ⟨rfl, hi, B2, as, s2, o2, hla, hd2, hb2, hnd, has⟩
  obtain ⟨w1, w2⟩ := wk i B2 H' s2.ex o2.ex
  by_cases hlt : i < T.length
  · have hx : T[i]? = some T[i] := List.getElem?_eq_getElem hlt
    generalize T[i] = x at hx
    obtain ⟨go, yl⟩ := w1 (.str x.1) (by rw [List.getElem?_map, hx]; rfl)
    refine .inr ⟨go, I (i + 1), fun H3 q => ⟨T.length - (i + 1), by omega, rfl, hlt, q⟩, fun y H3 hy => ?_⟩
    obtain ⟨B3, s3, e3, x3⟩ := yl y H3 hy
    cases (show Rp K B3 y (.str x.1) from x3)
    have o3 := o2.step0 s3 e3
    refine ⟨(Only.set (wipe σ vs) i3 _).wipe (fun k hk => by rw [List.mem_singleton.mp hk]; exact h3), ?_⟩
    unfold tYes
    dsimp only []
    rw [if_pos rfl]
    have hlen : i3 < (wipe σ vs).length := by rw [(o3.sl.wipe vs).len]; exact h3'
    refine ⟨.str x.1, by rw [List.getElem?_set, if_pos rfl, if_pos hlen], fun a0 ha0 => ?_⟩
    have hd3 : H3 Dp = some (.dK (ent as i)) := s3.fr _ _ (by simp) hd2
    have ne0 : Dp ≠ a0 := fun z => by rw [← z, hd3] at ha0; cases ha0
    have h10 : H1 a0 = none := by
      cases e : H1 a0 with
      | none => rfl
      | some u =>
        obtain ⟨u', h'⟩ := (s2.trans s3).dm a0 u e
        rw [ha0] at h'; cases h'
    have hb30 : B3 a0 = none := e3.free ha0
    have hb3D : B3 Dp = none := by rw [s3.nb _ _ hd2]; exact hb2
    have n0 : a0 ∉ as := fun z => by
      have := s3.fr _ _ (by simp) (has a0 z).1
      rw [ha0] at this; cases this
    have hel : (ent as i).length = i := by
      show (List.zipWith _ (T.take i) as).length = i
      rw [List.length_zipWith, List.length_take, hla]; omega
    have hnew : valV (ent as i) (Sum.inr x.1 : Key) = none := by
      cases hv : valV (ent as i) (Sum.inr x.1 : Key) with
      | none => rfl
      | some w =>
        exfalso
        unfold valV at hv
        cases hf : (ent as i).find? (fun kv => decide (kv.1 = (Sum.inr x.1 : Key))) with
        | none => rw [hf] at hv; cases hv
        | some p =>
          have hp := List.mem_of_find?_eq_some hf
          have he := List.find?_some hf
          obtain ⟨j, hj, ej⟩ := List.getElem_of_mem hp
          have hj' : j < i := by rw [hel] at hj; exact hj
          have hjT : j < T.length := by omega
          have e1 : p.1 = (Sum.inr (T[j]).1 : Key) := by
            rw [← ej]
            simp [ent]
          rw [e1] at he
          have e2 : (T[j]).1 = x.1 := Sum.inr.inj (of_decide_eq_true he)
          obtain ⟨hiT, ex⟩ := List.getElem?_eq_some_iff.mp hx
          have := nodup_at nd (i := j) (j := i) (by rw [List.length_map]; exact hjT) (by rw [List.length_map]; exact hiT) (by rw [List.getElem_map, List.getElem_map, e2, ex])
          omega
    refine ⟨ent as i, .inr x.1, rfl, by rw [upd_ne ne0]; exact hd3, lt_line (by omega), ?_⟩
    rw [L2.putK_new _ hnew]
    have s3' : Stp [] B1 H1 B3 (upd (upd H3 a0 (.dK [])) Dp (.dK (ent as i ++ [(Sum.inr x.1, .ref a0)]))) := by
      have s := s2.trans s3
      refine ⟨s.ex, fun b u n e => ?_, s.nb, fun b u e => ?_⟩
      · rw [upd_ne (fun z => by rw [z, hDp] at e; cases e), upd_ne (fun z => by rw [z, h10] at e; cases e)]
        exact s.fr b u n e
      · rw [upd_ne (fun z => by rw [z, hDp] at e; cases e), upd_ne (fun z => by rw [z, h10] at e; cases e)]
        exact s.dm b u e
    refine ⟨B3, as ++ [a0], s3', ⟨fun b u e => ?_, o3.sl, True.intro⟩, by rw [List.length_append, hla]; rfl, ?_, hb3D, ?_, fun a ha => ?_⟩
    · rw [upd_ne (fun z => by rw [z, hb3D] at e; cases e), upd_ne (fun z => by rw [z, hb30] at e; cases e)]
      exact e3 b u e
    · rw [upd_same]
      congr 2
      show ent as i ++ _ = List.zipWith _ (T.take (i + 1)) (as ++ [a0])
      rw [List.take_add_one, hx, List.zipWith_append (by rw [List.length_take, hla]; omega)]
      rfl
    · have h1 := List.nodup_cons.mp hnd
      rw [List.nodup_cons]
      refine ⟨fun h => ?_, ?_⟩
      · rcases List.mem_append.mp h with h | h
        · exact h1.1 h
        · exact ne0 (List.mem_singleton.mp h)
      · rw [List.nodup_append]
        exact ⟨h1.2, by simp, fun a ha b hb => by rw [List.mem_singleton.mp hb]; exact fun z => n0 (z ▸ ha)⟩
    · rcases List.mem_append.mp ha with ha | ha
      · obtain ⟨c1, c2, c3⟩ := has a ha
        have na : a ≠ a0 := fun z => n0 (z ▸ ha)
        have nD : a ≠ Dp := fun z => (List.nodup_cons.mp hnd).1 (z ▸ ha)
        exact ⟨by rw [upd_ne nD, upd_ne na]; exact s3.fr _ _ (by simp) c1, by rw [s3.nb _ _ c1]; exact c2, c3⟩
      · rw [List.mem_singleton.mp ha]
        exact ⟨by rw [upd_ne (Ne.symm ne0)]; exact upd_same, hb30, h10⟩
  · have e : i = T.length := by omega
    subst e
    refine .inl ⟨w2 (by rw [List.length_map]; exact Nat.le_refl _), q Dp as B2 H' s2 o2 ⟨by rw [hla]; simp [emptyF], ?_, fun j a r ha hr => ?_, hnd, fun a ha => ?_⟩ (fun a ha => ?_)⟩
    · rw [hd2]
      show some (HO.dK (List.zipWith _ (T.take T.length) as)) = _
      rw [List.take_length]
      unfold emptyF
      rw [List.zipWith_map_left]
    · refine ⟨[], (has a (List.mem_of_getElem? ha)).1, ?_⟩
      unfold emptyF at hr
      rw [List.getElem?_map] at hr
      cases hj : T[j]? with
      | none => rw [hj] at hr; cases hr
      | some t =>
        rw [hj] at hr
        have e : (t.1, ([] : List (Int × Row))) = r := Option.some.inj hr
        subst e
        exact .nil
    · rcases List.mem_cons.mp ha with rfl | ha
      · exact hb2
      · exact (has a ha).2.1
    · rcases List.mem_cons.mp ha with rfl | ha
      · exact hDp
      · exact (has a ha).2.2
theorem ed_new {ss : List Sl} {wi : TI} {B H : Hp} {σ : L2.St} {Q : VK} {T : List Tab} {vs : List Nat} {i3 : Nat} (o : Okk K [] ss [] B H σ) (hw : WD K [] ss [] wi (T.map fun t => D.str t.1) []) (nd : (T.map (·.1)).Nodup) (hz : T.length ≤ 1000) (h3 : i3 ∈ vs) (h3' : i3 < (wipeS ss vs).length)
    (q : ∀ t as B' H', Stp [] B H B' H' → Okk K [] ss [] B' H' σ → Tabs K B' H' t as (emptyF T) → (∀ a ∈ t :: as, H a = none) → Q (.ref t) H') : tDc wi (gName i3) tYes (tVar i3) tDNewK vs σ H Q :=
  hw B H σ o _ fun It B1 H1 s1 o1 wk => dc_new o1 wk nd hz h3 h3' fun t as B2 H2 s2 o2 tb fr => q t as B2 H2 (s1.trans s2) o2 tb fun a ha => by
    cases e : H a with
    | none => rfl
    | some u =>
      obtain ⟨u', h'⟩ := s1.dm a u e
      rw [fr a ha] at h'; cases h'
end SP
namespace T3
open PySem L2 DV PM SP LK
abbrev s_Base_init_ : Stmt := inClass (topS 5) 0
abbrev N_Base_init_ : List Str := ["self", "schema", "rows", "table", "row"]
theorem sc_Base_init_ : FnScope N_Base_init_ ["self", "schema", "rows"] (defScope s_Base_init_) := ⟨rfl, rfl, rfl, by decide +kernel, rfl, by decide +kernel, by decide +kernel⟩

section
variable {P : Program} {w : World} {K : PySem.W.Frag} {mg : Str → Option Value} {base : Heap} {C CB : Addr}
theorem ok_binit {f : Addr} {fd : FuncData} {dvs : List V} (F : FunD K "__init__" "Base.__init__" (defArgs s_Base_init_) (defBody s_Base_init_) (defScope s_Base_init_) dvs [] f fd) (c : BaseCls K CB) (cs : SchCls K C) : FnOk P w K mg base CX0 1 f fd ["self", "schema", "rows"] (spBInit K CB C) := by
  refine F.okN sc_Base_init_ (fun vs H Q E h => ?_) (fun cdv A outer s H vs Q E hr h => ?_)
  · obtain ⟨p, dx, T, v0, vr, pairs, B0, H0, rfl, _⟩ := h
    rfl
  have nd := sc_Base_init_.nd
  refine ⟨_, (pss_cons (ps_fld (pv 0) (pv 1) rfl)
      (pss_cons (ps_fld (pv 0) (pe_dc (own := [("table", 3)]) (g := (gName 3)) (tt := tYes) (tk := (tVar 3)) (tv := tDNewK) rfl nd (pi_tup (pe_fld (pv 1) rfl)) (blkOk_by (N := N_Base_init_) (sc := defScope s_Base_init_) (by decide +kernel)) (by intro _ _ _ _ _; exact (pg_name (i := 3) nd (by rfl) (by first | exact .inl rfl | exact .inr rfl))) (by intro _ _ _ _ _; exact pts_nil) (by intro _ _ _ _ _; exact (pv 3)) (by intro _ _ _ _ _; exact pe_dnewK)) rfl)
      (pss_one (ps_for PassesOwn.never rfl (pi_or (pi_list (pv 2)) (pi_tup (pv 2))) (pg_tup (by rfl) (by exact (pgs_cons (by exact (pg_name (i := 3) nd (by rfl) (by first | exact .inl rfl | exact .inr rfl))) (by exact (pgs_cons (by exact (pg_name (i := 4) nd (by rfl) (by first | exact .inl rfl | exact .inr rfl))) (by exact pgs_nil)))))) (pss_one (ps_dput (hu_of hr) (pe_dget (hu_of hr) (pe_fld (pv 0) rfl) (pv 3) (fun _ _ => rfl)) (pe_ix ix_seq (pv 4) pe_int (fun _ _ => rfl)) (pv 4) rfl)))))), ?_⟩
  obtain ⟨p, dx, T, v0, vr, pairs, B0, H0, rfl, rfl, hp0, hd0, hne, e0, r0, rr, hT, hq, hz, q⟩ := h
  have bp0 : B0 p = none := e0.free hp0
  have bd0 : B0 dx = none := e0.free hd0
  have s0 : Stp [] B0 H0 B0 (upd (upd H0 dx (.own p)) p (.ins CB dx [])) := stp_upd (stp_upd (Stp.refl _ _ _) hd0) hp0
  have e1 : Ex B0 (upd (upd H0 dx (.own p)) p (.ins CB dx [])) := ex_upd (ex_upd e0 bd0) bp0
  have hp : upd (upd H0 dx (.own p)) p (.ins CB dx []) p = some (.ins CB dx []) := upd_same
  generalize upd (upd H0 dx (.own p)) p (.ins CB dx []) = H1 at s0 e1 hp ⊢
  obtain ⟨dr, rdr, hdr⟩ : ∃ dr : Sl, RS K B0 vr dr ∧ ∀ {ss : List Sl}, ss[2]? = some dr → WD K [] ss [] (iOr (iList K (tVar 2)) (iTup K (tVar 2))) (pairs.map encP) [] := by
    rcases rr with r | r | ⟨rfl, r⟩
    · exact ⟨.dat _, r, fun h => wd_orL (wd_lst (ev_var h))⟩
    · exact ⟨.dat _, r, fun h => wd_orR (wd_tup (ev_var h))⟩
    · exact ⟨.val vr, rfl, fun h => wd_orR (wd_tup0 r (ev_var h))⟩
  obtain ⟨B, s1, o1⟩ := sta_start (vs := [.ref p, v0, vr]) (N := N_Base_init_) (K := K) (P := []) (cs := []) (rs := [.val (.ref p), .dat (schD C T), dr]) e1 ⟨rfl, r0, rdr, True.intro⟩ True.intro
  have h0 : (L2.start N_Base_init_ [.ref p, v0, vr])[0]? = some (some (.ref p)) := rfl
  have h1 : (L2.start N_Base_init_ [.ref p, v0, vr])[1]? = some (some v0) := rfl
  generalize L2.start N_Base_init_ [.ref p, v0, vr] = σ0 at o1 h0 h1 ⊢
  have o1' : Okk K [] [.val (.ref p), .dat (schD C T), dr, .any, .any] [] B H1 σ0 := o1
  have s01 := s0.trans s1
  have bp : B p = none := by rw [s1.nb _ _ hp]; exact bp0
  refine st_seq ⟨v0, h1, .ref p, h0, p, CB, dx, [], rfl, hp, c.cl, c.n1, by decide, ?_⟩
  have hp2 : upd H1 p (.ins CB dx (putF "schema" v0 [])) p = some (.ins CB dx [("schema", v0)]) := upd_same
  have s02 : Stp [] B0 H0 B (upd H1 p (.ins CB dx (putF "schema" v0 []))) := stp_upd s01 hp0
  have o2 : Okk K [] [.val (.ref p), .dat (schD C T), dr, .any, .any] [] B (upd H1 p (.ins CB dx (putF "schema" v0 []))) σ0 := ⟨ex_upd o1'.ex bp, o1'.sl, True.intro⟩
  generalize upd H1 p (.ins CB dx (putF "schema" v0 [])) = H2 at hp2 s02 o2 ⊢
  dsimp only []
  refine st_seq (ed_new (vs := [3]) (i3 := 3) (T := T) o2 (wd_tup (ev_nt (ev_fld (ev_var (i := 1) rfl) cs.cl cs.n1 rfl))) hT.2 (by have := hT.1.1; omega) (by decide) (by simp [wipeS]) fun t as B4 H4 s34 o4 tb fr => ?_)
  have hp4 : H4 p = some (.ins CB dx [("schema", v0)]) := s34.fr _ _ (by simp) hp2
  have b4 : B4 p = none := by rw [s34.nb _ _ hp2, ]; exact (by rw [s1.nb _ _ hp]; exact bp0)
  refine ⟨.ref p, h0, p, CB, dx, _, rfl, hp4, c.cl, c.n2, by simp, ?_⟩
  have hpas : ∀ a ∈ t :: as, H2 a = none ∧ H0 a = none := fun a ha => by
    have h2 : H2 a = none := fr a ha
    refine ⟨h2, ?_⟩
    cases e : H0 a with
    | none => rfl
    | some u => obtain ⟨u', h'⟩ := s02.dm a u e; rw [h2] at h'; cases h'
  have hpout : p ∉ t :: as := fun z => by
    have := (hpas p z).1
    rw [hp2] at this; cases this
  have hf : putF "_tables" (.ref t) [("schema", v0)] = ([("schema", v0), ("_tables", .ref t)] : List (Str × V)) := by
    have a1 : ¬ ("schema" : Str) = "_tables" := by decide +kernel
    simp only [putF, if_neg a1]
  rw [hf]
  have s05 : Stp [] B0 H0 B4 (upd H4 p (.ins CB dx [("schema", v0), ("_tables", .ref t)])) := stp_upd (s02.trans s34) hp0
  have o5 : Okk K [] [.val (.ref p), .dat (schD C T), dr, .any, .any] [] B4 (upd H4 p (.ins CB dx [("schema", v0), ("_tables", .ref t)])) σ0 := ⟨ex_upd o4.ex b4, o4.sl, True.intro⟩
  have x5 : BaseAt K B4 (upd H4 p (.ins CB dx [("schema", v0), ("_tables", .ref t)])) p dx t as CB C v0 T (emptyF T) := ⟨upd_same, b4, hpout, tb.step (stp_write hp4) (fun a ha z => hpout (List.mem_singleton.mp z ▸ ha)), r0.mono s05.ex⟩
  generalize upd H4 p (.ins CB dx [("schema", v0), ("_tables", .ref t)]) = H5 at s05 o5 x5 ⊢
  have noP : ∀ a ∈ p :: t :: as, a ∉ ([] : List Addr) := fun a _ h => by cases h
  dsimp only []
  refine st_forX (α := Rs) (PS := as) (P := []) (fun _ h => by cases h) (Stp.refl as B4 H5) o5 (hdr rfl)
    (fun i R' => R' = (pairs.take i).foldl (fun R q => stepCh R (.ins q.1 q.2)) (emptyF T) ∧ rowsOk T R' ∧ room (pairs.length - i) R') (fun _ _ => [.val (.ref p), .dat (schD C T), dr, .any, .any]) (fun _ _ => []) (fun _ R' B H => BaseAt K B H p dx t as CB C v0 T R') (emptyF T) ⟨rfl, ?_, ?_⟩
    ⟨.rfl _, .rfl _, .rfl _, .any _, .any _, True.intro⟩ rfl (fun B2 H2 s2 => x5.step s2 noP) (fun i z B H B' H' x s => x.step s noP) (fun B6 H6 s06 i d R' hd jR => ?_) (fun R' B6 σ' H6 jR s06 o6 x6 => ?_)
  · refine ⟨by unfold emptyF; rw [List.map_map]; rfl, fun x hx => ?_, fun x hx p hp => ?_⟩
    · obtain ⟨y, _, rfl⟩ := List.mem_map.mp hx
      exact ⟨List.nodup_nil, Nat.zero_le _⟩
    · obtain ⟨y, _, rfl⟩ := List.mem_map.mp hx
      cases hp
  · intro x hx
    obtain ⟨y, _, rfl⟩ := List.mem_map.mp hx
    show 0 + (pairs.length - 0) ≤ 1000
    omega
  · obtain ⟨e6, hRR, hroom⟩ := jR
    rw [List.getElem?_map] at hd
    cases hc : pairs[i]? with
    | none => rw [hc] at hd; cases hd
    | some qq =>
    rw [hc] at hd
    have ee : encP qq = d := Option.some.inj hd
    subst ee
    have hok := hq qq (List.mem_of_getElem? hc)
    obtain ⟨cols, hcols, _, hln, _⟩ := id hok
    have hil : i < pairs.length := (List.getElem?_eq_some_iff.mp hc).1
    have nd' : (R'.map (·.1)).Nodup := by rw [hRR.1]; exact hT.2
    have hroom' : room (pairs.length - (i + 1) + 1) R' := by
      have e1 : pairs.length - (i + 1) + 1 = pairs.length - i := by omega
      rw [e1]
      exact hroom
    have hok2 := step_ok (c := .ins qq.1 qq.2) (k := pairs.length - (i + 1)) hRR hok hroom'
    obtain ⟨j, l, hj⟩ : ∃ j l, R'[j]? = some (qq.1, l) := by
      have : qq.1 ∈ R'.map (·.1) := by rw [hRR.1]; exact List.mem_map.mpr ⟨(qq.1, cols), mem_lookup hcols, rfl⟩
      obtain ⟨t1, ht1, e1⟩ := List.mem_map.mp this
      obtain ⟨j, hj, ej⟩ := List.getElem_of_mem ht1
      exact ⟨j, t1.2, by rw [List.getElem?_eq_getElem hj, ej, ← e1]⟩
    refine ⟨_, _, g_tup (g_cons (g_name (i := 3)) (g_cons (g_name (i := 4)) g_nil)), fun B7 σ7 H7 s67 o7 x7 => ?_⟩
    obtain ⟨a, haj⟩ : ∃ a, as[j]? = some a := by
      have : j < as.length := by rw [x7.tabs.len]; exact (List.getElem?_eq_some_iff.mp hj).1
      exact ⟨as[j], List.getElem?_eq_getElem this⟩
    have ham : a ∈ as := List.mem_of_getElem? haj
    cases hr2 : qq.2 with
    | nil => have := hln qq.2 rfl; rw [hr2] at this; simp at this
    | cons k0 rest =>
    have o7' : Okk K [] [.val (.ref p), .dat (schD C T), dr, .dat (.str qq.1), .dat (.tup (D.int k0 :: rest.map D.int))] [] B7 H7 σ7 := by
      have e : rowD qq.2 = .tup (D.int k0 :: rest.map D.int) := by rw [hr2]; rfl
      have z : Okk K [] [.val (.ref p), .dat (schD C T), dr, .dat (.str qq.1), .dat (rowD qq.2)] [] B7 H7 σ7 := o7
      rw [e] at z
      exact z
    refine (ev_var (i := 4) rfl : Ev K [] _ [] _ (.dat (.tup (D.int k0 :: rest.map D.int))) []) B7 H7 σ7 o7' _ fun v8 B8 H8 s8 o8 r8 => ?_
    have x8 := x7.step s8 noP
    obtain ⟨w0, hw0, ew0⟩ := o8.sl.get 0 (.val (.ref p)) rfl (by intro z; cases z)
    cases (show w0 = .ref p from ew0)
    obtain ⟨w3, hw3, ew3⟩ := o8.sl.get 3 (.dat (.str qq.1)) rfl (by intro z; cases z)
    cases (show Rp K B8 w3 (.str qq.1) from ew3)
    refine ⟨.ref p, hw0, p, CB, dx, _, .ref t, rfl, x8.obj, c.cl, c.n2, rfl, .str qq.1, hw3, t, .ref a, rfl, .inl ⟨_, .inr qq.1, .inl x8.tabs.top, rfl, (valV_zip nd' hj haj).symm⟩, ?_⟩
    refine (ev_op (ev_var (i := 4) rfl) (ev_int (i := 0)) (od_ixT (d := .int k0) (atI_nat (xs := D.int k0 :: rest.map D.int) (j := 0) rfl)) : Ev K [] _ [] _ _ []) B8 H8 σ7 o8 _ fun v9 B9 H9 s9 o9 r9 => ?_
    have x9 := x8.step s9 noP
    obtain ⟨vs, hvs, rvs⟩ := x9.tabs.inn j a (qq.1, l) haj hj
    cases (show Rp K B9 v9 (.int k0) from r9)
    have r8' : Rp K B9 v8 (rowD (k0 :: rest)) := Rp.mono s9.ex r8
    refine ⟨a, _, rfl, .inl ⟨vs, .inl k0, hvs, rfl, ?_, rfl⟩, ?_⟩
    · rw [RpK.lenE rvs]
      have h1 := hroom (qq.1, l) (List.mem_of_getElem? hj)
      unfold inKs
      rw [List.length_map]
      exact lt_line (by have h2 : l.length + (pairs.length - i) ≤ 1000 := h1; omega)
    · have e2 : stepL (.ins qq.1 qq.2) l = putL l k0 (k0 :: rest) := by unfold stepL; rw [hr2]; rfl
      refine ⟨stepCh R' (.ins qq.1 qq.2), ⟨?_, hok2.1, hok2.2⟩, B9, (s67.trans (s8.trans s9).ofNil).trans ((stp_write hvs).mono fun y hy => by rw [List.mem_singleton.mp hy]; exact ham), okk_write ⟨o9.ex, o9.sl.le ⟨.rfl _, .rfl _, .rfl _, .any _, .any _, True.intro⟩, True.intro⟩ (x9.no a (List.mem_cons_of_mem _ (List.mem_cons_of_mem _ ham))), ?_⟩
      · rw [List.take_add_one, hc, List.foldl_append, ← e6]
        rfl
      · have w := x9.write haj hj (e2 ▸ rpK_put (i := k0) rvs r8')
        rw [setT_eq (f := stepL (.ins qq.1 qq.2)) nd' hj] at w
        exact w
  · obtain ⟨e6, _, _⟩ := jR
    rw [List.length_map, List.take_length] at e6
    subst e6
    exact q t as B6 H6 (stp_fresh s05 s06 fun a ha => (hpas a (List.mem_cons_of_mem _ ha)).2) o6.ex x6 fun a ha => (hpas a ha).2
end
end T3
/-! R4: the laws' own making of a batch. -/
namespace SP
open PySem L2 DV PM LK NV QD
variable {K : PySem.W.Frag}
def madeD : Option Nat × Rs → D
  | (some i, _) => .int (i : Nat)
  | (none, R) => tabD R
def preMake : Pre := fun rs Pl cs r cs' => ∃ T R chs, rs = [.dat (encTs T), .dat (tabD R), .dat (.lst (List.map encCh chs))] ∧ schOk T ∧ refsOk T ∧ rowsOk T R ∧ (∀ c ∈ chs, chOk T c) ∧ room chs.length R ∧ chs.length ≤ 100 ∧ Pl = [] ∧ cs = [] ∧ r = .dat (madeD (advF T chs R 0)) ∧ cs' = []
theorem call_fresh {sp : Sp} {i j : Nat} {De : Ends} {σ : L2.St} {H : Hp} {v : V} (hv : σ[j]? = some (some v)) (h : sp [v] H (fun w H2 => De.nx (σ.set i (some w)) H2) E0) : tAsg (tCall sp [] E0 (tCons (tVar j) tNil)) (gName i) De σ H := ⟨v, hv, h⟩
end SP
namespace T3
open PySem L2 DV PM SP LK NV
section
variable {P : Program} {w : World} {K : PySem.W.Frag} {mg : Str → Option Value} {base : Heap}
end
end T3
/-! R5: the laws' own pairs of tables and rows. -/
namespace SP
open PySem L2 DV PM LK NV QD
variable {K : PySem.W.Frag}
def pairsOf (R : Rs) : List (Str × Row) := R.flatMap fun t => t.2.map fun p => (t.1, p.2)
def prePairs : Pre := fun rs Pl cs r cs' => ∃ R, rs = [.dat (tabD R)] ∧ (R.map (·.1)).Nodup ∧ (∀ t ∈ R, (t.2.map (·.1)).Nodup ∧ t.2.length ≤ 1000) ∧ R.length ≤ 100 ∧ Pl = [] ∧ cs = [] ∧ r = .dat (.lst ((pairsOf R).map encP)) ∧ cs' = []
theorem pairs_len {R : Rs} (h : ∀ t ∈ R, t.2.length ≤ 1000) : (pairsOf R).length ≤ 1000 * R.length := by
  unfold pairsOf
  induction R with
  | nil => simp
  | cons t R ih =>
    rw [List.flatMap_cons, List.length_append, List.length_map, List.length_cons]
    have h1 := h t List.mem_cons_self
    have h2 := ih fun x hx => h x (List.mem_cons_of_mem _ hx)
    omega
/-- [(n, rows[n][key]) for key in rows[n]], the dict of the tables being locked -/
theorem pairs_in {ss : List Sl} {R : Rs} {n : Str} {l : List (Int × Row)} {B H : Hp} {σ : L2.St} {t : Addr} {od0 : Obj} {kvo : List (Key × V)} {i0 i2 i3 : Nat} (o : Okk K [] ss [] B H σ) (h0 : ss[i0]? = some (.val (.ref t))) (h2 : ss[i2]? = some (.dat (.str n))) (n02 : i0 ≠ i2) (n03 : i0 ≠ i3) (n23 : i2 ≠ i3) (hl3 : i3 < ss.length)
    (hB : B t = some (.frz od0 (.dK kvo))) (rT : RpK K B kvo (tabKs R)) (hR : R.lookup n = some l) (nd : (l.map (·.1)).Nodup) (hz : l.length ≤ 1000) {Q : VK}
    (q : ∀ v B' H', Stp [] B H B' H' → Okk K [] ss [] B' H' σ → Rp K B' v (.lst ((l.map fun p => (n, p.2)).map encP)) → Q v H') :
    tLockE (tLc (iKeys (tDGet (tVar i0) (tVar i2))) (gName i3) tYes (tTup (tCons (tVar i2) (tCons (tDGet (tDGet (tVar i0) (tVar i2)) (tVar i3)) tNil))) [i3]) σ H Q := by
  obtain ⟨v1, hv1, ev1⟩ := o.sl.get i0 _ h0 (by intro z; cases z)
  cases (show v1 = .ref t from ev1)
  obtain ⟨v4, hv4, rv4⟩ := o.sl.get i2 _ h2 (by intro z; cases z)
  cases (show Rp K B v4 (.str n) from rv4)
  obtain ⟨va, hval, rva⟩ := rT.val (valD_tab hR)
  obtain ⟨a, kvi, rfl, ha5, rk⟩ := in_open rva
  have nta : t ≠ a := fun z => by rw [z, ha5] at hB; cases hB
  refine lock_of (o.ex _ _ ha5) True.intro fun od => ?_
  have rkf : RpK K (upd B a (.frz od (.dK kvi))) kvi (inKs l) := (rpK_hide ha5 rk fun p hp => by obtain ⟨x, _, rfl⟩ := List.mem_map.mp hp; exact ndL_row _).mono off_upd
  have wk := wk_keys (od := od) (upd_same (H := B)) rkf
  have ev : (inKs l).map (fun p => keyD p.1) = l.map fun p => D.int p.1 := by unfold inKs; rw [List.map_map]; rfl
  rw [ev] at wk
  let S : List Sl := ((List.replicate ss.length Sl.any).set i0 (.val (.ref t))).set i2 (.val (.str n))
  have okv : Okk K [] S [] (upd B a (.frz od (.dK kvi))) (upd H a (.frz od (.dK kvi))) σ := by
    refine ⟨Ex.updB o.ex, ⟨by simp [S]; exact o.sl.len, fun i r hi hn => ?_⟩, True.intro⟩
    simp only [S, List.getElem?_set, List.length_set, List.length_replicate] at hi
    by_cases e4 : i2 = i
    · subst e4
      rw [if_pos rfl] at hi
      split at hi
      · cases hi; exact ⟨_, hv4, rfl⟩
      · cases hi
    · rw [if_neg e4] at hi
      by_cases e1 : i0 = i
      · subst e1
        rw [if_pos rfl] at hi
        split at hi
        · cases hi; exact ⟨_, hv1, rfl⟩
        · cases hi
      · rw [if_neg e1, List.getElem?_replicate] at hi
        split at hi
        · cases hi; exact absurd rfl hn
        · cases hi
  have hl1 : i0 < ss.length := (List.getElem?_eq_some_iff.mp h0).1
  have hl4 : i2 < ss.length := (List.getElem?_eq_some_iff.mp h2).1
  have hHt : upd H a (.frz od (.dK kvi)) t = some (.frz od0 (.dK kvo)) := by rw [upd_ne nta]; exact o.ex _ _ hB
  refine lc_at (es := l.map fun p => D.int p.1) (cs1 := []) okv (fun Rr qq => ⟨.ref t, hv1, .str n, hv4, t, .ref a, rfl, .inl ⟨kvo, .inr n, .inr ⟨od0, hHt⟩, rfl, hval.symm⟩, a, od, rfl, .inl ⟨kvi, upd_same, qq _ _ _ (Stp.refl _ _ _) okv wk⟩⟩)
    (fun i => match l[i]? with | some p => encP (n, p.2) | none => .non) (by rw [List.length_map]; omega) (fun p i d hp hd => ?_) (fun p ws B2 H2 hp s2 o2 hv2 hb2 r2 => ?_)
  · obtain ⟨x, hx, rfl⟩ := map_get hd
    have hxl : x ∈ l := List.mem_of_getElem? hx
    refine ⟨_, [i3], g_name (i := i3), by simp, fun acc B' H' σ' eB' o' Q' q' => ?_⟩
    have g1 : ((wipeS S [i3]).set i3 (.dat (.int x.1)))[i0]? = some (.val (.ref t)) := by
      simp [S, wipeS, List.getElem?_set, n02, n03, Ne.symm n02, Ne.symm n03, hl1]
    have g4 : ((wipeS S [i3]).set i3 (.dat (.int x.1)))[i2]? = some (.val (.str n)) := by
      simp [S, wipeS, List.getElem?_set, n23, Ne.symm n23, hl4]
    have g7 : ((wipeS S [i3]).set i3 (.dat (.int x.1)))[i3]? = some (.dat (.int x.1)) := by
      simp [S, wipeS, List.getElem?_set, hl3]
    obtain ⟨w1, hw1, ew1⟩ := o'.sl.get i0 _ g1 (by intro z; cases z)
    cases (show w1 = .ref t from ew1)
    obtain ⟨w4, hw4, ew4⟩ := o'.sl.get i2 _ g4 (by intro z; cases z)
    cases (show w4 = .str n from ew4)
    obtain ⟨w7, hw7, ew7⟩ := o'.sl.get i3 _ g7 (by intro z; cases z)
    cases (show Rp K B' w7 (.int x.1) from ew7)
    have hvd : valD (inKs l) (.inl x.1) = some (rowD x.2) := by rw [valD_inE, look_of nd hxl]; rfl
    obtain ⟨vr, hvr, rvr⟩ := rkf.val hvd
    have hBt : upd B a (.frz od (.dK kvi)) t = some (.frz od0 (.dK kvo)) := by rw [upd_ne nta]; exact hB
    refine ⟨.str n, hw4, .ref t, hw1, .str n, hw4, t, .ref a, rfl, .inl ⟨kvo, .inr n, .inr ⟨od0, o'.ex _ _ (eB' _ _ hBt)⟩, rfl, hval.symm⟩, .int x.1, hw7, a, vr, rfl, .inl ⟨kvi, .inl x.1, .inr ⟨od, o'.ex _ _ (eB' _ _ upd_same)⟩, rfl, hvr.symm⟩, le_line (by simp), fun u hu => ?_⟩
    have s := stp_new (o := .tup [.str n, vr]) o'.ex hu
    have ed : (match l[i]? with | some p => encP (n, p.2) | none => .non) = encP (n, x.2) := by rw [hx]
    refine q' _ _ _ s.ofNil (o'.step0 s o'.ex.updB) ?_
    rw [ed]
    exact Rp.tup (.inl upd_same) (.cons (.str n) (.cons ((rvr.mono eB').mono s.ex) .nil))
  · have el : (List.range (l.map fun p => D.int p.1).length).map (fun i => match l[i]? with | some p => encP (n, p.2) | none => .non) = (l.map fun p => (n, p.2)).map encP := by
      rw [List.length_map, List.map_map]
      apply List.ext_getElem?
      intro j
      rw [List.getElem?_map, List.getElem?_map]
      by_cases hj : j < l.length
      · rw [List.getElem?_range hj, List.getElem?_eq_getElem hj]
        simp [hj]
      · have h1 : (List.range l.length)[j]? = none := List.getElem?_eq_none (by simp; omega)
        have h2 : l[j]? = none := List.getElem?_eq_none (by omega)
        rw [h1, h2]; rfl
    rw [el] at r2
    have eB : Ex B2 (upd B2 p (.lst ws)) := Ex.new hb2
    have s3 : Stp [] (upd B a (.frz od (.dK kvi))) (upd H a (.frz od (.dK kvi))) (upd B2 p (.lst ws)) H2 := ⟨s2.ex.trans eB, s2.fr, fun b u e => by
      rw [upd_ne (ne_of_none e hp)]
      exact s2.nb b u e, s2.dm⟩
    have e3 : Ex (upd B2 p (.lst ws)) H2 := fun b u e => by
      by_cases hb : b = p
      · subst hb; rw [upd_same] at e; cases e; exact hv2
      · rw [upd_ne hb] at e; exact o2.ex b u e
    obtain ⟨hf, hb, st, eB'⟩ := lock_stp (Stp.refl [] B H) ha5 o.ex (by simp) s3
    exact ⟨hf, q _ _ _ st ⟨ex_un e3, o.sl.mono eB', True.intro⟩ (rp_un hb (Rp.lst upd_same (r2.mono eB)))⟩
end SP
namespace T3
open PySem L2 DV PM SP LK NV
section
variable {P : Program} {w : World} {K : PySem.W.Frag} {mg : Str → Option Value} {base : Heap}
end
end T3
/-! FK: a base's fork: many dicts locked at once, two walks in one comprehension. -/
namespace SP
open PySem L2 DV PM LK NV QD
variable {K : PySem.W.Frag}
def lockN : Nat → TE → TE
  | 0, te => te
  | n + 1, te => tLockE (lockN n te)
theorem pe_lockN {X : Cx} {e : Expr} {te : TE} (h : PE X e te) : ∀ n, PE X e (lockN n te)
  | 0 => h
  | n + 1 => pe_lock (pe_lockN h n)
def dd : List Addr → List Addr
  | [] => []
  | a :: l => if a ∈ dd l then dd l else a :: dd l
theorem dd_mem {x : Addr} : ∀ {l : List Addr}, x ∈ dd l ↔ x ∈ l
  | [] => Iff.rfl
  | a :: l => by
    unfold dd
    split
    · rename_i h
      rw [dd_mem, List.mem_cons]
      constructor
      · exact .inr
      · rintro (rfl | h2)
        · exact dd_mem.mp h
        · exact h2
    · rw [List.mem_cons, List.mem_cons, dd_mem]
theorem dd_nd : ∀ l : List Addr, (dd l).Nodup
  | [] => .nil
  | a :: l => by
    unfold dd
    split
    · exact dd_nd l
    · rename_i h
      exact List.nodup_cons.mpr ⟨h, dd_nd l⟩
/-- all dicts at A are locked -/
theorem lockN_go {te : TE} {σ : L2.St} {d : D} : ∀ {A : List Addr} {B H : Hp} {Q : VK}, A.Nodup → Ex B H → (∀ a ∈ A, ∃ kvs, B a = some (.dK kvs)) →
    (∀ B' H', Ex B' H' → (∀ a ∈ A, ∀ kvs, B a = some (.dK kvs) → ∃ od, B' a = some (.frz od (.dK kvs))) → (∀ b, b ∉ A → B' b = B b) → (∀ b, b ∉ A → H' b = H b) → (∀ {v d}, Rp K B v d → ndL d = true → Rp K B' v d) → ∀ Q' : VK, (∀ v B2 H2, Stp [] B' H' B2 H2 → Ex B2 H2 → Rp K B2 v d → Q' v H2) → te σ H' Q') →
    (∀ v B2 H2, Stp [] B H B2 H2 → Ex B2 H2 → Rp K B2 v d → Q v H2) → lockN A.length te σ H Q
  | [], B, H, Q, _, e, _, k, q => k B H e (fun a h => by cases h) (fun _ _ => rfl) (fun _ _ => rfl) (fun r _ => r) Q q
  | a :: A, B, H, Q, nd, e, hA, k, q => by
    obtain ⟨na, nd'⟩ := List.nodup_cons.mp nd
    obtain ⟨kvs, ha⟩ := hA a List.mem_cons_self
    refine lock_of (e _ _ ha) True.intro fun od => ?_
    have ne : ∀ b ∈ A, b ≠ a := fun b hb z => na (z ▸ hb)
    refine lockN_go (B := upd B a (.frz od (.dK kvs))) (d := d) nd' (Ex.updB e) (fun b hb => ?_) (fun B' H' e' l1 l2 l3 l4 Q' q' => ?_) (fun v B2 H2 s2 e2 r2 => ?_)
    · obtain ⟨kvs', hb'⟩ := hA b (List.mem_cons_of_mem _ hb)
      exact ⟨kvs', by rw [upd_ne (ne b hb)]; exact hb'⟩
    · refine k B' H' e' (fun b hb kvs' hb' => ?_) (fun b hb => ?_) (fun b hb => ?_) (fun r hn => l4 ((rp_hide ha r hn).mono off_upd) hn) Q' q'
      · rcases List.mem_cons.mp hb with rfl | hb
        · rw [ha] at hb'
          cases hb'
          exact ⟨od, by rw [l2 b na]; exact upd_same⟩
        · exact l1 b hb kvs' (by rw [upd_ne (ne b hb)]; exact hb')
      · rw [l2 b (fun z => hb (List.mem_cons_of_mem _ z)), upd_ne (fun (z : b = a) => hb (by rw [z]; exact List.mem_cons_self))]
      · rw [l3 b (fun z => hb (List.mem_cons_of_mem _ z)), upd_ne (fun (z : b = a) => hb (by rw [z]; exact List.mem_cons_self))]
    · obtain ⟨hf, hb, st, eB⟩ := lock_stp (Stp.refl [] B H) ha e (by simp) s2
      exact ⟨hf, q v _ _ st (ex_un e2) (rp_un hb r2)⟩
theorem wk_tup {B1 : Hp} {a : Addr} {xs : List V} {ds : List D} (h5 : Rd B1 a (.tup xs)) (r : RpA K B1 xs ds) : Walks K B1 (Itt K a) ds := fun i B2 H2 e1 e2 => by
  have z : SqT K H2 a xs := .inl (RdEx e2 (RdEx e1 h5))
  refine ⟨fun d hd => ?_, fun hl => ⟨xs, z, by rw [r.length]; exact hl⟩⟩
  obtain ⟨v, h1, h2⟩ := r.get hd
  refine ⟨⟨xs, v, z, h1⟩, fun x H' y => ?_⟩
  obtain ⟨rfl, f⟩ := y
  have e := f xs z
  rw [h1] at e
  cases e
  exact ⟨B2, Stp.refl _ _ _, e2, h2.mono e1⟩
/-- a base: its object alone may change -/
structure BObj (K : PySem.W.Frag) (B H : Hp) (p dx : Addr) (CB C : Addr) (v0 vt : V) (T : List Tab) (R : Rs) : Prop where
  obj : H p = some (.ins CB dx [("schema", v0), ("_tables", vt)])
  nop : B p = none
  sch : Rp K B v0 (schD C T)
  tab : Rp K B vt (tabD R)
theorem BObj.step {P : List Addr} {B H B' H' : Hp} {p dx CB C : Addr} {v0 vt : V} {T : List Tab} {R : Rs} (h : BObj K B H p dx CB C v0 vt T R) (s : Stp P B H B' H') (hP : p ∉ P) : BObj K B' H' p dx CB C v0 vt T R where
  obj := s.fr _ _ hP h.obj
  nop := by rw [s.nb _ _ h.obj]; exact h.nop
  sch := h.sch.mono s.ex
  tab := h.tab.mono s.ex
/-- a new base's tables are told -/
theorem BaseAt.publ {PS : List Addr} {B0 H0 B H : Hp} {p dx t : Addr} {as : List Addr} {CB C : Addr} {v0 : V} {T : List Tab} {R : Rs} (x : BaseAt K B H p dx t as CB C v0 T R) (s : Stp PS B0 H0 B H) (e : Ex B H) (ft : ∀ a ∈ t :: as, H0 a = none) (hPS : ∀ q ∈ PS, q ∈ as) :
    ∃ B', Stp [] B0 H0 B' H ∧ Ex B' H ∧ Ex B B' ∧ BObj K B' H p dx CB C v0 (.ref t) T R := by
  have hh := held_of (B := B) (H := H) x.tabs.no
  have e1 := RG.pub_ex hh.no
  refine ⟨RG.pub B (cellsOf H (t :: as)), ⟨s.ex.trans e1, fun b u _ e => ?_, fun b u e => ?_, s.dm⟩, RG.pub_in e hh, e1, ⟨x.obj, ?_, x.sch.mono e1, x.tabs.pub (fun _ z => z) x.tabs.no⟩⟩
  · by_cases hb : b ∈ PS
    · have h1 := ft b (List.mem_cons_of_mem _ (hPS b hb))
      rw [h1] at e; cases e
    · exact s.fr b u hb e
  · rw [RG.pub_ne fun q hq z => by
      have h1 := ft _ (cells_mem.mp hq).1
      rw [z, e] at h1; cases h1]
    exact s.nb b u e
  · rw [RG.pub_ne fun q hq z => x.out (by rw [← z]; exact (cells_mem.mp hq).1)]
    exact x.nop
/-! a base filled with its own pairs -/
theorem putL_new {l : List (Int × Row)} {i : Int} {r : Row} (h : i ∉ l.map (·.1)) : putL l i r = l ++ [(i, r)] := by
  unfold putL
  rw [if_neg]
  intro z
  obtain ⟨p, hp, e⟩ := List.any_eq_true.mp z
  exact h (List.mem_map.mpr ⟨p, hp, of_decide_eq_true e⟩)
theorem setT_mid {pre post : Rs} {n : Str} {l : List (Int × Row)} {f : List (Int × Row) → List (Int × Row)} (h1 : n ∉ pre.map (·.1)) (h2 : n ∉ post.map (·.1)) : setT (pre ++ (n, l) :: post) n f = pre ++ (n, f l) :: post := by
  unfold setT
  rw [List.map_append, List.map_cons, if_pos rfl]
  have e : ∀ X : Rs, n ∉ X.map (·.1) → X.map (fun t => if t.1 = n then (t.1, f t.2) else t) = X := fun X h => by
    have : X.map (fun t => if t.1 = n then (t.1, f t.2) else t) = X.map id := List.map_congr_left fun t ht => if_neg fun z => h (List.mem_map.mpr ⟨t, ht, z⟩)
    rw [this, List.map_id]
  rw [e pre h1, e post h2]
theorem fill_one {pre post : Rs} {n : Str} (h1 : n ∉ pre.map (·.1)) (h2 : n ∉ post.map (·.1)) : ∀ (l l0 : List (Int × Row)), ((l0 ++ l).map (·.1)).Nodup → (∀ p ∈ l, p.2.headD 0 = p.1) →
    (l.map fun p => (n, p.2)).foldl (fun R q => stepCh R (.ins q.1 q.2)) (pre ++ (n, l0) :: post) = pre ++ (n, l0 ++ l) :: post
  | [], l0, _, _ => by simp
  | p :: l, l0, nd, hh => by
    rw [List.map_cons, List.foldl_cons]
    have hp := hh p List.mem_cons_self
    have hn : p.1 ∉ l0.map (·.1) := fun z => by
      rw [List.map_append] at nd
      exact (List.nodup_append.mp nd).2.2 _ z p.1 (by simp) rfl
    have e : stepCh (pre ++ (n, l0) :: post) (.ins n p.2) = pre ++ (n, l0 ++ [p]) :: post := by
      show setT _ n (fun l => putL l (p.2.headD 0) p.2) = _
      rw [setT_mid h1 h2, hp, putL_new hn]
    rw [show stepCh (pre ++ (n, l0) :: post) (.ins (n, p.2).1 (n, p.2).2) = _ from e, fill_one h1 h2 l (l0 ++ [p]) (by rw [List.append_assoc]; exact nd) fun q hq => hh q (List.mem_cons_of_mem _ hq), List.append_assoc]
    rfl
theorem fill_from : ∀ (R pre : Rs), ((pre ++ R).map (·.1)).Nodup → (∀ t ∈ R, (t.2.map (·.1)).Nodup ∧ ∀ p ∈ t.2, p.2.headD 0 = p.1) →
    (pairsOf R).foldl (fun R q => stepCh R (.ins q.1 q.2)) (pre ++ R.map fun t => (t.1, [])) = pre ++ R
  | [], pre, _, _ => by simp [pairsOf]
  | t :: R, pre, nd, h => by
    have e1 : pairsOf (t :: R) = (t.2.map fun p => (t.1, p.2)) ++ pairsOf R := by unfold pairsOf; rw [List.flatMap_cons]
    rw [e1, List.foldl_append, List.map_cons]
    rw [List.map_append, List.map_cons] at nd
    have h1 : t.1 ∉ pre.map (·.1) := fun z => (List.nodup_append.mp nd).2.2 _ z t.1 (by simp) rfl
    have h2 : t.1 ∉ R.map (·.1) := (List.nodup_cons.mp (List.nodup_append.mp nd).2.1).1
    have h2' : t.1 ∉ (R.map fun t => (t.1, ([] : List (Int × Row)))).map (·.1) := by rw [List.map_map]; exact h2
    obtain ⟨a, b⟩ := h t List.mem_cons_self
    rw [fill_one h1 h2' t.2 [] (by simpa using a) b, List.nil_append]
    have e2 : ∀ X : Rs, pre ++ (t.1, t.2) :: X = (pre ++ [t]) ++ X := fun X => by simp
    rw [e2, fill_from R (pre ++ [t]) (by rw [List.append_assoc, List.map_append]; simpa using nd) fun x hx => h x (List.mem_cons_of_mem _ hx)]
    simp
theorem fill_pairs {T : List Tab} {R : Rs} (hT : schOk T) (ok : rowsOk T R) : fillF T (pairsOf R) = R := by
  have e : emptyF T = R.map fun t => (t.1, []) := by
    unfold emptyF
    have : ∀ (T : List Tab) (R : Rs), R.map (·.1) = T.map (·.1) → (T.map fun t => (t.1, ([] : List (Int × Row)))) = R.map fun t => (t.1, []) := by
      intro T
      induction T with
      | nil => intro R h; cases R with | nil => rfl | cons _ _ => cases h
      | cons t T ih => intro R h; cases R with
        | nil => cases h
        | cons r R =>
          rw [List.map_cons, List.map_cons] at h
          injection h with h1 h2
          rw [List.map_cons, List.map_cons, ih R h2, h1]
    exact this T R ok.1
  unfold fillF
  rw [e]
  have := fill_from R [] (by rw [List.nil_append, ok.1]; exact hT.2) fun t ht => ⟨(ok.2.1 t ht).1, fun p hp => by
    have := (ok.2.2 t ht p hp).1
    cases h : p.2 with
    | nil => rw [h] at this; cases this
    | cons a r => rw [h] at this; have e : a = p.1 := by simpa using this
                  rw [← e]; rfl⟩
  simpa using this
def spFork (K : PySem.W.Frag) (CB C : Addr) : Sp := fun vs H Q _ => ∃ B s dx0 v0 vt T R, vs = [.ref s] ∧ Ex B H ∧ BObj K B H s dx0 CB C v0 vt T R ∧ schOk T ∧ rowsOk T R ∧ (pairsOf R).length ≤ 900 ∧
  ∀ p dx t as B' H', Stp [] B H B' H' → Ex B' H' → BaseAt K B' H' p dx t as CB C v0 T R → (∀ a ∈ p :: t :: as, H a = none) → Q (.ref p) H'
theorem sch_open {B : Hp} {v : V} {C : Addr} {T : List Tab} (h : Rp K B v (schD C T)) : ∃ z dz fvs vn, v = .ref z ∧ B z = some (.ins C dz fvs) ∧ fvs.lookup ("tables" : Str) = some vn ∧ Rp K B vn (.nt (T.map fun t => D.str t.1)) := by
  unfold schD at h
  cases h with
  | @obj z _ dz fvs _ h5 rf =>
    obtain ⟨vn, h1, h2⟩ := rf.lookup (f := "tables") (d := .nt (T.map fun t => D.str t.1)) rfl
    exact ⟨z, dz, fvs, vn, rfl, h5, h1, h2⟩
/-- the dicts of the tables' rows -/
theorem inner_addrs {B : Hp} : ∀ {vs : List (Key × V)} {R : Rs}, RpK K B vs (tabKs R) → ∃ A : List Addr, (∀ a ∈ A, ∃ kvs, B a = some (.dK kvs)) ∧ ∀ n l, R.lookup n = some l → ∃ a kvi, a ∈ A ∧ valV vs (.inr n) = some (.ref a) ∧ B a = some (.dK kvi) ∧ RpK K B kvi (inKs l)
  | _, [], _ => ⟨[], fun a h => (by cases h), fun n l h => (by cases h)⟩
  | _, r :: R, h => by
    have h : RpK K B _ (((Sum.inr r.1 : Key), inD r.2) :: tabKs R) := h
    cases h with
    | @cons _ v _ vs _ hv hr =>
      obtain ⟨a, kvi, rfl, ha, rk⟩ := in_open hv
      obtain ⟨A, hA, hl⟩ := inner_addrs hr
      refine ⟨a :: A, fun b hb => ?_, fun n l hn => ?_⟩
      · rcases List.mem_cons.mp hb with rfl | hb
        · exact ⟨_, ha⟩
        · exact hA b hb
      · by_cases e : n = r.1
        · subst e
          have : r.2 = l := by
            obtain ⟨x, y⟩ := r
            simpa [List.lookup] using hn
          subst this
          exact ⟨a, kvi, List.mem_cons_self, by simp [valV], ha, rk⟩
        · have e' : (n == r.1) = false := by simpa using e
          obtain ⟨x, y⟩ := r
          have hn' : R.lookup n = some l := by simpa only [List.lookup, e'] using hn
          obtain ⟨b, kb, hb, h1, h2, h3⟩ := hl n l hn'
          refine ⟨b, kb, List.mem_cons_of_mem _ hb, ?_, h2, h3⟩
          have ne : ¬ (Sum.inr x : Key) = Sum.inr n := fun z => e (Sum.inr.inj z).symm
          unfold valV at h1 ⊢
          rw [List.find?_cons]
          simp only [ne, decide_false]
          exact h1
end SP
namespace T3
open PySem L2 DV PM SP LK NV
abbrev s_Base_fork : Stmt := inClass (topS 5) 4
abbrev N_Base_fork : List Str := ["self", "table", "row"]
theorem sc_Base_fork : FnScope N_Base_fork ["self"] (defScope s_Base_fork) := ⟨rfl, rfl, rfl, by decide +kernel, rfl, by decide +kernel, by decide +kernel⟩

section
variable {P : Program} {w : World} {K : PySem.W.Frag} {mg : Str → Option Value} {base : Heap} {C CB : Addr}
theorem ok_bfork {f fI : Addr} {fd fdI : FuncData} (F : Fun K "fork" "Base.fork" s_Base_fork f fd) (c : BaseCls K CB) (cs : SchCls K C) (g_Base : mg "Base" = some (.ref CB)) (M_made : Mk K CB fI) (G_init : FnOk P w K mg base CX0 1 fI fdI ["self", "schema", "rows"] (spBInit K CB C)) (B_init : Binds K fdI ["self", "schema", "rows"] []) :
    FnOk P w K mg base CX0 3 f fd ["self"] (spFork K CB C) := by
  refine F.ok sc_Base_fork (fun vs H Q E h => ?_) (fun cdv A outer s H vs Q E hr h => ?_)
  · obtain ⟨B, s, dx0, v0, vt, T, R, rfl, _⟩ := h
    rfl
  have nd := sc_Base_fork.nd
  obtain ⟨B, s, dx0, v0, vt, T, R, rfl, e0, bo, hT, hR, hz, q⟩ := h
  obtain ⟨t0, kvo, rfl, ht0, rk⟩ := tab_open bo.tab
  obtain ⟨A0, hA0, hin⟩ := inner_addrs rk
  refine ⟨_, pss_one (ps_ret (pe_make M_made G_init hr (by rfl) g_Base B_init .nil pass0 (pa_cons (pe_fld (pv 0) rfl) (pa_cons (pe_lockN (pe_lc2 (own := [("table", 1), ("row", 2)]) (vs1 := [2]) (g := gName 1) (tt := tYes) (wi1 := iVals (tDGet (tFld K (tVar 0) "_tables") (tVar 1))) (g1 := gName 2) (tt1 := tYes) (te := tTup (tCons (tVar 1) (tCons (tVar 2) tNil))) rfl nd (pi_tup (pe_fld (pe_fld (pv 0) rfl) rfl)) (blkOk_by (N := N_Base_fork) (sc := defScope s_Base_fork) (by decide +kernel)) (by decide)
    (by intro _ _ _ _ _; exact (pg_name (i := 1) nd (by rfl) (by first | exact .inl rfl | exact .inr rfl))) (by intro _ _ _ _ _; exact pts_nil) (by intro _ _ _ _ _; exact (pi_values (pe_dget (hu_of hr) (pe_fld (pv 0) rfl) (pv 1) (fun _ _ => rfl)))) (by intro _ _ _ _ _; exact (pg_name (i := 2) nd (by rfl) (by first | exact .inl rfl | exact .inr rfl))) (by intro _ _ _ _ _; exact pts_nil) (by intro _ _ _ _ _; exact (pe_tup (pa_cons (pv 1) (pa_cons (pv 2) pa_nil))))) (dd A0).length) pa_nil)))), ?_⟩
  have h0 : (L2.start N_Base_fork [V.ref s])[0]? = some (some (.ref s)) := rfl
  have hlen : (L2.start N_Base_fork [V.ref s]).length = 3 := rfl
  generalize L2.start N_Base_fork [V.ref s] = σ0 at h0 hlen ⊢
  obtain ⟨z, dz, fvs, vn, rfl, hz5, hlk, rvn⟩ := sch_open bo.sch
  have hA : ∀ a ∈ dd A0, ∃ kvs, B a = some (.dK kvs) := fun a ha => hA0 a (dd_mem.mp ha)
  refine ⟨.ref s, h0, s, CB, dx0, _, .ref z, rfl, bo.obj, c.cl, c.n1, rfl, ?_⟩
  refine lockN_go (K := K) (d := .lst ((pairsOf R).map encP)) (dd_nd A0) e0 hA (fun B' H' e' l1 l2 l3 l4 Q' q' => ?_) (fun v B2 H2 s2 e2 r2 => ?_)
  · have ns : s ∉ dd A0 := fun x => by obtain ⟨kvs, hk⟩ := hA s x; rw [bo.nop] at hk; cases hk
    have nz : z ∉ dd A0 := fun x => by obtain ⟨kvs, hk⟩ := hA z x; rw [hz5] at hk; cases hk
    have hs' : H' s = some (.ins CB dx0 [("schema", .ref z), ("_tables", .ref t0)]) := by rw [l3 s ns]; exact bo.obj
    have hz' : H' z = some (.ins C dz fvs) := by rw [l3 z nz]; exact e0 _ _ hz5
    have rvn' := l4 rvn (by
      show ndLA (T.map fun t => D.str t.1) = true
      have : ∀ T : List Tab, ndLA (T.map fun t => D.str t.1) = true := fun T => by
        induction T with
        | nil => rfl
        | cons t T ih => exact ih
      exact this T)
    have hRd : Rd B' t0 (.dK kvo) := by
      by_cases ht : t0 ∈ dd A0
      · obtain ⟨od, h⟩ := l1 t0 ht kvo ht0
        exact .inr ⟨od, h⟩
      · exact .inl (by rw [l2 t0 ht]; exact ht0)
    cases rvn' with
    | @nt a o xs _ ha ho ra =>
    have wk := wk_tup (.inr ⟨o, ha⟩) ra
    have eT : (T.map fun t => D.str t.1) = R.map fun t => D.str t.1 := by
      have h := congrArg (List.map D.str) hR.1
      rw [List.map_map, List.map_map] at h
      exact h.symm
    rw [eT] at wk
    refine ⟨.ref s, h0, s, CB, dx0, _, .ref z, rfl, hs', c.cl, c.n1, rfl, z, C, dz, fvs, .ref a, rfl, hz', cs.cl, cs.n1, hlk, a, rfl, ⟨xs, .inl (RdEx e' (.inr ⟨o, ha⟩))⟩, fun Dp hDp => ?_⟩
    simp only [List.map_cons, List.map_nil]
    have ndR : (R.map (·.1)).Nodup := by rw [hR.1]; exact hT.2
    have hB' : B' Dp = none := e'.free hDp
    have hpl : ∀ i, (pairsOf (R.take i)).length ≤ (pairsOf R).length := fun i => by
      have : pairsOf R = pairsOf (R.take i) ++ pairsOf (R.drop i) := by
        unfold pairsOf
        rw [← List.flatMap_append, List.take_append_drop]
      rw [this, List.length_append]
      omega
    let I : Nat → Hp → Prop := fun i H3 => ∃ B3 ws, Stp [] B' H' B3 H3 ∧ Ex B3 H3 ∧ H3 Dp = some (.lst ws) ∧ B3 Dp = none ∧ RpA K B3 ws ((pairsOf (R.take i)).map encP)
    refine ⟨fun i m H3 => m = R.length - i ∧ i ≤ R.length ∧ I i H3, ⟨R.length, by simp, Nat.zero_le _, B', [], stp_cell hDp, ex_cell e' hDp, upd_same, hB', .nil⟩, ?_⟩
    rintro i m H3 ⟨rfl, hi, B3, ws, s3, e3, hd3, hb3, r3⟩
    obtain ⟨w1, w2⟩ := wk i B3 H3 s3.ex e3
    by_cases hlt : i < R.length
    · have hx : R[i]? = some R[i] := List.getElem?_eq_getElem hlt
      generalize R[i] = x at hx
      have hxR := List.mem_of_getElem? hx
      have hlook : R.lookup x.1 = some x.2 := look_ofT ndR hxR
      obtain ⟨go, yl⟩ := w1 (.str x.1) (by rw [List.getElem?_map, hx]; rfl)
      have hp1 : pairsOf (R.take (i + 1)) = pairsOf (R.take i) ++ x.2.map fun (p : Int × Row) => (x.1, p.2) := by
        unfold pairsOf
        rw [List.take_add_one, hx, List.flatMap_append]
        simp
      refine .inr ⟨go, I (i + 1), fun H4 q => ⟨R.length - (i + 1), by omega, rfl, hlt, q⟩, fun y H4 hy => ?_⟩
      obtain ⟨B4, s4, e4, x4⟩ := yl y H4 hy
      cases (show Rp K B4 y (.str x.1) from x4)
      have s04 := s3.trans s4
      have g0 : (wipe σ0 [1, 2])[0]? = some (some (.ref s)) := by rw [wipe_get]; simpa using h0
      refine ⟨(Only.set (wipe σ0 [1, 2]) 1 _).wipe (fun k hk => by rw [List.mem_singleton.mp hk]; simp), ?_⟩
      unfold tYes
      dsimp only []
      rw [if_pos rfl]
      have hl1 : 1 < σ0.length := by rw [hlen]; decide
      have g0' : ((wipe σ0 [1, 2]).set 1 (some (.str x.1)))[0]? = some (some (.ref s)) := by rw [List.getElem?_set, if_neg (by decide)]; exact g0
      have g1' : ((wipe σ0 [1, 2]).set 1 (some (.str x.1)))[1]? = some (some (.str x.1)) := by rw [List.getElem?_set, if_pos rfl, if_pos (by rw [wipe_length]; exact hl1)]
      have hl2 : 2 < ((wipe σ0 [1, 2]).set 1 (some (.str x.1))).length := by rw [List.length_set, wipe_length, hlen]; decide
      generalize (wipe σ0 [1, 2]).set 1 (some (.str x.1)) = σ2 at g0' g1' hl2 ⊢
      obtain ⟨a1, kvi, ha1, hv1, hb1, rk1⟩ := hin x.1 x.2 hlook
      obtain ⟨od, hf1⟩ := l1 a1 (dd_mem.mpr ha1) kvi hb1
      have hs4 : H4 s = some (.ins CB dx0 [("schema", .ref z), ("_tables", .ref t0)]) := s04.fr _ _ (by simp) hs'
      have hRd4 : Rd H4 t0 (.dK kvo) := RdEx (s04.ex.trans e4) hRd
      have hf4 : H4 a1 = some (.frz od (.dK kvi)) := e4 _ _ (s04.ex _ _ hf1)
      refine ⟨.ref s, g0', s, CB, dx0, _, .ref t0, rfl, hs4, c.cl, c.n2, rfl, .str x.1, g1', t0, .ref a1, rfl, .inl ⟨kvo, .inr x.1, hRd4, rfl, hv1.symm⟩, a1, od, kvi, rfl, hf4, ?_⟩
      have hkl : kvi.length = x.2.length := by rw [RpK.lenE rk1]; unfold inKs; rw [List.length_map]
      let I1 : Nat → Hp → Prop := fun j H5 => ∃ B5 ws, Stp [] B' H' B5 H5 ∧ Ex B5 H5 ∧ H5 Dp = some (.lst ws) ∧ B5 Dp = none ∧ RpA K B5 ws ((pairsOf (R.take i) ++ (x.2.take j).map fun (p : Int × Row) => (x.1, p.2)).map encP)
      have hd4 : H4 Dp = some (.lst ws) := s4.fr _ _ (by simp) hd3
      have hb4 : B4 Dp = none := by rw [s4.nb _ _ hd3]; exact hb3
      refine ⟨fun j k H5 => k = x.2.length - j ∧ j ≤ x.2.length ∧ I1 j H5, ⟨x.2.length, by simp, Nat.zero_le _, B4, ws, s04, e4, hd4, hb4, by simpa using r3.mono s4.ex⟩, ?_⟩
      rintro j k H5 ⟨rfl, hj, B5, ws5, s5, e5, hd5, hb5, r5⟩
      have hf5 : H5 a1 = some (.frz od (.dK kvi)) := e5 _ _ (s5.ex _ _ hf1)
      by_cases hjl : j < x.2.length
      · have hr : x.2[j]? = some x.2[j] := List.getElem?_eq_getElem hjl
        generalize x.2[j] = pr at hr
        refine .inr ⟨⟨hf5, by rw [hkl]; exact hjl⟩, I1 (j + 1), fun H6 q => ⟨x.2.length - (j + 1), by omega, rfl, hjl, q⟩, fun v H6 hy6 => ?_⟩
        obtain ⟨e6, kk, hkk⟩ := hy6
        rw [e6]
        obtain ⟨vr, hvr, rvr⟩ := RpK.get (k := (Sum.inl pr.1 : Key)) (d := rowD pr.2) (i := j) rk1 (by unfold inKs; rw [List.getElem?_map, hr]; rfl)
        rw [hkk] at hvr
        cases hvr
        have q0 : (wipe σ2 [2])[1]? = some (some (.str x.1)) := by rw [wipe_get]; simpa using g1'
        refine ⟨(Only.set (wipe σ2 [2]) 2 _).wipe (fun k hk => by rw [List.mem_singleton.mp hk]; simp), ?_⟩
        refine ⟨.str x.1, by rw [List.getElem?_set, if_neg (by decide)]; exact q0, v, by rw [List.getElem?_set, if_pos rfl, if_pos (by rw [wipe_length]; exact hl2)], le_line (by simp), fun p hp => ?_⟩
        have s6 := stp_new (o := .tup [.str x.1, v]) e5 hp
        have np : Dp ≠ p := fun z => by rw [← z, hd5] at hp; cases hp
        have hd6 : upd H5 p (.tup [.str x.1, v]) Dp = some (.lst ws5) := by rw [upd_ne np]; exact hd5
        have hb6 : upd B5 p (.tup [.str x.1, v]) Dp = none := by rw [upd_ne np]; exact hb5
        have s56 := s5.trans s6
        have rv6 : Rp K (upd B5 p (.tup [.str x.1, v])) v (rowD pr.2) := Rp.mono (s5.ex.trans s6.ex) (l4 rvr (ndL_row _))
        have hlen5 : ws5.length ≤ 900 := by
          have h1 := r5.length
          rw [List.length_map, List.length_append, List.length_map, List.length_take] at h1
          have h2 := hpl (i + 1)
          rw [hp1, List.length_append, List.length_map] at h2
          omega
        refine ⟨ws5, hd6, lt_line (by omega), upd B5 p (.tup [.str x.1, v]), ws5 ++ [.ref p], ⟨s56.ex, fun b u n e => ?_, s56.nb, fun b u e => ?_⟩, fun b u e => ?_, upd_same, hb6, ?_⟩
        · rw [upd_ne fun z => by rw [z, hDp] at e; cases e]
          exact s56.fr b u n e
        · rw [upd_ne fun z => by rw [z, hDp] at e; cases e]
          exact s56.dm b u e
        · rw [upd_ne fun z => by rw [z, hb6] at e; cases e]
          exact e5.updB b u e
        · have e7 : (pairsOf (R.take i) ++ (x.2.take (j + 1)).map fun (p : Int × Row) => (x.1, p.2)).map encP = (pairsOf (R.take i) ++ (x.2.take j).map fun (p : Int × Row) => (x.1, p.2)).map encP ++ [encP (x.1, pr.2)] := by
            rw [List.take_add_one, hr, List.map_append, List.map_append, List.map_append, List.map_append]
            simp
          rw [e7]
          exact (r5.mono s6.ex).append (.cons (Rp.tup (.inl upd_same) (.cons (.str x.1) (.cons rv6 .nil))) .nil)
      · have e : j = x.2.length := by omega
        subst e
        rw [List.take_length, ← hp1] at r5
        exact .inl ⟨⟨hf5, by rw [hkl]; exact Nat.le_refl _⟩, B5, ws5, s5, e5, hd5, hb5, r5⟩
    · have e : i = R.length := by omega
      subst e
      rw [List.take_length] at r3
      have eB : Ex B3 (upd B3 Dp (.lst ws)) := Ex.new hb3
      refine .inl ⟨w2 (by rw [List.length_map]; exact Nat.le_refl _), q' _ (upd B3 Dp (.lst ws)) H3 ⟨s3.ex.trans eB, s3.fr, fun b u e => ?_, s3.dm⟩ (fun b u e => ?_) (Rp.lst upd_same (r3.mono eB))⟩
      · rw [upd_ne (ne_of_none e hDp)]
        exact s3.nb b u e
      · by_cases hb : b = Dp
        · subst hb; rw [upd_same] at e; cases e; exact hd3
        · rw [upd_ne hb] at e; exact e3 b u e
  · have s2' := s2
    intro p dx hp hdx hne
    have bo2 := bo.step s2 (by simp)
    refine ⟨p, dx, T, .ref z, v, pairsOf R, B2, H2, rfl, rfl, hp, hdx, hne, e2, bo2.sch, .inl r2, hT, fun q hq => ?_, hz, fun t as B3 H3 s3 e3 ba fr => ⟨rfl, ?_⟩⟩
    · obtain ⟨t, ht, hq⟩ := List.mem_flatMap.mp hq
      obtain ⟨pr, hpr, rfl⟩ := List.mem_map.mp hq
      have htT : t.1 ∈ T.map (·.1) := by rw [← hR.1]; exact List.mem_map.mpr ⟨t, ht, rfl⟩
      obtain ⟨tab, htab, e1⟩ := List.mem_map.mp htT
      have hcols : T.lookup t.1 = some tab.2 := by rw [← e1]; exact lookup_nodup hT.2 htab
      exact chOk_ins hcols ((hR.2.2 t ht pr hpr).2 tab.2 hcols)
    · rw [fill_pairs hT hR] at ba
      refine q p dx t as B3 H3 (s2.trans s3) e3 ba fun a ha => ?_
      have h2 : H2 a = none := by
        rcases List.mem_cons.mp ha with rfl | ha
        · exact hp
        · exact fr a ha
      cases e : H a with
      | none => rfl
      | some u => obtain ⟨u', h'⟩ := s2.dm a u e; rw [h2] at h'; cases h'
end
end T3
namespace SP
open PySem L2 DV PM LK RG
variable {K : PySem.W.Frag}
theorem room2 {n : Nat} {A : Around} (h : Room (n + 2) A) : A.in1.in1.units + 64 < cLine := (h.in1.in1).units
/-- an instance of the class Base, for isinstance *-/
structure BaseIs (K : PySem.W.Frag) (C : Addr) : Prop where
  cl : Cls K C
  ha : PySem.W.findIn K (.ref C) "__class__" = some (some (.builtin "object.__class__"))
  hn : PySem.W.specialIn K (.builtin "object.__class__") "__get__" = some (some (.builtin "getset_descriptor.__get__"))
  htk : PySem.W.takesIn K (.builtin "object.__class__") = some true
  hm : PySem.W.mroIn K C (.type "object") = some true
  hk : PySem.W.kitOne K (.ref C) (.ref C) = some true
theorem cb_isB {C : Addr} {fs : List (Str × D)} (c : BaseIs K C) : CbD K (rIsi K) [.dat (.obj C fs), .val (.ref C)] (.dat (.bl true)) := fun B H vs e h Q q => by
  obtain ⟨v, v', rfl, h1, h2⟩ := rs2 h
  have a' : Rp K B v (.obj C fs) := h1
  cases a' with
  | @obj a _ dx fvs _ h5 rf => exact ⟨_, v', .ref C, .ref C, true, rfl, by rw [show v' = V.ref C from h2]; exact .own _, .base (.ins (e _ _ h5) c.cl c.ha c.hn c.htk c.hm), c.hk, q _ B H (Stp.refl _ _ _) e (.bl _)⟩
def preBEq (CB C : Addr) : Pre := fun rs Pl cs r cs' => ∃ T R U R', rs = [.dat (baseD CB C T R), .dat (baseD CB C U R')] ∧ tabsOk T ∧ tabsOk U ∧ (R.map (·.1)).Nodup ∧ (∀ t ∈ R, (t.2.map (·.1)).Nodup) ∧ Pl = [] ∧ cs = [] ∧ r = .dat (.bl (true && (decide (rowsOf T = rowsOf U) && eqTab R R'))) ∧ cs' = []
end SP
namespace T3
open PySem L2 DV PM SP LK
abbrev s_Base_eq_ : Stmt := inClass (topS 5) 1
abbrev N_Base_eq_ : List Str := ["self", "other"]
theorem sc_Base_eq_ : FnScope N_Base_eq_ ["self", "other"] (defScope s_Base_eq_) := ⟨rfl, rfl, rfl, by decide +kernel, rfl, by decide +kernel, by decide +kernel⟩

section
variable {P : Program} {w : World} {K : PySem.W.Frag} {mg : Str → Option Value} {base : Heap} {C CB : Addr}
theorem ok_beq {f fE : Addr} {fd fdE : FuncData} (F : Fun K "__eq__" "Base.__eq__" s_Base_eq_ f fd) (c : BaseCls K CB) (ci : BaseIs K CB) (g_Base : mg "Base" = some (.ref CB)) (b_isinstance : mg "isinstance" = none)
    (G_eq : FnOk P w K mg base CX0 1 fE fdE ["self", "other"] (spM K (preSEq C))) (B_eq : Binds K fdE ["self", "other"] []) (S_eq : PySem.W.findIn K (.ref C) "__eq__" = some (some (.ref fE))) (Fn_eq : PySem.W.isFn K (.ref fE) = true) :
    FnOk P w K mg base CX0 4 f fd ["self", "other"] (spM K (preBEq CB C)) := by
  refine ok_body F sc_Base_eq_ (fun rs Pl cs r cs' h => ?_) (fun X hX hr => ?_)
  · obtain ⟨T, R, U, R', rfl, _⟩ := h
    rfl
  obtain ⟨cdv, A, outer, s, H, E, rfl⟩ := hX
  have nd := sc_Base_eq_.nd
  refine ⟨_, (pss_one (ps_ret (pe_and (pe_callB call_isi (by rfl) b_isinstance (by decide +kernel) (pa_cons (pv 1) (pa_cons (pe_glob (v := .ref CB) rfl g_Base rfl) pa_nil))) (pe_and (pe_cmpR (OWN.op_eqOwn G_eq B_eq S_eq Fn_eq (hr.mono (by decide))) (pe_fld (pv 0) rfl) (pe_fld (pv 1) rfl) (nomark _)) (pe_one (pe_cmpR (QD.op_eqD2 (room2 hr)) (pe_fld (pv 0) rfl) (pe_fld (pv 1) rfl) (nomark _))))))), ?_⟩
  intro rs Pl cl r cs' hp B0 H0 σ Dn st hP hd hn
  obtain ⟨T, R, U, R', rfl, hT, hU, hnd, hni, rfl, rfl, rfl, rfl⟩ := hp
  refine st_ret st (ev_andV (ev_cb (ea_cons (ev_var (i := 1) (r := .dat (baseD CB C U R')) rfl) (ea_cons ev_val ea_nil)) (cb_isB ci)) (fun _ => ev_andV (ev_op (ev_fld (ev_var (i := 0) (r := .dat (baseD CB C T R)) rfl) c.cl c.n1 rfl) (ev_fld (ev_var (i := 1) (r := .dat (baseD CB C U R')) rfl) c.cl c.n1 rfl) (od_eqOwn (neg := false) hT hU)) (fun _ => ev_op (ev_fld (ev_var (i := 0) (r := .dat (baseD CB C T R)) rfl) c.cl c.n2 rfl) (ev_fld (ev_var (i := 1) (r := .dat (baseD CB C U R')) rfl) c.cl c.n2 rfl) (od_eqTab hnd hni)))) hd
end
end T3
/-! XT: NotAllowed(row), made, raised, read (from the guide's skeleton of an own error). -/
namespace PySem
namespace BadA
open PySem.W PySem.Calls PyProof.Rows PySem.HandSPX
/-! ### the text of __init__ -/
def iA (p1 p2 : Pos) : Arguments := { posonlyargs := [], args := [{ arg := "self", annotation := none, pos := p1 }, { arg := "index", annotation := none, pos := p2 }], vararg := none, kwonlyargs := [], kw_defaults := [], kwarg := none, defaults := [] }
def iB (q1 q2 q3 q4 : Pos) : List Stmt := [.Assign [.Attribute (.Name "self" q1) "index" q2] (.Name "index" q3) q4]
def iS : Scope := { kind := .function, names := [(PySem.Str.ofString "self", .local), (PySem.Str.ofString "index", .local)], isGenerator := false, isCoroutine := false, more := [] }
/-- what the written part says of Low, at C, and of its __init__, at fI -/
structure BadTxt (K : Frag) (mg : Str → Option Value) (C fI : Addr) : Prop where
  gC : mg "NotAllowed" = some (.ref C)
  cls : ∃ nm q N bs bm sn sub ab col dd k0 k1 k2 k3 k5, K.lookup C = some (excClassObj nm q C N bs bm true sn sub ab col dd k0 k1 k2 k3 k5 "ValueError.__new__") ∧ refsVE bm = true
  sa : findIn K (.ref C) "__setattr__" = some (some (.builtin "object.__setattr__"))
  ga : findIn K (.ref C) "__getattribute__" = some (some (.builtin "BaseException.__getattribute__"))
  gg : findIn K (.ref C) "__getattr__" = some none
  noN : findIn K (.ref C) "index" = some none
  iC : findIn K (.ref C) "__init__" = some (some (.ref fI))
  tC : typeIn K (.ref fI) = some (.type "function")
  kC : keepIn K (.ref C) = true
  exC : subIn K (.ref C) (.type "BaseException") = some true
  tyC : typeIn K (.ref C) = some (.type "type")
  hdC : hasDictIn K C = true
  te : exmOne K (.ref C) (.ref C) = some true
  fn : ∃ (oc : Value) (od : Option Addr) (doc pm : Value) (an : Option Addr) (cdv ct : Value) (osl : Array (Option Value)) (p1 p2 q1 q2 q3 q4 : Pos),
    K.lookup fI = some ⟨oc, od, .func (fnOf "__init__" "NotAllowed.__init__" (iA p1 p2) (iB q1 q2 q3 q4) iS .none .none doc pm an cdv ct), osl⟩ ∧ codeIn K cdv "NotAllowed.__init__" = true
theorem one_size (v : Value) : [v].length ≤ sizeLine := by
  rw [sizeLine_eq]
  exact (by decide : 1 ≤ 16777216)
theorem kept_but {K : Frag} {h h' : Heap} {x : Addr} (X : K.In h) (hx : K.lookup x = none) (k : ∀ b o, b ≠ x → h.get? b = some o → h'.get? b = some o) : K.In h' := fun a o e =>
  k a o (fun z => by rw [z, hx] at e; cases e) (X a o e)
theorem ldC {M : Model} {s : Shared} {name : Str} {scope : Scope} {L a : Addr} {cd : Value} {m : Str → Option Value} {x : Str} {pos : Pos} {v : Value} {Q : Value → Shared → Prop} {A : Around} {E : Value → Shared → Prop} (hn : s.heap.Ns L m) (hv : m x = some v) (h : Q v s)
    (hk : scope.kind = .function := by rfl) (hl : (envOfC name scope L a cd).kindOf x = some .local := by rfl) (hd : (x == ("__debug__" : Str)) = false := by decide) :
    wpAny M A (eval (.Name x pos) (envOfC name scope L a cd)) Q E s := wpAny_Name (wpAny_loadName_local hk hl hn hv h) hd
/-- what __init__ leaves of a fresh exception at x -/
structure InitEnd (h h' : Heap) (x C dx t1 : Addr) (v : Value) : Prop where
  keep : ∀ b o, b ≠ x → h.get? b = some o → h'.get? b = some o
  obj : h'.get? x = some { cls := .ref C, dict := some dx, data := .fields #[.ref t1, .none, .none, .none, .bool false, .none] }
  dbig : h.objs.size ≤ dx
  dne : dx ≠ x
  ns : h'.Ns1 dx (fun y => if y = "index" then some v else none)
/-- a made Low -/
structure OwnMade (h h' : Heap) (e C d : Addr) (v : Value) : Prop where
  keep : ∀ b o, h.get? b = some o → h'.get? b = some o
  new : h.objs.size ≤ e
  obj : ∃ oe vs, h'.get? e = some oe ∧ oe.cls = .ref C ∧ oe.dict = some d ∧ oe.data = .fields vs ∧ vs[1]? = some .none
  dbig : h.objs.size ≤ d
  dne : d ≠ e
  ns : h'.Ns1 d (fun y => if y = "index" then some v else none)
section
variable {prog : Program} {w : World} {A : Around} {E : Value → Shared → Prop} {R : Result → Shared → Prop} {s : Shared} {K : Frag} {mg : Str → Option Value} {C fI : Addr}
theorem bad_init (T : BadTxt K mg C fI) {x t0 : Addr} {v : Value} (X : K.In s.heap) (hlim : s.heap.NoLimit) (hx : s.heap.get? x = some (excO C t0)) (hnx : K.lookup x = none) (hroom : A.depth < recursionLimit)
    (hq : ∀ h' tk dx, InitEnd s.heap h' x C dx t0 v → R (.ok (.ret .none)) { s with heap := h', toks := tk }) :
    codeAny (model prog w) A (.call (.ref fI) ⟨[.ref x, v], []⟩) R s := by
  obtain ⟨oc, od, doc, pm, an, cdv, ct, osl, p1, p2, q1, q2, q3, q4, ho, hcd⟩ := T.fn
  obtain ⟨nm, q, N, bs, bm, sn, sub, ab, col, dd, k0, k1, k2, k3, k5, hC, hbm⟩ := T.cls
  have hcl : clsIn K C = some { name := nm, bases := bs, mro := .ref C :: bm, ns := N, qualname := q, hasDict := true, slotNames := sn, subclasses := sub, abstract := ab, collection := col, hasDel := false } := by unfold clsIn; rw [hC] <;> rfl
  refine Att.call_fn (binds := [("self", .ref x), ("index", v)]) X hlim ho hcd hroom (BindsTo.of_eq (by first | rfl | with_unfolding_all rfl)) (by first | rfl | decide | with_unfolding_all rfl) (fun s₁ IC => ?_) rfl rfl rfl
  obtain ⟨h₁, tk₁, rfl⟩ := IC.toInCall.same
  have k : ∀ b o, s.heap.get? b = some o → h₁.get? b = some o := IC.toInCall.keep
  have hn := IC.toInCall.ns
  have hxL : s.heap.objs.size ≠ x := Nat.ne_of_gt (Heap.lt_size hx)
  have X₁ : K.In h₁ := X.keeps k
  have hx₁ := k _ _ hx
  -- self.by = by
  show wpAny _ _ (execs _ _) _ _ _
  refine wpAny_execs_cons (plainObj_wpAny_Assign_Attribute ?_)
  refine ldC (v := v) hn (by first | rfl | with_unfolding_all rfl | kernel_rfl) (ldC (v := .ref x) hn (by first | rfl | with_unfolding_all rfl | kernel_rfl) ?_)
  refine set_plain X₁ (ox := excO C t0) (od := none) ⟨hx₁, rfl, rfl, trivial⟩ T.sa ?_
  refine exc_osa X₁ hx₁ hcl (show refsVE (.ref C :: bm) = true from hbm) rfl T.noN (fun h₃ tk₃ dx k₃ dn dne hx₃ hn₃ => ?_)
  show wpAny _ _ (execs _ _) _ _ _
  have z : s.heap.objs.size < h₁.objs.size := hn.lt
  exact wpAny_execs_nil (hq h₃ tk₃ dx ⟨fun b o hb e => k₃ b o hb (k b o e), hx₃, Nat.le_of_lt (Nat.lt_of_lt_of_le z dn), dne, hn₃⟩)
theorem bad_made (T : BadTxt K mg C fI) {v : Value} (X : K.In s.heap) (hlim : s.heap.NoLimit) (hroom : A.depth + 1 < recursionLimit)
    (hq : ∀ h' tk e d, OwnMade s.heap h' e C d v → R (.ok (.ret (.ref e))) { s with heap := h', toks := tk }) :
    codeAny (model prog w) A (.call (.ref C) ⟨[v], []⟩) R s := by
  obtain ⟨nm, q, N, bs, bm, sn, sub, ab, col, dd, k0, k1, k2, k3, k5, hC, hbm⟩ := T.cls
  obtain ⟨hp, g, dr, tk, os⟩ := s
  have k : ∀ b o, hp.get? b = some o → ((hp.push (kdv_tup [v])).push (excO C hp.objs.size)).get? b = some o := fun b o e => Heap.get?_push_of_some _ (Heap.get?_push_of_some _ e)
  have hget : ((hp.push (kdv_tup [v])).push (excO C hp.objs.size)).get? (hp.objs.size + 1) = some (excO C hp.objs.size) := by heap_get
  have hnx : K.lookup (hp.objs.size + 1) = none := by
    cases e : K.lookup (hp.objs.size + 1) with
    | none => rfl
    | some o =>
      have z : hp.get? (hp.objs.size + 1) = some o := X _ _ e
      exact absurd (Nat.lt_of_succ_lt (Heap.lt_size z)) (Nat.lt_irrefl _)
  refine call_own F.excBase_ValueError (fun X => refsVE_contains X bm hbm) (X _ _ hC) (looks_findIn X T.iC) (fun self => bind_fn X self T.tC) (one_size v) ?_
  refine bad_init (s := ⟨(hp.push (kdv_tup [v])).push (excO C hp.objs.size), g, dr, tk, os⟩) T (X.keeps k) (hlim.keeps k) hget hnx ?_ fun h' tk' dx ⟨k', hx, dn, dne, hns⟩ => ?_
  · show A.depth + 1 < recursionLimit
    exact hroom
  · have old : ∀ b o, hp.get? b = some o → h'.get? b = some o := fun b o e => k' b o (Nat.ne_of_lt (Nat.lt_succ_of_lt (Heap.lt_size e))) (k b o e)
    have z : hp.objs.size + 1 + 1 ≤ dx := by
      first
        | (simpa only [Heap.size_push] using dn)
        | exact dn
        | (have q := dn; rw [Heap.size_push, Heap.size_push] at q; exact q)
    exact ⟨rfl, hq h' tk' (hp.objs.size + 1) dx ⟨old, Nat.le_succ _, ⟨_, _, hx, rfl, rfl, rfl, rfl⟩, Nat.le_trans (Nat.le_trans (Nat.le_succ _) (Nat.le_succ _)) z, dne, hns⟩⟩
end
end BadA
end PySem
namespace L2
open PySem PySem.Spec PyProof.Rows
theorem relO_badA {v : V} {v' : Value} (r : RelV v v') (f : Str) : RelO (List.lookup f [(("index" : Str), v)]) (if f = "index" then some v' else none) := by
  by_cases hw : f = "index"
  · subst hw
    rw [if_pos rfl]
    have q : List.lookup ("index" : Str) [(("index" : Str), v)] = some v := by simp [List.lookup]
    rw [q]
    exact r
  · rw [if_neg hw]
    have qw : (f == ("index" : Str)) = false := by simpa using hw
    have q2 : List.lookup f [(("index" : Str), v)] = none := by simp [List.lookup, qw]
    rw [q2]
    trivial
section
variable {X : Cx} {C fI : Addr}
/-- Low(e) -/
def tMkBadA (C : Addr) (ta : TA) : St → Hp → XK → Prop := fun σ H Q => ta σ H fun vs H1 => ∃ v, vs = [v] ∧ ∀ d, H1 d = none → Q (.ref C) (some d) (upd H1 d (.xd [(("index" : Str), v)]))
theorem pmk_badA {a : Expr} {ta : TA} {p pos : Pos} {k : Nat} (T : PySem.BadA.BadTxt X.K X.mg C fI) (hr : Room k X.A) (ha : PA X [a] ta) (hg : Gl X "NotAllowed" := by rfl)
    (he : starEach (a :: []) X.env = (false, eval a X.env) :: starEach [] X.env := by rfl) (hpl : (backTo pos (starEach [] X.env)).any (·.1) = false := by rfl) :
    PMk X (.Call (.Name "NotAllowed" p) [a] [] pos) (tMkBadA C ta) := by
  intro pins s σ H Q I h
  refine wpAny_Call_Name_kw (ld_glob I hg T.gC ?_)
  refine PySem.W.callWith_K (h₀ := X.base) I.ok.mod.kin T.kC (thn (ha.run pos pins s σ H _ I h) fun us s1 hh => ?_) he hpl
  obtain ⟨vs, H1, I1, r1, v, ev, q1⟩ := hh
  subst ev
  refine ⟨I1.kIn, ?_⟩
  cases r1 with
  | cons rv rn =>
    rename_i v' us'
    cases rn
    show wpAny _ _ (call (.ref C) [v']) _ _ _
    have hlim := I1.nolimit
    obtain ⟨hp, g, dr, tk, os⟩ := s1
    refine wpAny_call (PySem.BadA.bad_made T I1.kIn hlim (by have := hr.dp; omega) fun h' tk' e d M => ?_)
    show MkP X pins σ Q (.ref e) ⟨h', g, dr, tk', os⟩
    obtain ⟨oe, fv, hoe, hc, hd, hdat, h1⟩ := M.obj
    have hns := M.ns
    obtain ⟨G', g1, g2⟩ := restrict h' fun b => decide (b ≠ e)
    have gk : ∀ b, b ≠ e → G'.get? b = h'.get? b := fun b hb => g1 b (decide_eq_true hb)
    have ge : G'.get? e = none := g2 e (by simp)
    have old : ∀ b o, hp.get? b = some o → G'.get? b = some o := fun b o q => (gk b (Nat.ne_of_lt (Nat.lt_of_lt_of_le (Heap.lt_size q) M.new))).trans (M.keep b o q)
    have ob : ObjOk X.prog X.w (upd H1 d (.xd [(("index" : Str), v)])) G' d (.xd [(("index" : Str), v)]) :=
      ⟨_, hns.at (fun o q => (gk d M.dne).trans q), fun f => relO_badA rv f⟩
    have J : Inv X pins σ (upd H1 d (.xd [(("index" : Str), v)])) ⟨G', g, dr, tk', os⟩ := I1.laid (t' := tk') old M.dbig ob
    refine ⟨e, oe, fv, ⟨G', g, dr, tk', os⟩, _, .ref C, some d, rfl, J, fun b o q => ?_, ge, hoe, ⟨hc, hd⟩, hdat, h1, ?_, rfl, I1.bare, raises_own T.exC T.tyC, q1 d (I1.hok.fresh M.dbig)⟩
    · by_cases hb : b = e
      · have q' : G'.get? b = some o := q
        rw [hb, ge] at q'; cases q'
      · exact (gk b hb).symm.trans q
    · rw [upd_ne (Ne.symm M.dne)]
      exact I1.hok.fresh M.new
/-- raise Low(e) -/
def tRaiseBadA (C : Addr) (W : WX) (ta : TA) : TS := fun _ σ H => tMkBadA C ta σ H fun cls d H' => W cls d σ H'
theorem ps_raiseBadA {a : Expr} {ta : TA} {W : WX} {p pos pos2 : Pos} {k : Nat} (hc : X.calm = true) (T : PySem.BadA.BadTxt X.K X.mg C fI) (hr : Room k X.A) (tk : Takes X W) (ha : PA X [a] ta) (hg : Gl X "NotAllowed" := by rfl)
    (he : starEach (a :: []) X.env = (false, eval a X.env) :: starEach [] X.env := by rfl) (hpl : (backTo pos (starEach [] X.env)).any (·.1) = false := by rfl) :
    PS X (.Raise (some (.Call (.Name "NotAllowed" p) [a] [] pos)) none pos2) (tRaiseBadA C W ta) := ps_raise hc tk (pmk_badA T hr ha hg he hpl)
/-- low.by, low the exception that the suite holds (at a; its class cls, its dict d) -/
def tRowBadA (C : Addr) (a : Addr) (cls : Value) (d : Option Addr) (te : TE) : TE := fun σ H Q => te σ H fun x H1 => x = .ref a ∧ cls = .ref C ∧ ∃ (dd : Addr) (v : V), d = some dd ∧ H1 dd = some (.xd [(("index" : Str), v)]) ∧ Q v H1
theorem pe_rowBadA {a : Addr} {oe : Obj} {cls : Value} {d : Option Addr} {pn : List (Addr × Obj)} {e : Expr} {te : TE} {pos : Pos} (T : PySem.BadA.BadTxt X.K X.mg C fI) (hz : Zc cls d oe) (hf : ∃ vs, oe.data = .fields vs) (he : PE (X.suite a ((a, oe) :: pn)) e te)
    (hb : attributeBase e "index" X.env (eval e X.env) = eval e X.env := by rfl) :
    PE (X.suite a ((a, oe) :: pn)) (.Attribute e "index" pos) (tRowBadA C a cls d te) := by
  refine ⟨fun pins s σ H Q I h => ?_⟩
  refine attr_of hb (thn (he.run pins s σ H _ I h) fun u s1 hh => ?_)
  obtain ⟨x, H1, I1, rx, ex, ec, dd, v, ed, ea, q⟩ := hh
  subst ex
  obtain rfl : u = Value.ref a := rx
  subst ec
  subst ed
  obtain ⟨ha, _⟩ := I1.pin (a, oe) (List.mem_append_left _ List.mem_cons_self)
  obtain ⟨vs, hd⟩ := hf
  have hx : ObjOk X.prog X.w H1 s1.heap dd (.xd [(("index" : Str), v)]) := I1.hok dd _ ea
  obtain ⟨mA, hns, hr⟩ := hx
  obtain ⟨od, ho, hl⟩ := lookIn_ns hns
  have l : List.lookup ("index" : Str) [(("index" : Str), v)] = some v := by simp [List.lookup]
  obtain ⟨u, hu, ru⟩ := RelO.some_of (v := v) (o := mA "index") (by rw [← l]; exact hr "index")
  have J : PySem.W.InstAt s1.heap a oe C (some od) := ⟨ha, hz.1, by unfold PySem.W.notCls; rw [hd] <;> rfl, by rw [hz.2]; exact ho⟩
  exact HandSPX.exc_get I1.kIn J T.ga T.gg T.exC (PySem.W.findObj_own T.hdC T.noN rfl (by rw [hl, hu])) (handed_of ru) ⟨v, H1, I1.tok _, ru, q⟩
end
end L2
/-! BS8: a base's methods over its object: is_allowed, make, rows, ==. -/
namespace SP
open PySem L2 DV PM LK NV QD
variable {K : PySem.W.Frag}
def spIsAllowed (K : PySem.W.Frag) (CB C : Addr) : Sp := fun vs H Q _ => ∃ B s dx0 v0 vt T R chs vch, vs = [.ref s, vch] ∧ Ex B H ∧ BObj K B H s dx0 CB C v0 vt T R ∧ Rp K B vch (.lst (List.map encCh chs)) ∧ schOk T ∧ refsOk T ∧ rowsOk T R ∧ (∀ c ∈ chs, chOk T c) ∧ room chs.length R ∧ (pairsOf R).length ≤ 900 ∧
  ∀ v B' H', Stp [] B H B' H' → Ex B' H' → Rp K B' v (.bl (optN (advF T chs R 0).1).isN) → Q v H'
def spMakeB (K : PySem.W.Frag) (CB C CN : Addr) : Sp := fun vs H Q E => ∃ B s dx0 v0 vt T R chs vch, vs = [.ref s, vch] ∧ Ex B H ∧ BObj K B H s dx0 CB C v0 vt T R ∧ Rp K B vch (.lst (List.map encCh chs)) ∧ schOk T ∧ refsOk T ∧ rowsOk T R ∧ (∀ c ∈ chs, chOk T c) ∧ room chs.length R ∧ (pairsOf R).length ≤ 900 ∧
  (∀ vt' B' H' R', advF T chs R 0 = (none, R') → Stp [s] B H B' H' → Ex B' H' → BObj K B' H' s dx0 CB C v0 vt' T R' → Q .non H') ∧
  ∀ i d B' H' R', advF T chs R 0 = (some i, R') → Stp [] B H B' H' → Ex B' H' → H' d = some (.xd [("index", .int (i : Nat))]) → B' d = none → H d = none → E (.ref CN) (some d) H'
def spBRowsF (K : PySem.W.Frag) (CB C : Addr) : Sp := fun vs H Q _ => ∃ B s dx0 v0 vt T R n l, vs = [.ref s, .str n] ∧ Ex B H ∧ BObj K B H s dx0 CB C v0 vt T R ∧ R.lookup n = some l ∧ (l.map (·.1)).Nodup ∧ l.length ≤ 1000 ∧
  ∀ a kvs B' H', Stp [] B H B' H' → Ex B' H' → H' a = some (.dK kvs) → B' a = none → RpK K B' kvs (inKs l) → H a = none → Q (.ref a) H'
def spBEqB (K : PySem.W.Frag) (CB C : Addr) : Sp := fun vs H Q _ => ∃ B s dx0 v0 vt T R s' dx' v0' vt' U R', vs = [.ref s, .ref s'] ∧ Ex B H ∧ BObj K B H s dx0 CB C v0 vt T R ∧ BObj K B H s' dx' CB C v0' vt' U R' ∧ tabsOk T ∧ tabsOk U ∧ (R.map (·.1)).Nodup ∧ (∀ t ∈ R, (t.2.map (·.1)).Nodup) ∧
  ∀ v B' H', Stp [] B H B' H' → Ex B' H' → Rp K B' v (.bl (true && (decide (rowsOf T = rowsOf U) && eqTab R R'))) → Q v H'
/-- a dict comprehension over a walk that is known here alone; nobody is told of the dict -/
theorem dc_atF {β : Type} {ss : List Sl} {g : TG} {tk tv : TE} {vs : List Nat} {l : List β} {enc kd : β → D} {It : It} {B1 H1 : Hp} {σ : L2.St} {Q : VK} (o1 : Okk K [] ss [] B1 H1 σ) (wk : Walks K B1 It (l.map enc)) (key : β → Key) (hkey : ∀ x, KeyD (kd x) (key x)) (val : β → D) (hz : l.length ≤ 1000000) (nd : (l.map key).Nodup)
    (hs : ∀ (i : Nat) (x : β), l[i]? = some x → ∃ G W, GR K (wipeS ss vs) g (enc x) G W ∧ (∀ k ∈ W, k ∈ vs) ∧ Ev K [] G [] tk (.dat (kd x)) [] ∧ Ev K [] G [] tv (.dat (val x)) [])
    (q : ∀ Dp kvs B' H', H1 Dp = none → Stp [] B1 H1 B' H' → Ex B' H' → H' Dp = some (.dK kvs) → B' Dp = none → RpK K B' kvs (l.map fun x => (key x, val x)) → Q (.ref Dp) H') :
    ∀ Dp, H1 Dp = none → ∃ W : Nat → Nat → Hp → Prop, (∃ m, W 0 m (upd H1 Dp (.dK []))) ∧ ∀ i m H, W i m H →
      (It.stop i H ∧ Q (.ref Dp) H) ∨ (It.go i H ∧ ∃ Nx : Hp → Prop, (∀ H', Nx H' → ∃ m', m' < m ∧ W (i + 1) m' H') ∧ ∀ x H', It.yld i H x H' → g x (wipe σ vs) H' fun σ2 H2 => wipe σ2 vs = wipe σ vs ∧ tYes σ2 H2 fun b H3 =>
        if b = true then tk σ2 H3 fun y H4 => tv σ2 H4 fun z H5 => ∃ kvs k, y = kV k ∧ H5 Dp = some (.dK kvs) ∧ kvs.length < sizeLine ∧ Nx (upd H5 Dp (.dK (putK kvs k z))) else Nx H3) := by
  intro Dp hDp
  have hB1 : B1 Dp = none := o1.ex.free hDp
  let out : Nat → List (Key × D) := fun i => (l.take i).map fun x => (key x, val x)
  let I : Nat → Hp → Prop := fun i H' => ∃ B' kvs, Stp [] B1 H1 B' H' ∧ Okk K [] ss [] B' H' σ ∧ H' Dp = some (.dK kvs) ∧ B' Dp = none ∧ RpK K B' kvs (out i)
  have i0 : I 0 (upd H1 Dp (.dK [])) :=
    ⟨B1, [], ⟨Ex.refl _, fun b u n e => Ex.new hDp b u e, fun _ _ _ => rfl, fun b u e => ⟨u, Ex.new hDp b u e⟩⟩, ⟨fun b u e => Ex.new hDp b u (o1.ex b u e), o1.sl, True.intro⟩, upd_same, hB1, .nil⟩
  refine ⟨fun i m H' => m = l.length - i ∧ i ≤ l.length ∧ I i H', ⟨l.length, by simp, Nat.zero_le _, i0⟩, ?_⟩
  rintro i m H' ⟨rfl, hi, B2, kvs, s2, o2, hd2, hb2, r2⟩
  obtain ⟨w1, w2⟩ := wk i B2 H' s2.ex o2.ex
  by_cases hlt : i < l.length
  · have hx : l[i]? = some l[i] := List.getElem?_eq_getElem hlt
    generalize l[i] = x at hx
    have hd' : (l.map enc)[i]? = some (enc x) := by rw [List.getElem?_map, hx]; rfl
    obtain ⟨go, yl⟩ := w1 _ hd'
    obtain ⟨G, W, hg, hW, hk, hv⟩ := hs i x hx
    refine .inr ⟨go, I (i + 1), fun H3 q => ⟨l.length - (i + 1), by omega, rfl, hlt, q⟩, fun y H3 hy => ?_⟩
    obtain ⟨B3, s3, e3, x3⟩ := yl y H3 hy
    have o3 := o2.step0 s3 e3
    refine hg B3 H3 (wipe σ vs) y o3.ex (o3.sl.wipe vs) x3 _ fun σ4 s4 on => ⟨on.wipe hW, ?_⟩
    show tk σ4 H3 _
    refine hk B3 H3 σ4 ⟨o3.ex, s4, True.intro⟩ _ fun kv B5 H5 s5 o5 v5 => ?_
    have ekv := (hkey x).val (show Rp K B5 kv (kd x) from v5)
    subst ekv
    refine hv B5 H5 σ4 o5 _ fun v B6 H6 s6 o6 v6 => ?_
    have s26 : Stp [] B2 H' B6 H6 := (s3.trans s5).trans s6
    have hd6 : H6 Dp = some (.dK kvs) := s26.fr _ _ (by simp) hd2
    have hb6 : B6 Dp = none := by rw [s26.nb _ _ hd2]; exact hb2
    have r6 : RpK K B6 kvs (out i) := RpK.mono s26.ex r2
    have hl : kvs.length = i := by rw [r6.length]; show ((l.take i).map _).length = i; rw [List.length_map, List.length_take]; omega
    have hnew : ∀ p ∈ kvs, p.1 ≠ key x := fun p hp z => by
      have h1 : p.1 ∈ kvs.map (·.1) := List.mem_map.mpr ⟨p, hp, rfl⟩
      rw [r6.keys, z] at h1
      obtain ⟨q', hq', eq'⟩ := List.mem_map.mp h1
      obtain ⟨y', hy', rfl⟩ := List.mem_map.mp hq'
      have ek : key y' = key x := eq'
      obtain ⟨j, hj, ej⟩ := List.getElem_of_mem hy'
      have hj' : j < i := by rw [List.length_take] at hj; omega
      have hjl : l[j]? = some y' := by
        rw [List.getElem_take] at ej
        rw [List.getElem?_eq_getElem (by omega), ej]
      have a1 : (l.map key)[j]? = some (key x) := by rw [List.getElem?_map, hjl, ← ek]; rfl
      have a2 : (l.map key)[i]? = some (key x) := by rw [List.getElem?_map, hx]; rfl
      obtain ⟨l1, g1⟩ := List.getElem?_eq_some_iff.mp a1
      obtain ⟨l2, g2⟩ := List.getElem?_eq_some_iff.mp a2
      exact List.pairwise_iff_getElem.mp nd j i l1 l2 hj' (g1.trans g2.symm)
    refine ⟨kvs, key x, rfl, hd6, lt_line (by omega), ?_⟩
    rw [putK_new hnew]
    have key' : ∀ b, b ≠ Dp → upd H6 Dp (.dK (kvs ++ [(key x, v)])) b = H6 b := fun b n => upd_ne n
    have hne : ∀ b u, H1 b = some u → b ≠ Dp := fun b u e z => by rw [z, hDp] at e; cases e
    have s16 := s2.trans s26
    refine ⟨B6, _, ⟨s16.ex, fun b u n e => by rw [key' b (hne b u e)]; exact s16.fr b u n e, s16.nb, fun b u e => by rw [key' b (hne b u e)]; exact s16.dm b u e⟩, ⟨fun b u e => ?_, o2.sl.mono s26.ex, True.intro⟩, upd_same, hb6, ?_⟩
    · rw [key' b (fun z => by rw [z, hb6] at e; cases e)]; exact o6.ex b u e
    · show RpK K B6 _ ((l.take (i + 1)).map _)
      rw [List.take_add_one, hx, List.map_append]
      exact RpK.append r6 (.cons v6 .nil)
  · have e : i = l.length := by omega
    subst e
    have ho : out l.length = l.map fun x => (key x, val x) := by show (l.take l.length).map _ = _; rw [List.take_length]
    rw [ho] at r2
    exact .inl ⟨w2 (by rw [List.length_map]; exact Nat.le_refl _), q _ kvs B2 H' hDp s2 o2.ex hd2 hb2 r2⟩
theorem dc_tF {β : Type} {ss : List Sl} {wi : TI} {g : TG} {tk tv : TE} {vs : List Nat} {l : List β} {enc kd : β → D} {It : It} {B1 H1 : Hp} {σ : L2.St} {Q : VK} (hwi : ∀ R : L2.It → Hp → Prop, R It H1 → wi σ H1 R) (o1 : Okk K [] ss [] B1 H1 σ) (wk : Walks K B1 It (l.map enc)) (key : β → Key) (hkey : ∀ x, KeyD (kd x) (key x)) (val : β → D) (hz : l.length ≤ 1000000) (nd : (l.map key).Nodup)
    (hs : ∀ (i : Nat) (x : β), l[i]? = some x → ∃ G W, GR K (wipeS ss vs) g (enc x) G W ∧ (∀ k ∈ W, k ∈ vs) ∧ Ev K [] G [] tk (.dat (kd x)) [] ∧ Ev K [] G [] tv (.dat (val x)) [])
    (q : ∀ Dp kvs B' H', H1 Dp = none → Stp [] B1 H1 B' H' → Ex B' H' → H' Dp = some (.dK kvs) → B' Dp = none → RpK K B' kvs (l.map fun x => (key x, val x)) → Q (.ref Dp) H') : tDc wi g tYes tk tv vs σ H1 Q := hwi _ (dc_atF o1 wk key hkey val hz nd hs q)
end SP
namespace T3
open PySem L2 DV PM SP LK NV
abbrev s_Base_make : Stmt := inClass (topS 5) 5
abbrev N_Base_make : List Str := ["self", "changes", "ahead", "refused"]
theorem sc_Base_make : FnScope N_Base_make ["self", "changes"] (defScope s_Base_make) := ⟨rfl, rfl, rfl, by decide +kernel, rfl, by decide +kernel, by decide +kernel⟩

abbrev s_Base_is_allowed : Stmt := inClass (topS 5) 6
abbrev N_Base_is_allowed : List Str := ["self", "changes"]
theorem sc_Base_is_allowed : FnScope N_Base_is_allowed ["self", "changes"] (defScope s_Base_is_allowed) := ⟨rfl, rfl, rfl, by decide +kernel, rfl, by decide +kernel, by decide +kernel⟩

section
variable {P : Program} {w : World} {K : PySem.W.Frag} {mg : Str → Option Value} {base : Heap} {C CB CN fN : Addr}
theorem ok_bmake {f fF fA : Addr} {fd fdF fdA : FuncData} (F : Fun K "make" "Base.make" s_Base_make f fd) (c : BaseCls K CB) (TB : PySem.BadA.BadTxt K mg CN fN) (cls_B : Cls K CB) (M_fork : Meth K CB "fork" fF) (G_fork : FnOk P w K mg base CX0 3 fF fdF ["self"] (spFork K CB C)) (B_fork : Binds K fdF ["self"] [])
    (M__advance : Meth K CB "_advance" fA) (G__advance : FnOk P w K mg base CX0 4 fA fdA ["self", "changes"] (spAdv K CB C)) (B__advance : Binds K fdA ["self", "changes"] []) : FnOk P w K mg base (L2.CX P w) 5 f fd ["self", "changes"] (spMakeB K CB C CN) := by
  refine F.okX sc_Base_make (fun vs H Q E h => ?_) (fun cdv A outer s H vs Q E hr h => ?_)
  · obtain ⟨B, s, dx0, v0, vt, T, R, chs, vch, rfl, _⟩ := h
    rfl
  have nd := sc_Base_make.nd
  refine ⟨_, (pss_cons (ps_set (i := 2) nd rfl (.inl rfl) (pe_meth0 (pv 0) cls_B M_fork G_fork (hr.mono (by decide)) B_fork .nil pass0))
      (pss_cons (ps_set (i := 3) nd rfl (.inl rfl) (pe_meth (pv 2) cls_B M__advance G__advance (hr.mono (by decide)) B__advance .nil pass0 (pa_cons (pv 1) pa_nil)))
      (pss_cons (ps_if (pt_cmpR op_notN' (pv 3) pe_non (nomark _)) (pss_one (ps_raiseBadA rfl TB hr (takes_of rfl rfl rfl rfl) (by exact (pa_cons (pv 3) pa_nil)))) pss_nil)
      (pss_one (ps_fld (pv 0) (pe_fld (pv 2) rfl) rfl))))), ?_⟩
  obtain ⟨B, s, dx0, v0, vt, T, R, chs, vch, rfl, e0, bo, rch, hT, hX, hR, hch, hrm, hz, qQ, qE⟩ := h
  have h0 : (L2.start N_Base_make [V.ref s, vch])[0]? = some (some (.ref s)) := rfl
  have h1 : (L2.start N_Base_make [V.ref s, vch])[1]? = some (some vch) := rfl
  have hlen : (L2.start N_Base_make [V.ref s, vch]).length = 4 := rfl
  generalize L2.start N_Base_make [V.ref s, vch] = σ at h0 h1 hlen ⊢
  have nf : List.lookup ("fork" : Str) [(("schema" : Str), v0), ("_tables", vt)] = none := by
    have a1 : (("fork" : Str) == "schema") = false := by decide +kernel
    have a2 : (("fork" : Str) == "_tables") = false := by decide +kernel
    simp only [List.lookup, a1, a2]
  refine st_seq ⟨.ref s, h0, s, dx0, _, rfl, bo.obj, nf, B, s, dx0, v0, vt, T, R, rfl, e0, bo, hT, hR, hz, fun p dx t as B2 H2 s2 e2 ba fr => ?_⟩
  refine gname_go ?_
  dsimp only []
  have g0 : (σ.set 2 (some (.ref p)))[0]? = some (some (.ref s)) := by rw [List.getElem?_set, if_neg (by decide)]; exact h0
  have g1 : (σ.set 2 (some (.ref p)))[1]? = some (some vch) := by rw [List.getElem?_set, if_neg (by decide)]; exact h1
  have g2 : (σ.set 2 (some (.ref p)))[2]? = some (some (.ref p)) := by rw [List.getElem?_set, if_pos rfl, if_pos (by rw [hlen]; decide)]
  have gl : (σ.set 2 (some (.ref p))).length = 4 := by rw [List.length_set]; exact hlen
  generalize σ.set 2 (some (.ref p)) = σ1 at g0 g1 g2 gl
  have na : List.lookup ("_advance" : Str) [(("schema" : Str), v0), ("_tables", .ref t)] = none := by
    have a1 : (("_advance" : Str) == "schema") = false := by decide +kernel
    have a2 : (("_advance" : Str) == "_tables") = false := by decide +kernel
    simp only [List.lookup, a1, a2]
  refine st_seq ⟨.ref p, g2, p, dx, _, rfl, ba.obj, na, vch, g1, B2, p, dx, t, as, v0, T, R, chs, vch, rfl, e2, ba, rch.mono s2.ex, hT, hX, hR, hch, hrm, fun v B3 H3 s3 e3 ba3 rv => ?_⟩
  refine gname_go ?_
  dsimp only []
  have s03 : Stp [] B H B3 H3 := stp_fresh s2 s3 fun a ha => fr a (List.mem_cons_of_mem _ (List.mem_cons_of_mem _ ha))
  have bo3 := bo.step s03 (by simp)
  have k0 : (σ1.set 3 (some v))[0]? = some (some (.ref s)) := by rw [List.getElem?_set, if_neg (by decide)]; exact g0
  have k2 : (σ1.set 3 (some v))[2]? = some (some (.ref p)) := by rw [List.getElem?_set, if_neg (by decide)]; exact g2
  have o3 : Okk K [] [.any, .any, .any, .dat (optN (advF T chs R 0).1)] [] B3 H3 (σ1.set 3 (some v)) := ⟨e3, ⟨by rw [List.length_set]; exact gl, fun i r hi hn => by
    match i, hi with
    | 0, hi => cases hi; exact absurd rfl hn
    | 1, hi => cases hi; exact absurd rfl hn
    | 2, hi => cases hi; exact absurd rfl hn
    | 3, hi => cases hi; exact ⟨v, by rw [List.getElem?_set, if_pos rfl, if_pos (by rw [gl]; decide)], rv⟩⟩, True.intro⟩
  generalize σ1.set 3 (some v) = σ2 at k0 k2 o3
  refine st_seq ((et_test (ev_op (ev_var (i := 3) rfl) ev_non od_notN) : EvT K [] _ [] _ _ []) B3 H3 σ2 o3 _ fun B4 H4 s4 o4 => ?_)
  have s04 := s03.trans s4
  cases hadv : advF T chs R 0 with
  | mk o R' =>
  cases o with
  | some i =>
    rw [if_pos (show (!D.isN (optN (some i))) = true from rfl)]
    rw [hadv] at o4
    obtain ⟨u, hu, eu⟩ := o4.sl.get 3 (.dat (.int (i : Nat))) rfl (by intro z; cases z)
    cases (show Rp K _ u (.int (i : Nat)) from eu)
    refine ⟨_, hu, _, rfl, fun d hd => ?_⟩
    have hd0 : H d = none := by
      cases e : H d with
      | none => rfl
      | some u => obtain ⟨u', h'⟩ := s04.dm d u e; rw [hd] at h'; cases h'
    exact qE i d B4 _ R' hadv (stp_upd s04 hd0) (ex_upd o4.ex (o4.ex.free hd)) upd_same (o4.ex.free hd) hd0
  | none =>
    rw [if_neg (show ¬ (!D.isN (optN none)) = true by decide)]
    refine st_next ?_
    rw [hadv] at ba3
    have ba4 := ba3.step s4 (fun a _ h => by cases h)
    have bo4 := bo3.step s4 (by simp)
    have nsp : s ≠ p := fun z => by
      have h := fr p List.mem_cons_self
      rw [← z, bo.obj] at h; cases h
    refine ⟨.ref p, k2, p, CB, dx, _, .ref t, rfl, ba4.obj, c.cl, c.n2, rfl, .ref s, k0, s, CB, dx0, _, rfl, bo4.obj, c.cl, c.n2, by simp, ?_⟩
    have hpf : putF "_tables" (.ref t) [("schema", v0), ("_tables", vt)] = ([("schema", v0), ("_tables", .ref t)] : List (Str × V)) := by
      have a1 : ¬ ("schema" : Str) = "_tables" := by decide +kernel
      simp only [putF, if_neg a1, if_pos]
    rw [hpf]
    obtain ⟨B5, s5, e5, eB5, bq⟩ := ba4.publ (PS := as) (B0 := B) (H0 := H) ((s2.mono (fun x hx => by cases hx) : Stp as B H B2 H2).trans (s3.trans s4.ofNil)) o4.ex (fun a ha => fr a (List.mem_cons_of_mem _ ha)) (fun q hq => hq)
    have hB5 : B5 s = none := by rw [s5.nb _ _ bo.obj]; exact bo.nop
    have hs4 : H4 s = some (.ins CB dx0 [("schema", v0), ("_tables", vt)]) := bo4.obj
    refine qQ (.ref t) B5 _ R' hadv ((s5.ofNil : Stp [s] B H B5 H4).trans (stp_write hs4)) (fun b u e => ?_) ⟨upd_same, hB5, bq.sch, bq.tab⟩
    rw [upd_ne fun z => by rw [z, hB5] at e; cases e]
    exact e5 b u e
theorem ok_bis_allowed {f fF fA : Addr} {fd fdF fdA : FuncData} (F : Fun K "is_allowed" "Base.is_allowed" s_Base_is_allowed f fd) (c : BaseCls K CB) (cls_B : Cls K CB) (M_fork : Meth K CB "fork" fF) (G_fork : FnOk P w K mg base CX0 3 fF fdF ["self"] (spFork K CB C)) (B_fork : Binds K fdF ["self"] [])
    (M__advance : Meth K CB "_advance" fA) (G__advance : FnOk P w K mg base CX0 4 fA fdA ["self", "changes"] (spAdv K CB C)) (B__advance : Binds K fdA ["self", "changes"] []) : FnOk P w K mg base CX0 5 f fd ["self", "changes"] (spIsAllowed K CB C) := by
  refine F.ok sc_Base_is_allowed (fun vs H Q E h => ?_) (fun cdv A outer s H vs Q E hr h => ?_)
  · obtain ⟨B, s, dx0, v0, vt, T, R, chs, vch, rfl, _⟩ := h
    rfl
  have nd := sc_Base_is_allowed.nd
  refine ⟨_, (pss_one (ps_ret (pe_cmpR op_isN' (pe_meth (pe_meth0 (pv 0) cls_B M_fork G_fork (hr.mono (by decide)) B_fork .nil pass0) cls_B M__advance G__advance (hr.mono (by decide)) B__advance .nil pass0 (pa_cons (pv 1) pa_nil)) pe_non (nomark _)))), ?_⟩
  obtain ⟨B, s, dx0, v0, vt, T, R, chs, vch, rfl, e0, bo, rch, hT, hX, hR, hch, hrm, hz, q⟩ := h
  have h0 : (L2.start N_Base_is_allowed [V.ref s, vch])[0]? = some (some (.ref s)) := rfl
  have h1 : (L2.start N_Base_is_allowed [V.ref s, vch])[1]? = some (some vch) := rfl
  generalize L2.start N_Base_is_allowed [V.ref s, vch] = σ at h0 h1 ⊢
  have nf : List.lookup ("fork" : Str) [(("schema" : Str), v0), ("_tables", vt)] = none := by
    have a1 : (("fork" : Str) == "schema") = false := by decide +kernel
    have a2 : (("fork" : Str) == "_tables") = false := by decide +kernel
    simp only [List.lookup, a1, a2]
  refine ⟨.ref s, h0, s, dx0, _, rfl, bo.obj, nf, B, s, dx0, v0, vt, T, R, rfl, e0, bo, hT, hR, hz, fun p dx t as B2 H2 s2 e2 ba fr => ?_⟩
  have na : List.lookup ("_advance" : Str) [(("schema" : Str), v0), ("_tables", .ref t)] = none := by
    have a1 : (("_advance" : Str) == "schema") = false := by decide +kernel
    have a2 : (("_advance" : Str) == "_tables") = false := by decide +kernel
    simp only [List.lookup, a1, a2]
  refine ⟨p, dx, _, rfl, ba.obj, na, vch, h1, B2, p, dx, t, as, v0, T, R, chs, vch, rfl, e2, ba, rch.mono s2.ex, hT, hX, hR, hch, hrm, fun v B3 H3 s3 e3 ba3 rv => ?_⟩
  have s03 : Stp [] B H B3 H3 := stp_fresh s2 s3 fun a ha => fr a (List.mem_cons_of_mem _ (List.mem_cons_of_mem _ ha))
  exact (od_isN (K := K)) B3 H3 v .non e3 rv (Rp.non) _ fun v4 B4 H4 s4 e4 r4 => q v4 B4 H4 (s03.trans s4) e4 r4
theorem ok_browsF {f : Addr} {fd : FuncData} (F : Fun K "rows" "Base.rows" s_Base_rows f fd) (c : BaseCls K CB) : FnOk P w K mg base CX0 1 f fd ["self", "table"] (spBRowsF K CB C) := by
  refine F.ok sc_Base_rows (fun vs H Q E h => ?_) (fun cdv A outer s H vs Q E hr h => ?_)
  · obtain ⟨B, s, dx0, v0, vt, T, R, n, l, rfl, _⟩ := h
    rfl
  have nd := sc_Base_rows.nd
  refine ⟨_, (pss_one (ps_ret (pe_lock (pe_dc (own := [("key", 2), ("row", 3)]) (g := (gTup K 2 (gCons (gName 2) (gCons (gName 3) gNil)))) (tt := tYes) (tk := (tVar 2)) (tv := (tVar 3)) rfl nd (pi_items (pe_dget (hu_of hr) (pe_fld (pv 0) rfl) (pv 1) (fun _ _ => rfl))) (blkOk_by (N := N_Base_rows) (sc := defScope s_Base_rows) (by decide +kernel)) (by intro _ _ _ _ _; exact (pg_tup (by rfl) (by exact (pgs_cons (by exact (pg_name (i := 2) nd (by rfl) (by first | exact .inl rfl | exact .inr rfl))) (by exact (pgs_cons (by exact (pg_name (i := 3) nd (by rfl) (by first | exact .inl rfl | exact .inr rfl))) (by exact pgs_nil))))))) (by intro _ _ _ _ _; exact pts_nil) (by intro _ _ _ _ _; exact (pv 2)) (by intro _ _ _ _ _; exact (pv 3)))))), ?_⟩
  obtain ⟨B, s, dx0, v0, vt, T, R, n, l, rfl, e0, bo, hl, hnd, hz, q⟩ := h
  have h0 : (L2.start N_Base_rows [V.ref s, V.str n])[0]? = some (some (.ref s)) := rfl
  have h1 : (L2.start N_Base_rows [V.ref s, V.str n])[1]? = some (some (.str n)) := rfl
  have hlen : (L2.start N_Base_rows [V.ref s, V.str n]).length = 4 := rfl
  generalize L2.start N_Base_rows [V.ref s, V.str n] = σ at h0 h1 hlen ⊢
  obtain ⟨t, kvo, a, kvi, rfl, ht5, hval, ha5, rk, nta⟩ := path_tab bo.tab hl
  have nsa : s ≠ a := fun z => by have := bo.nop; rw [z, ha5] at this; cases this
  refine lock_of (e0 _ _ ha5) True.intro fun od => ?_
  have rkf : RpK K (upd B a (.frz od (.dK kvi))) kvi (inKs l) := (rpK_hide ha5 rk fun p hp => by obtain ⟨x, _, rfl⟩ := List.mem_map.mp hp; exact ndL_row _).mono off_upd
  have wk := wk_items (od := od) (upd_same (H := B)) rkf
  have ev : (inKs l).map (fun p => D.tup [keyD p.1, p.2]) = l.map fun p => D.tup [.int p.1, rowD p.2] := by unfold inKs; rw [List.map_map]; rfl
  rw [ev] at wk
  have okv : Okk K [] [.any, .any, .any, .any] [] (upd B a (.frz od (.dK kvi))) (upd H a (.frz od (.dK kvi))) σ := ⟨Ex.updB e0, ⟨hlen, fun i r hi hn => by
    match i, hi with
    | 0, hi => cases hi; exact absurd rfl hn
    | 1, hi => cases hi; exact absurd rfl hn
    | 2, hi => cases hi; exact absurd rfl hn
    | 3, hi => cases hi; exact absurd rfl hn⟩, True.intro⟩
  refine dc_tF (vs := [2, 3]) (l := l) (enc := fun p => D.tup [.int p.1, rowD p.2]) (fun R q => ⟨.ref s, h0, s, CB, dx0, _, .ref t, rfl, by rw [upd_ne nsa]; exact bo.obj, c.cl, c.n2, rfl, .str n, h1, t, .ref a, rfl, .inl ⟨kvo, .inr n, .inl (by rw [upd_ne nta]; exact e0 _ _ ht5), rfl, hval.symm⟩, a, od, kvi, rfl, upd_same, q⟩) okv wk (fun p => (Sum.inl p.1 : Key)) (kd := fun p => D.int p.1) (fun p => .int p.1) (fun p => rowD p.2) (by omega) (by
    have : l.map (fun p => (Sum.inl p.1 : Key)) = (l.map (·.1)).map Sum.inl := by rw [List.map_map]; rfl
    rw [this]
    exact List.Pairwise.map _ (fun a b h z => h (Sum.inl.inj z)) hnd) (fun i x hx => ⟨_, _, g_tup (g_cons g_name (g_cons g_name g_nil)), by decide, ev_var rfl, ev_var rfl⟩) (fun Dp kvs B2 H2 hD s2 e2 hd2 hb2 r2 => ?_)
  obtain ⟨hf, hb, st, eB⟩ := lock_stp (Stp.refl [] B H) ha5 e0 (by simp) s2
  have nD : Dp ≠ a := fun z => by rw [z, upd_same] at hD; cases hD
  refine ⟨hf, q Dp kvs _ _ st (ex_un e2) (by rw [upd_ne nD]; exact hd2) (by rw [upd_ne nD]; exact hb2) ((rpK_fz hb r2).mono off_upd) (by rw [upd_ne nD] at hD; exact hD)⟩
theorem ok_beqB {f fE : Addr} {fd fdE : FuncData} (F : Fun K "__eq__" "Base.__eq__" s_Base_eq_ f fd) (c : BaseCls K CB) (ci : BaseIs K CB) (g_Base : mg "Base" = some (.ref CB)) (b_isinstance : mg "isinstance" = none)
    (G_eq : FnOk P w K mg base CX0 1 fE fdE ["self", "other"] (spM K (preSEq C))) (B_eq : Binds K fdE ["self", "other"] []) (S_eq : PySem.W.findIn K (.ref C) "__eq__" = some (some (.ref fE))) (Fn_eq : PySem.W.isFn K (.ref fE) = true) :
    FnOk P w K mg base CX0 4 f fd ["self", "other"] (spBEqB K CB C) := by
  refine F.ok sc_Base_eq_ (fun vs H Q E h => ?_) (fun cdv A outer s H vs Q E hr h => ?_)
  · obtain ⟨B, s, dx0, v0, vt, T, R, s', dx', v0', vt', U, R', rfl, _⟩ := h
    rfl
  have nd := sc_Base_eq_.nd
  refine ⟨_, (pss_one (ps_ret (pe_and (pe_callB call_isi (by rfl) b_isinstance (by decide +kernel) (pa_cons (pv 1) (pa_cons (pe_glob (v := .ref CB) rfl g_Base rfl) pa_nil))) (pe_and (pe_cmpR (OWN.op_eqOwn G_eq B_eq S_eq Fn_eq (hr.mono (by decide))) (pe_fld (pv 0) rfl) (pe_fld (pv 1) rfl) (nomark _)) (pe_one (pe_cmpR (QD.op_eqD2 (room2 hr)) (pe_fld (pv 0) rfl) (pe_fld (pv 1) rfl) (nomark _))))))), ?_⟩
  obtain ⟨B, s, dx0, v0, vt, T, R, s', dx', v0', vt', U, R', rfl, e0, bo, bo', hT, hU, hnd, hni, q⟩ := h
  have h0 : (L2.start N_Base_eq_ [V.ref s, V.ref s'])[0]? = some (some (.ref s)) := rfl
  have h1 : (L2.start N_Base_eq_ [V.ref s, V.ref s'])[1]? = some (some (.ref s')) := rfl
  generalize L2.start N_Base_eq_ [V.ref s, V.ref s'] = σ at h0 h1 ⊢
  refine ⟨.ref s', h1, ?_⟩
  refine ⟨.ref s', .ref CB, .ref CB, .ref CB, true, rfl, .own _, .base (.ins bo'.obj ci.cl ci.ha ci.hn ci.htk ci.hm), ci.hk, true, rfl, ?_⟩
  refine ⟨.ref s, h0, s, CB, dx0, _, v0, rfl, bo.obj, c.cl, c.n1, rfl, .ref s', h1, s', CB, dx', _, v0', rfl, bo'.obj, c.cl, c.n1, rfl, ?_⟩
  refine (od_eqOwn (K := K) (C := C) (neg := false) hT hU) B H v0 v0' e0 bo.sch bo'.sch _ fun v2 B2 H2 s2 e2 r2 => ?_
  have b2 := bo.step s2 (by simp)
  have b2' := bo'.step s2 (by simp)
  have r2' : Rp K B2 v2 (.bl (decide (rowsOf T = rowsOf U))) := r2
  cases r2'
  refine ⟨_, rfl, ?_⟩
  cases hd : decide (rowsOf T = rowsOf U) with
  | false =>
    rw [hd] at q
    exact q _ B2 H2 s2 e2 (.bl _)
  | true =>
    rw [hd] at q
    refine ⟨.ref s, h0, s, CB, dx0, _, vt, rfl, b2.obj, c.cl, c.n2, rfl, .ref s', h1, s', CB, dx', _, vt', rfl, b2'.obj, c.cl, c.n2, rfl, ?_⟩
    exact (od_eqTab (K := K) hnd hni) B2 H2 vt vt' e2 b2.tab b2'.tab _ fun v3 B3 H3 s3 e3 r3 => q v3 B3 H3 (s2.trans s3) e3 r3
end
end T3
/-! R6: the laws' own drawing of a change. -/
namespace SP
open PySem L2 DV PM LK NV QD
variable {K : PySem.W.Frag}
def rLenD (K : PySem.W.Frag) : List V → Hp → VK → Prop := fun xs H Q => ∃ a kvs, xs = [V.ref a] ∧ H a = some (.dK kvs) ∧ Q (.int kvs.length) H
theorem call_lenD1 {X : Cx} : CallR X (.builtin "len") (rLenD X.K) := call_lenD
theorem cb_lenD {l : List (Int × Row)} : CbD K (rLenD K) [.dat (inD l)] (.dat (.int (l.length : Nat))) := fun B H vs e h Q q => by
  obtain ⟨v, rfl, h1⟩ := rs1 h
  obtain ⟨a, kvi, rfl, ha, rk⟩ := in_open (show Rp K B v (inD l) from h1)
  refine ⟨a, kvi, rfl, e _ _ ha, ?_⟩
  have : kvi.length = l.length := by rw [RpK.lenE rk]; unfold inKs; rw [List.length_map]
  rw [this]
  exact q _ B H (Stp.refl _ _ _) e (.int _)
theorem st_asgTT {P : List Addr} {B0 H0 H : Hp} {ss ss' : List Sl} {cs cs1 : List (List D)} {σ : L2.St} {De : Ends} {te : TE} {g : TG} {d : D} {W : List Nat} (h : Sta K P B0 H0 ss cs σ H) (he : Ev K P ss cs te (.dat d) cs1) (hg : GR K ss g d ss' W) (k : ∀ σ' H', Sta K P B0 H0 ss' cs1 σ' H' → De.nx σ' H') : tAsg te g De σ H := by
  obtain ⟨B, s, o⟩ := h
  refine he B H σ o _ fun v B1 H1 s1 o1 v1 => ?_
  exact hg B1 H1 σ v o1.ex o1.sl v1 _ fun σ' sl' _ => k σ' H1 ⟨B1, s.trans s1, o1.ex, sl', o1.mu⟩
theorem et_andC {P : List Addr} {ss : List Sl} {cs cs1 : List (List D)} {t u : TT} {a b : Bool} (h1 : EvT K P ss cs t a cs1) (h2 : a = true → EvT K P ss cs1 u b cs1) : EvT K P ss cs (tAnd t u) (a && b) cs1 := fun B H σ o Q q => h1 B H σ o _ fun B1 H1 s1 o1 => by
  cases a with
  | true =>
    show u σ H1 Q
    exact h2 rfl B1 H1 σ o1 Q fun B2 H2 s2 o2 => q B2 H2 (s1.trans s2) o2
  | false =>
    show Q false H1
    exact q B1 H1 s1 o1
theorem ev_parT {P : List Addr} {ss : List Sl} {cs cs1 : List (List D)} {te : TE} {d e : D} (h : Ev K P ss cs te (.dat d) cs1) (he : d = e) : Ev K P ss cs te (.dat e) cs1 := he ▸ h
/-! slices by numbers -/
theorem cut_suf {xs : List D} {k : Nat} (h : k ≤ xs.length) : cutD xs (some (k : Int)) none = xs.drop k := by
  unfold cutD
  rw [HT.sIx_none, HT.sIx_nat, Nat.min_eq_left h, List.take_of_length_le (by rw [List.length_drop]; exact Nat.le_refl _)]
theorem cut_mid {xs : List D} {k : Nat} (h : k < xs.length) : cutD xs (some (k : Int)) (some ((k : Int) + 1)) = (xs.drop k).take 1 := by
  unfold cutD
  have e : ((k : Int) + 1) = ((k + 1 : Nat) : Int) := rfl
  rw [e, HT.sIx_nat, HT.sIx_nat, Nat.min_eq_left (by omega), Nat.min_eq_left (by omega)]
  congr 1
  omega
theorem cut_suf1 {xs : List D} {k : Nat} (h : k < xs.length) : cutD xs (some ((k : Int) + 1)) none = xs.drop (k + 1) := by
  have e : ((k : Int) + 1) = ((k + 1 : Nat) : Int) := rfl
  rw [e, cut_suf h]
/-! free numbers -/
theorem filt_or (p q : Nat → Bool) : ∀ xs : List Nat, (xs.filter fun n => p n || q n).length ≤ (xs.filter p).length + (xs.filter q).length
  | [] => by simp
  | x :: xs => by
    have ih := filt_or p q xs
    simp only [List.filter_cons]
    cases p x <;> cases q x <;> simp <;> omega
theorem filt_le {ks : List Int} : ∀ {xs : List Nat}, xs.Nodup → (xs.filter fun (n : Nat) => decide ((n : Int) ∈ ks)).length ≤ ks.length := by
  induction ks with
  | nil => intro xs _; simp
  | cons k ks ih =>
    intro xs nd
    have h1 := ih nd
    have h2 : (xs.filter fun (n : Nat) => decide ((n : Int) = k)).length ≤ 1 := by
      clear h1 ih
      induction xs with
      | nil => simp
      | cons x xs ih2 =>
        have nd' := List.nodup_cons.mp nd
        by_cases e : (x : Int) = k
        · rw [List.filter_cons_of_pos (by simpa using e)]
          have : (xs.filter fun (n : Nat) => decide ((n : Int) = k)) = [] := by
            rw [List.filter_eq_nil_iff]
            intro y hy z
            have : (y : Int) = k := of_decide_eq_true z
            have : y = x := by omega
            exact nd'.1 (this ▸ hy)
          rw [this]
          simp
        · rw [List.filter_cons_of_neg (by simpa using e)]
          exact ih2 nd'.2
    have h3 := filt_or (fun (n : Nat) => decide ((n : Int) = k)) (fun (n : Nat) => decide ((n : Int) ∈ ks)) xs
    have e3 : (fun (n : Nat) => decide ((n : Int) ∈ k :: ks)) = fun (n : Nat) => decide ((n : Int) = k) || decide ((n : Int) ∈ ks) := by
      funext n
      simp
    rw [e3]
    rw [List.length_cons]
    omega
theorem free_len {ks : List Int} {n : Nat} : n ≤ ((List.range (ks.length + n)).filter fun (k : Nat) => !decide ((k : Int) ∈ ks)).length := by
  have h1 := filt_le (ks := ks) (List.nodup_range (n := ks.length + n))
  have h2 : ∀ xs : List Nat, (xs.filter fun (k : Nat) => !decide ((k : Int) ∈ ks)).length + (xs.filter fun (k : Nat) => decide ((k : Int) ∈ ks)).length = xs.length := by
    intro xs
    induction xs with
    | nil => rfl
    | cons x xs ih =>
      simp only [List.filter_cons]
      by_cases e : (x : Int) ∈ ks
      · simp only [e, decide_true, Bool.not_true, if_true, List.length_cons]
        simp
        omega
      · simp only [e, decide_false, Bool.not_false, if_true, List.length_cons]
        simp
        omega
  have h3 := h2 (List.range (ks.length + n))
  rw [List.length_range] at h3
  omega
theorem look_some {l : List (Int × Row)} {k : Int} (h : k ∈ l.map (·.1)) : ∃ r, l.lookup k = some r ∧ (k, r) ∈ l := by
  induction l with
  | nil => simp at h
  | cons t l ih =>
    obtain ⟨a, c⟩ := t
    by_cases e : k = a
    · subst e
      exact ⟨c, by simp [List.lookup], List.mem_cons_self⟩
    · have e' : (k == a) = false := by simpa using e
      rcases List.mem_cons.mp h with z | z
      · exact absurd z e
      · obtain ⟨r, h1, h2⟩ := ih z
        exact ⟨r, by simpa only [List.lookup, e'] using h1, List.mem_cons_of_mem _ h2⟩
theorem look_keyN {l : List (Int × Row)} {k : Int} : (l.lookup k).isSome = decide (k ∈ l.map (·.1)) := by
  by_cases h : k ∈ l.map (·.1)
  · rw [look_key h, decide_eq_true h]
  · rw [decide_eq_false h]
    cases e : l.lookup k with
    | none => rfl
    | some r => exact absurd (List.mem_map.mpr ⟨(k, r), by
        clear h
        induction l with
        | nil => cases e
        | cons t l ih =>
          obtain ⟨a, c⟩ := t
          by_cases e2 : k = a
          · subst e2
            have : c = r := by simpa [List.lookup] using e
            rw [this]; exact List.mem_cons_self
          · have e' : (k == a) = false := by simpa using e2
            exact List.mem_cons_of_mem _ (ih (by simpa only [List.lookup, e'] using e)), rfl⟩) h
def WORDS : List Str := ["insert", "insert", "delete", "set", "set", "set"]
def changeW (T : List Tab) (R : Rs) : Wh := fun r c => ∃ s', c = [fdD s'] ∧ (r = .dat .non ∨ ∃ ch, r = .dat (encCh ch) ∧ chOk T ch ∧ ∀ b, 100 ≤ b → bdR b R → chB b ch)
def preChangeN : PreN := fun rs Pl cs W => ∃ p s T R m, rs = [.val (.ref p), .dat (encTs T), .dat (tabD R)] ∧ schOk T ∧ refsOk T ∧ T ≠ [] ∧ Gd T R m ∧ m < 64 ∧ Pl = [p] ∧ cs = [fdD s] ∧ W = changeW T R
end SP
namespace T3
open PySem L2 DV PM SP LK NV
section
variable {P : Program} {w : World} {K : PySem.W.Frag} {mg : Str → Option Value} {base : Heap}
end
end T3
/-! R7: the laws' own spoiling of a change. -/
namespace SP
open PySem L2 DV PM LK NV QD
variable {K : PySem.W.Frag}
def spoiltW (T : List Tab) (ch : Ch) : Wh := fun r c => ∃ s' ch', c = [fdD s'] ∧ r = .dat (encCh ch') ∧ chOk T ch' ∧ ∀ b, 100 ≤ b → chB b ch → chB (b + 9) ch'
def preSpoiltN : PreN := fun rs Pl cs W => ∃ p s T ch, rs = [.val (.ref p), .dat (encTs T), .dat (encCh ch)] ∧ schOk T ∧ chOk T ch ∧ Pl = [p] ∧ cs = [fdD s] ∧ W = spoiltW T ch
def tailRows : Ch → List Row | .set _ _ n => [n] | _ => []
theorem tailOf_rows (c : Ch) : tailOf c = (tailRows c).map rowD := by cases c <;> rfl
theorem cut2 (c : Ch) : cutD (.str (wordOf c) :: .str c.tab :: rowD (rowOf c) :: tailOf c) (some 2) none = (rowOf c :: tailRows c).map rowD := by cases c <;> rfl
theorem cutCh3 (c : Ch) : cutD (.str (wordOf c) :: .str c.tab :: rowD (rowOf c) :: tailOf c) (some 3) none = tailOf c := by cases c <;> rfl
/-- a change with other rows -/
def withRows : Ch → (Row → Row) → Ch
  | .ins n r, f => .ins n (f r)
  | .del n r, f => .del n (f r)
  | .set n o r, f => .set n (f o) (f r)
def withRow : Ch → Row → Ch
  | .ins n _, x => .ins n x
  | .del n _, x => .del n x
  | .set n _ r, x => .set n x r
theorem enc_withRows (c : Ch) (f : Row → Row) : encCh (withRows c f) = .tup ([.str (wordOf c), .str c.tab] ++ ((rowOf c :: tailRows c).map f).map rowD) := by cases c <;> rfl
theorem enc_withRow (c : Ch) (x : Row) : encCh (withRow c x) = .tup ([.str (wordOf c), .str c.tab, rowD x] ++ tailOf c) := by cases c <;> rfl
theorem ok_withRows {T : List Tab} {c : Ch} {f : Row → Row} {k : Int} (h : chOk T c) (hl : ∀ r, (f r).length = r.length ∨ r = []) (hk : ∀ r, (f r).headD 0 = k) : chOk T (withRows c f) := by
  obtain ⟨cols, h0, ho, hn, hkk⟩ := h
  have hl' : ∀ r : Row, r.length = cols.length + 1 → (f r).length = cols.length + 1 := fun r hr => by
    rcases hl r with e | e
    · rw [e, hr]
    · rw [e] at hr; simp at hr
  cases c with
  | ins n r => exact chOk_ins h0 (hl' r (hn r rfl))
  | del n r => exact chOk_del h0 (hl' r (ho r rfl))
  | set n o r => exact chOk_set h0 (hl' o (ho o rfl)) (hl' r (hn r rfl)) (by rw [hk, hk])
theorem ok_withRow {T : List Tab} {c : Ch} {x : Row} (h : chOk T c) (hl : x.length = (rowOf c).length) (hk : x.headD 0 = (rowOf c).headD 0) : chOk T (withRow c x) := by
  obtain ⟨cols, h0, ho, hn, hkk⟩ := h
  cases c with
  | ins n r => exact chOk_ins h0 (by rw [hl]; exact hn r rfl)
  | del n r => exact chOk_del h0 (by rw [hl]; exact ho r rfl)
  | set n o r => exact chOk_set h0 (by rw [hl]; exact ho o rfl) (hn r rfl) (by rw [hk]; exact hkk o r rfl rfl)
/-- row[:k] + (x,) + row[k + 1:] -/
def putAt (row : Row) (k : Nat) (x : Int) : Row := row.take k ++ [x] ++ row.drop (k + 1)
theorem putAt_len {row : Row} {k : Nat} {x : Int} (h : k < row.length) : (putAt row k x).length = row.length := by
  unfold putAt
  simp only [List.length_append, List.length_take, List.length_drop, List.length_cons, List.length_nil]
  omega
theorem putAt_head {row : Row} {k : Nat} {x : Int} (h : 1 ≤ k) (hk : k < row.length) : (putAt row k x).headD 0 = row.headD 0 := by
  unfold putAt
  cases row with
  | nil => simp at hk
  | cons a r =>
    obtain ⟨j, rfl⟩ : ∃ j, k = j + 1 := ⟨k - 1, by omega⟩
    rfl
theorem chB.row {b : Int} {c : Ch} (h : chB b c) : bnd b (rowOf c) := by
  cases c with
  | ins n r => exact h.2 r rfl
  | del n r => exact h.1 r rfl
  | set n o r => exact h.1 o rfl
theorem chB.rows {b b' : Int} {c : Ch} {f : Row → Row} (h : chB b c) (hf : ∀ r, r = rowOf c ∨ c.new = some r → bnd b r → bnd b' (f r)) : chB b' (withRows c f) := by
  cases c with
  | ins n r => exact ⟨fun _ e => (by cases e), fun _ e => by cases e; exact hf r (.inl rfl) (h.2 r rfl)⟩
  | del n r => exact ⟨fun _ e => by cases e; exact hf r (.inl rfl) (h.1 r rfl), fun _ e => (by cases e)⟩
  | set n o r => exact ⟨fun _ e => by cases e; exact hf o (.inl rfl) (h.1 o rfl), fun _ e => by cases e; exact hf r (.inr rfl) (h.2 r rfl)⟩
theorem chB.withRow {b b' : Int} {c : Ch} {x : Row} (h : chB b c) (e : b ≤ b') (hx : bnd b' x) : chB b' (withRow c x) := by
  cases c with
  | ins n r => exact ⟨fun _ e => (by cases e), fun _ e => by cases e; exact hx⟩
  | del n r => exact ⟨fun _ e => by cases e; exact hx, fun _ e => (by cases e)⟩
  | set n o r => exact ⟨fun _ e => by cases e; exact hx, fun _ e' => by cases e'; exact (h.2 r rfl).mono e⟩
theorem putAt_bnd {b b' : Int} {row : Row} {k : Nat} {x : Int} (h : bnd b row) (e : b ≤ b') (hx : bi b' x) : bnd b' (putAt row k x) := fun y hy => by
  unfold putAt at hy
  rcases List.mem_append.mp hy with hy | hy
  · rcases List.mem_append.mp hy with hy | hy
    · exact (h y (List.mem_of_mem_take hy)).mono e
    · rw [List.mem_singleton.mp hy]; exact hx
  · exact (h y (List.mem_of_mem_drop hy)).mono e
theorem getD_le {l : List Int} {m : Int} (h : ∀ x ∈ l, 0 ≤ x ∧ x ≤ m) (hm : 0 ≤ m) (k : Nat) : 0 ≤ l.getD k 0 ∧ l.getD k 0 ≤ m := by
  rw [List.getD_eq_getElem?_getD]
  cases e : l[k]? with
  | none => exact ⟨Int.le_refl _, hm⟩
  | some x => exact h x (List.mem_of_getElem? e)
theorem getD_bi {b : Int} {r : Row} (h : bnd b r) (hb : 0 ≤ b) (k : Nat) : bi b (r.getD k 0) := by
  rw [List.getD_eq_getElem?_getD]
  cases e : r[k]? with
  | none => exact ⟨by show -b ≤ 0; omega, hb⟩
  | some x => exact h x (List.mem_of_getElem? e)
theorem ev_putAt {P : List Addr} {ss : List Sl} {cs cs1 : List (List D)} {tr1 tr2 tk1 tk2 tx : TE} {row : Row} {k : Nat} {x : Int} (hk : k < row.length) (hz : row.length ≤ 1000) (h1 : Ev K P ss cs tr1 (.dat (.tup (row.map D.int))) cs) (k1 : Ev K P ss cs tk1 (.dat (.int (k : Nat))) cs) (hx : Ev K P ss cs tx (.dat (.int x)) cs1)
    (h2 : Ev K P ss cs1 tr2 (.dat (.tup (row.map D.int))) cs1) (k2 : Ev K P ss cs1 tk2 (.dat (.int (k : Nat))) cs1) :
    Ev K P ss cs (tOp (addA K) (tOp (addA K) (tSl (rSl3 K) tr1 tNoPart (tPart tk1)) (tTup (tCons tx tNil))) (tSl (rSl3 K) tr2 (tPart (tOp (addA K) tk2 (tC (.int 1)))) tNoPart)) (.dat (rowD (putAt row k x))) cs1 := by
  have hml : (row.map D.int).length = row.length := List.length_map _
  have e3 : rowD (putAt row k x) = .tup ((row.map D.int).take k ++ [D.int x] ++ (row.map D.int).drop (k + 1)) := by
    show D.tup (List.map D.int _) = _
    unfold putAt
    rw [List.map_append, List.map_append, List.map_take, List.map_drop]
    rfl
  rw [e3]
  refine ev_op (ev_op (ev_parT (ev_sl h1 eo_none (eo_some k1) sd_T) (congrArg D.tup (cutTake (by rw [hml]; omega)))) (ev_tup (ds := [.int x]) (ea_cons hx ea_nil) (by simp)) (od_addT ?_)) (ev_parT (ev_sl h2 (eo_some (ev_op k2 (ev_int (i := 1)) od_addI)) eo_none sd_T) (congrArg D.tup (cut_suf1 (by rw [hml]; exact hk)))) (od_addT ?_)
  · simp only [List.length_take, List.length_map, List.length_cons, List.length_nil]
    omega
  · simp only [List.length_append, List.length_take, List.length_drop, List.length_map, List.length_cons, List.length_nil]
    omega
end SP
namespace T3
open PySem L2 DV PM SP LK NV
section
variable {P : Program} {w : World} {K : PySem.W.Frag} {mg : Str → Option Value} {base : Heap}
end
end T3
/-! GW: defs that are called where no repr is under way. -/
namespace GW
open PySem PySem.Spec PyProof.Rows L2
theorem guards_deeper (A : Around) (e : Env) (h : A.guards = some []) : (A.deeper e).guards = some [] := by
  obtain ⟨hd, d, fr, gs, u⟩ := A
  first
    | exact h
    | (simp [Around.deeper, pushGuards, Code.guards, Code.isGuard] at h ⊢; exact h)
structure FnG (P : Program) (w : World) (K : PySem.W.Frag) (mg : Str → Option Value) (base : Heap) (CX : CXT) (k : Nat) (f : Addr) (fd : FuncData) (ps : List Str) (sp : Sp) : Prop where
  len : ∀ vs H Q E, sp vs H Q E → vs.length = ps.length
  run : ∀ (A : Around) (outer : List Env) (s : Shared) (H : Hp) (args : Args) (us : List Value) (vs : List V) (Q : VK) (E : XK), Room k A → A.guards = some [] → Env0 P w K mg base A outer s H → BindsTo s fd args (ps.zip us) → Vals vs us → sp vs H Q E →
    codeAny (model P w) A (.call (.ref f) args) (CR CX outer P w H s Q E) s
theorem fn_of {CX : CXT} {P : Program} {w : World} {K : PySem.W.Frag} {mg : Str → Option Value} {base : Heap} {k : Nat} {f : Addr} {name qual : Str} {params : Arguments} {body : List Stmt} {scope : Scope} {dV kV doc pm cdv ct oc : Value} {an od : Option Addr}
    {osl : Array (Option Value)} {N ps : List Str} {sp : Sp} (lk : K.lookup f = some ⟨oc, od, .func (PySem.W.fnOf name qual params body scope dV kV doc pm an cdv ct), osl⟩) (hcd : PySem.W.codeIn K cdv qual = true) (S : FnScope N ps scope)
    (len : ∀ vs H Q E, sp vs H Q E → vs.length = ps.length)
    (hbody : ∀ (A : Around) (outer : List Env) (s : Shared) (H : Hp) (vs : List V) (Q : VK) (E : XK), Room k (A.deeper (envOfC qual scope s.heap.objs.size f cdv)) → (A.deeper (envOfC qual scope s.heap.objs.size f cdv)).guards = some [] → sp vs H Q E →
      ∃ t, PSs (cxOf CX P w K mg base N qual scope f cdv A outer s H E) body t ∧ t { nx := fun _ H' => Q .non H', rt := Q } (start N vs) H) :
    FnG P w K mg base CX (k + 1) f (PySem.W.fnOf name qual params body scope dV kV doc pm an cdv ct) ps sp := by
  refine ⟨len, fun A outer s H args us vs Q E hr hG e0 hb r hsp => ?_⟩
  have hl := len _ _ _ _ hsp
  have KX : K.In s.heap := e0.mod.kin.keeps fun b o e => (e0.bs b o e).1
  have lim : s.heap.NoLimit := e0.mod.nolimit.keeps fun b o e => (e0.bs b o e).1
  have hkind : ∀ y ∈ ps.zip us, scope.names.lookup y.1 = some .local ∨ (scope.names.lookup y.1 = some .cell ∧ ((cellsFrom (s.heap.objs.size + 1) scope.names []).lookup y.1).isSome = true) := fun ⟨n, v⟩ hy => by
    rcases S.par n (List.of_mem_zip hy).1 with q | q
    · exact .inl q
    · exact .inr ⟨q, PySem.W.cellsFrom_some _ _ _ (.inl q)⟩
  refine codeAny_call_function hr.depth (KX _ _ lk) rfl S.co S.gen rfl (PySem.W.codeRec_of KX hcd) (hb _ _ _ _ ?_)
  refine wpAny_newFunctionEnv_cells S.kind hkind fun env he s1 x => ?_
  subst he
  refine ⟨lim.keeps x.toInCall.keep, codeAny_func ?_⟩
  obtain ⟨t, ht, hq⟩ := hbody A outer s H vs Q E (hr.deeper _) (guards_deeper _ _ hG) hsp
  have I : Inv (cxOf CX P w K mg base N qual scope f cdv A outer s H E) [] (start N vs) H s1 := inv_start S hr.hd e0 hl r x
  refine wpAny_mono (ht.run [] s1 (start N vs) H _ I hq) (fun fl s' hs => ?_) fun e s' hs => hs
  have fin : ∀ {σ' : L2.St} {H' : Hp} {v : V} {u : Value}, Inv (cxOf CX P w K mg base N qual scope f cdv A outer s H E) [] σ' H' s' → RelV v u → Q v H' → CE outer P w H s Q u s' :=
    fun {σ' H' v u} J rv q => ⟨v, H', J.os, J.bare, J.base, J.hok, rv, q⟩
  cases fl with
  | ret u =>
    obtain ⟨v, σ', H', J, rv, q⟩ := hs
    exact fin J rv q
  | next =>
    obtain ⟨σ', H', J, q⟩ := hs
    exact fin (v := V.non) (u := Value.none) J rfl q
  | brk =>
    obtain ⟨_, _, _, q⟩ := hs
    exact False.elim q
  | cont =>
    obtain ⟨_, _, _, q⟩ := hs
    exact False.elim q
theorem ok {P : Program} {w : World} {K : PySem.W.Frag} {mg : Str → Option Value} {base : Heap} {x qual : Str} {st : Stmt} {f : Addr} {fd : FuncData} {N ps : List Str} {k : Nat} {sp : Sp} (F : Fun K x qual st f fd) (S : FnScope N ps (defScope st)) (len : ∀ vs H Q E, sp vs H Q E → vs.length = ps.length)
    (hbody : ∀ (cdv : Value) (A : Around) (outer : List Env) (s : Shared) (H : Hp) (vs : List V) (Q : VK) (E : XK), Room k (A.deeper (envOfC qual (defScope st) s.heap.objs.size f cdv)) → (A.deeper (envOfC qual (defScope st) s.heap.objs.size f cdv)).guards = some [] → sp vs H Q E →
      ∃ t, PSs (cxOf CX0 P w K mg base N qual (defScope st) f cdv A outer s H E).nox (defBody st) t ∧ t { nx := fun _ H' => Q .non H', rt := Q } (start N vs) H) : FnG P w K mg base CX0 (k + 1) f fd ps sp := by
  obtain ⟨oc, od, kV, doc, pm, an, cdv, ct, osl, rfl, lk, hcd⟩ := F.ex
  refine fn_of lk hcd S len fun A outer s H vs Q E hr hG hsp => ?_
  obtain ⟨t, h, q⟩ := hbody cdv A outer s H vs Q E hr hG hsp
  exact ⟨t, h.nox, q⟩
section
variable {X : Cx} {CX : CXT} {k : Nat} {f C : Addr} {fd : FuncData} {ps : List Str} {sp : Sp} {dvs : List V} {ds : List Value} {E : XK} {x m : Str} {p pos apos : Pos} {e o : Expr} {es : List Expr} {ta : TE} {t : TA}
theorem run_fn {pins : List (Addr × Obj)} {σ : L2.St} {H : Hp} {s : Shared} {Q : VK} {us : List Value} {vs : List V} (F : FnG X.prog X.w X.K X.mg X.base CX k f fd ps sp) (hr : Room k X.A) (hG : X.A.guards = some []) (hb : Binds X.K fd ps ds) (hd : Vals dvs ds) (hx : Passes CX X E)
    (I : Inv X pins σ H s) (r : Vals vs us) (h : sp (vs ++ dvs) H Q E) : wpAny (model X.prog X.w) X.A (call (.ref f) us) (EP X pins σ Q) X.xe s := by
  have r2 : Vals (vs ++ dvs) (us ++ ds) := r.append hd
  have hl : (us ++ ds).length = ps.length := by rw [← r2.length]; exact F.len _ _ _ _ h
  refine wpAny_call (codeAny_mono (F.run X.A X.stack s H ⟨us, []⟩ (us ++ ds) (vs ++ dvs) Q E hr hG I.env0 (hb s us I.kIn hl) r2 h) fun r s' hq => ?_)
  cases r with
  | error e => exact hx pins σ H s e s' I hq
  | ok fl =>
    cases fl with
    | ret u => exact I.after hq
    | next => exact False.elim hq
    | brk => exact False.elim hq
    | cont => exact False.elim hq
theorem pe_call (F : FnG X.prog X.w X.K X.mg X.base CX k f fd ps sp) (hr : Room k X.A) (hG : X.A.guards = some []) (hg : Gl X x) (hm : X.mg x = some (.ref f)) (hk : PySem.W.keepIn X.K (.ref f) = true) (hb : Binds X.K fd ps ds) (hd : Vals dvs ds) (hx : Passes CX X E)
    (ha : PA X (e :: es) t) (hdb : (x == ("__debug__" : Str)) = false := by decide) (he : starEach (e :: es) X.env = (false, eval e X.env) :: starEach es X.env := by rfl) (hpl : (backTo pos (starEach es X.env)).any (·.1) = false := by rfl) :
    PE X (.Call (.Name x p) (e :: es) [] pos) (tCall sp dvs E t) := by
  refine ⟨fun pins s σ H Q I h => ?_⟩
  refine wpAny_Call_Name_kw (ld_glob I hg hm ?_ hdb)
  refine PySem.W.callWith_K (h₀ := X.base) I.ok.mod.kin hk (thn (ha.run pos pins s σ H _ I h) fun us s1 ⟨vs, H1, I1, r, q⟩ => ⟨I1.kIn, ?_⟩) he hpl
  exact run_fn F hr hG hb hd hx I1 r q
end
structure DefG (P : Program) (w : World) (K : PySem.W.Frag) (mg : Str → Option Value) (base : Heap) (k : Nat) (x : Str) (f : Addr) (fd : FuncData) (ps : List Str) (sp : Sp) : Prop where
  ok : FnG P w K mg base CX0 k f fd ps sp
  g : mg x = some (.ref f)
  kp : PySem.W.keepIn K (.ref f) = true
  b : Binds K fd ps []
theorem FnG.mono {P : Program} {w : World} {K : PySem.W.Frag} {mg : Str → Option Value} {base : Heap} {CX : CXT} {j k : Nat} {f : Addr} {fd : FuncData} {ps : List Str} {sp : Sp} (F : FnG P w K mg base CX j f fd ps sp) (h : j ≤ k) : FnG P w K mg base CX k f fd ps sp := ⟨F.len, fun A outer s H args us vs Q E hr => F.run A outer s H args us vs Q E (hr.mono h)⟩
theorem pe_def {X : Cx} {k j : Nat} {x : Str} {f : Addr} {fd : FuncData} {ps : List Str} {sp : Sp} {p pos : Pos} {e : Expr} {es : List Expr} {t : TA} (d : DefG X.prog X.w X.K X.mg X.base k x f fd ps sp) (hr : Room j X.A) (hG : X.A.guards = some []) (hk : k ≤ j) (hg : Gl X x) (ha : PA X (e :: es) t)
    (hdb : (x == ("__debug__" : Str)) = false := by decide) (he : starEach (e :: es) X.env = (false, eval e X.env) :: starEach es X.env := by rfl) (hpl : (backTo pos (starEach es X.env)).any (·.1) = false := by rfl) :
    PE X (.Call (.Name x p) (e :: es) [] pos) (tCall sp [] E0 t) := pe_call d.ok (hr.mono hk) hG hg d.g d.kp d.b .nil pass0 ha hdb he hpl
end GW
/-! K4: how long a shown value is; rows and values near them. -/
namespace SP
open PySem L2 DV PM IX
theorem slen (a b : Str) : (a ++ b).length = a.length + b.length := Str.length_append a b
theorem textFrom_le : ∀ (ts : List Str) (k : Nat) (acc : Str), (textFrom k acc ts).length ≤ acc.length + piled ts
  | [], k, acc => Nat.le_add_right _ _
  | t :: ts, k, acc => by
    have ih := textFrom_le ts (k + 1) (acc ++ (if k > 0 then ", " else "" : String) ++ t)
    have e : (((if k > 0 then ", " else "" : String) : Str)).length ≤ 2 := by split <;> decide
    rw [slen, slen] at ih
    show (textFrom (k + 1) _ ts).length ≤ _
    rw [piled_cons]
    omega
theorem listText_le (ts : List Str) : (listText ts).length ≤ piled ts + 2 := by
  unfold listText
  have h := textFrom_le ts 0 "["
  have e1 : (("[" : String) : Str).length = 1 := rfl
  have e2 : (("]" : String) : Str).length = 1 := rfl
  rw [slen]
  omega
theorem join_le2 (ts : List Str) : (Str.join ", " ts).length ≤ piled ts := by
  cases ts with
  | nil => exact Nat.le_refl 0
  | cons t ts => have := join_length_add (t :: ts) (by simp); omega
theorem tupleText_le (ts : List Str) : (tupleText ts).length ≤ piled ts + 3 := by
  unfold tupleText
  have h := join_le2 ts
  have e1 : (("(" : String) : Str).length = 1 := rfl
  have e2 : (((if ts.length == 1 then ",)" else ")" : String) : Str)).length ≤ 2 := by split <;> decide
  rw [slen, slen]
  omega
theorem dictText_le (ts : List Str) : (dictText ts).length ≤ piled ts + 2 := by
  unfold dictText
  have h := join_le2 ts
  have e1 : (("{" : String) : Str).length = 1 := rfl
  have e2 : (("}" : String) : Str).length = 1 := rfl
  rw [slen, slen]
  omega
theorem piled_le {ts : List Str} {n : Nat} (h : ∀ t ∈ ts, t.length ≤ n) : piled ts ≤ (n + 2) * ts.length := by
  induction ts with
  | nil => exact Nat.zero_le _
  | cons t ts ih =>
    rw [piled_cons, List.length_cons, Nat.mul_add]
    have := h t (by simp)
    have := ih fun u hu => h u (List.mem_cons_of_mem _ hu)
    omega
/-- small: shown in n signs, k deep -/
structure Sm (n k : Nat) (d : D) : Prop where
  ok : D.okR d = true
  sh : (D.pyR d).showable = true
  dp : (D.pyR d).depth ≤ k
  ln : (D.pyR d).shown.length ≤ n
theorem Sm.le {n n' k k' : Nat} {d : D} (h : Sm n k d) (a : n ≤ n') (b : k ≤ k') : Sm n' k' d := ⟨h.ok, h.sh, Nat.le_trans h.dp b, Nat.le_trans h.ln a⟩
theorem Sm.sho {n k : Nat} {d : D} (h : Sm n k d) (hn : n ≤ 1000000) (hk : k ≤ 60) (hd : (D.pyR d).hasDict = true → D.noL d = true) : Sho d := ⟨h.ok, h.sh, Nat.le_trans h.dp hk, hd, Nat.le_trans h.ln hn⟩
theorem sm_non : Sm 40 0 .non := ⟨rfl, rfl, Nat.le_refl _, by decide +kernel⟩
theorem sm_bl (b : Bool) : Sm 40 0 (.bl b) := ⟨rfl, rfl, Nat.le_refl _, by cases b <;> decide +kernel⟩
theorem sm_int {i : Int} (h : i.natAbs ≤ 10 ^ 30) : Sm 40 0 (.int i) := by
  have h2 : i.natAbs.log2 < 1920 := by
    by_cases hz : i.natAbs = 0
    · rw [hz]; decide
    · refine (Nat.log2_lt hz).mpr ?_
      have : (10 : Nat) ^ 30 < 2 ^ 1920 := by decide
      omega
  refine ⟨rfl, decide_eq_true h2, Nat.le_refl _, ?_⟩
  show ((toString i : String) : Str).length ≤ 40
  have hp : (10 : Nat) ^ 30 < 10 ^ 31 := by decide
  have hp' : (10 : Int) ^ 31 = ((10 ^ 31 : Nat) : Int) := by norm_cast
  by_cases hn : i < 0
  · rw [PyProof.Rows.len_text_neg hn]
    have := PyProof.Rows.toString_length_le (v := 0 - i) (k := 31) (by omega) (by decide) (by rw [hp']; omega)
    omega
  · have := PyProof.Rows.toString_length_le (v := i) (k := 31) (by omega) (by decide) (by rw [hp']; omega)
    omega
theorem sm_all : ∀ {ds : List D} {n k : Nat}, (∀ d ∈ ds, Sm n k d) → D.okRA ds = true ∧ PyData.showableAll (D.pyRA ds) = true ∧ PyData.depthAll (D.pyRA ds) ≤ k ∧ (∀ t ∈ PyData.shownAll (D.pyRA ds), t.length ≤ n) ∧ (PyData.shownAll (D.pyRA ds)).length = ds.length
  | [], _, _, _ => ⟨rfl, rfl, Nat.zero_le _, (fun _ h => by cases h), rfl⟩
  | d :: ds, n, k, h => by
    have h1 := h d (by simp)
    obtain ⟨a, b, c, e, f⟩ := sm_all (ds := ds) fun x hx => h x (List.mem_cons_of_mem _ hx)
    refine ⟨?_, ?_, ?_, ?_, ?_⟩
    · show (D.okR d && D.okRA ds) = true
      rw [h1.ok, a]; rfl
    · show ((D.pyR d).showable && PyData.showableAll (D.pyRA ds)) = true
      rw [h1.sh, b]; rfl
    · show max ((D.pyR d).depth) (PyData.depthAll (D.pyRA ds)) ≤ k
      exact Nat.max_le.mpr ⟨h1.dp, c⟩
    · intro t ht
      rcases List.mem_cons.mp ht with z | z
      · rw [z]; exact h1.ln
      · exact e t z
    · show (PyData.shownAll (D.pyRA ds)).length + 1 = ds.length + 1
      rw [f]
theorem sm_tup {ds : List D} {n k m : Nat} (h : ∀ d ∈ ds, Sm n k d) (hm : ds.length ≤ m) : Sm ((n + 2) * m + 3) (k + 1) (.tup ds) := by
  obtain ⟨a, b, c, e, f⟩ := sm_all h
  refine ⟨a, b, Nat.succ_le_succ c, ?_⟩
  show (tupleText (PyData.shownAll (D.pyRA ds))).length ≤ _
  have h1 := tupleText_le (PyData.shownAll (D.pyRA ds))
  have h2 := piled_le e
  rw [f] at h2
  have h3 : (n + 2) * ds.length ≤ (n + 2) * m := Nat.mul_le_mul_left _ hm
  omega
theorem sm_nt {ds : List D} {n k m : Nat} (h : ∀ d ∈ ds, Sm n k d) (hm : ds.length ≤ m) : Sm ((n + 2) * m + 3) (k + 1) (.nt ds) := by
  obtain ⟨a, b, c, d⟩ := sm_tup h hm
  exact ⟨a, b, c, d⟩
theorem sm_lst {ds : List D} {n k m : Nat} (h : ∀ d ∈ ds, Sm n k d) (hm : ds.length ≤ m) : Sm ((n + 2) * m + 3) (k + 1) (.lst ds) := by
  obtain ⟨a, b, c, e, f⟩ := sm_all h
  refine ⟨a, b, Nat.succ_le_succ c, ?_⟩
  show (listText (PyData.shownAll (D.pyRA ds))).length ≤ _
  have h1 := listText_le (PyData.shownAll (D.pyRA ds))
  have h2 := piled_le e
  rw [f] at h2
  have h3 : (n + 2) * ds.length ≤ (n + 2) * m := Nat.mul_le_mul_left _ hm
  omega
theorem sm_dic {ks : List (Key × D)} {m : Nat} (h : ∀ p ∈ ks, (∃ i : Int, p.1 = Sum.inl i ∧ i.natAbs ≤ 10 ^ 30) ∧ Sm 40 0 p.2) (hm : ks.length ≤ m) : Sm (84 * m + 3) 1 (.dic ks) := by
  have gen : ∀ {ks : List (Key × D)}, (∀ p ∈ ks, (∃ i : Int, p.1 = Sum.inl i ∧ i.natAbs ≤ 10 ^ 30) ∧ Sm 40 0 p.2) → D.okRK ks = true ∧ PyData.showableKv (D.pyRK ks) = true ∧ PyData.depthKv (D.pyRK ks) = 0 ∧ (∀ t ∈ PyData.shownKv (D.pyRK ks), t.length ≤ 82) ∧ (PyData.shownKv (D.pyRK ks)).length = ks.length := by
    intro ks
    induction ks with
    | nil => intro _; exact ⟨rfl, rfl, rfl, (fun _ h => by cases h), rfl⟩
    | cons p ks ih =>
      intro h
      obtain ⟨⟨i, hi, hb⟩, h2⟩ := h p (by simp)
      obtain ⟨a, b, c, e, f⟩ := ih fun x hx => h x (List.mem_cons_of_mem _ hx)
      obtain ⟨q, d⟩ := p
      have hi' : q = Sum.inl i := hi
      subst hi'
      have h1 := sm_int hb
      refine ⟨?_, ?_, ?_, ?_, ?_⟩
      · show (D.okR d && D.okRK ks) = true
        rw [h2.ok, a]; rfl
      · show ((PyData.int i).showable && (D.pyR d).showable && PyData.showableKv (D.pyRK ks)) = true
        rw [show (PyData.int i).showable = true from h1.sh, h2.sh, b]; rfl
      · show max (max (PyData.int i).depth (D.pyR d).depth) (PyData.depthKv (D.pyRK ks)) = 0
        have z1 : (PyData.int i).depth = 0 := rfl
        have z2 : (D.pyR d).depth = 0 := Nat.le_zero.mp h2.dp
        rw [z1, z2, c]; rfl
      · intro t ht
        rcases List.mem_cons.mp ht with z | z
        · rw [z, slen, slen]
          have e1 : (keyPy (Sum.inl i)).shown.length ≤ 40 := h1.ln
          have e2 : (D.pyR d).shown.length ≤ 40 := h2.ln
          have e3 : ((": " : String) : Str).length = 2 := rfl
          omega
        · exact e t z
      · show (PyData.shownKv (D.pyRK ks)).length + 1 = ks.length + 1
        rw [f]
  obtain ⟨a, b, c, e, f⟩ := gen h
  refine ⟨a, b, ?_, ?_⟩
  · show PyData.depthKv (D.pyRK ks) + 1 ≤ 1
    rw [c]; exact Nat.le_refl _
  · show (dictText (PyData.shownKv (D.pyRK ks))).length ≤ _
    have h1 := dictText_le (PyData.shownKv (D.pyRK ks))
    have h2 := piled_le e
    rw [f] at h2
    have h3 : 84 * ks.length ≤ 84 * m := Nat.mul_le_mul_left _ hm
    omega
theorem sm_str {x : Str} (hl : x.length ≤ 8) (ho : PyData.strOk x = true) : Sm 100 0 (.str x) := by
  refine ⟨rfl, rfl, Nat.le_refl _, ?_⟩
  have := StrLaws.reprText_len x fun c hc => by
    unfold PyData.strOk at ho
    rw [all_list, List.all_eq_true] at ho
    have := ho c hc
    simp at this
    have e : (16 : Nat) ^ 8 = 4294967296 := by decide
    omega
  show (reprText x).length ≤ 100
  omega
/-! ### no lists, no dicts -/
theorem hd_all : ∀ {ds : List D}, (∀ d ∈ ds, (D.pyR d).hasDict = false) → PyData.hasDictAll (D.pyRA ds) = false
  | [], _ => rfl
  | d :: ds, h => by
    show ((D.pyR d).hasDict || PyData.hasDictAll (D.pyRA ds)) = false
    rw [h d (by simp), hd_all fun x hx => h x (List.mem_cons_of_mem _ hx)]; rfl
theorem nl_all : ∀ {ds : List D}, (∀ d ∈ ds, D.noL d = true) → D.noLA ds = true
  | [], _ => rfl
  | d :: ds, h => by
    show (D.noL d && D.noLA ds) = true
    rw [h d (by simp), nl_all fun x hx => h x (List.mem_cons_of_mem _ hx)]; rfl
end SP
/-! R9a: what a turn of the law wants: a list hidden again, a batch shown, == of rows of tables. -/
namespace SP
open PySem L2 DV PM LK NV QD RG
variable {K : PySem.W.Frag}
/-! data that hold no list -/
mutual
def nlD : D → Bool
  | .non => true
  | .bl _ => true
  | .int _ => true
  | .str _ => true
  | .tup ds => nlDA ds
  | .dic ks => nlDK ks
  | .lst _ => false
  | .obj _ _ => false
  | .fro _ => false
  | .nt _ => false
def nlDA : List D → Bool
  | [] => true
  | d :: ds => nlD d && nlDA ds
def nlDK : List (Key × D) → Bool
  | [] => true
  | (_, d) :: ds => nlD d && nlDK ds
end
mutual
theorem rp_offL {B : Hp} {a : Addr} {zs : List V} (hS : B a = some (.lst zs)) : ∀ {v : V} {d : D}, Rp K B v d → nlD d = true → Rp K (off B [a]) v d
  | _, _, .non, _ => .non
  | _, _, .bl b, _ => .bl b
  | _, _, .int i, _ => .int i
  | _, _, .str x, _ => .str x
  | _, _, .tup (a := b) h r, p => by
    refine .tup ?_ (rpA_offL hS r (by simpa [nlD] using p))
    rcases h with h | ⟨u, h⟩
    · exact .inl (by unfold off; rw [if_neg fun z => by rw [List.mem_singleton.mp z, hS] at h; cases h]; exact h)
    · exact .inr ⟨u, by unfold off; rw [if_neg fun z => by rw [List.mem_singleton.mp z, hS] at h; cases h]; exact h⟩
  | _, _, .dic (a := b) h r, p => by
    refine .dic ?_ (rpK_offL hS r (by simpa [nlD] using p))
    unfold off
    rw [if_neg fun z => by rw [List.mem_singleton.mp z, hS] at h; cases h]
    exact h
  | _, _, .lst _ _, p => by simp [nlD] at p
  | _, _, .obj _ _, p => by simp [nlD] at p
  | _, _, .fro _ _, p => by simp [nlD] at p
  | _, _, .nt _ _ _, p => by simp [nlD] at p
theorem rpA_offL {B : Hp} {a : Addr} {zs : List V} (hS : B a = some (.lst zs)) : ∀ {vs : List V} {ds : List D}, RpA K B vs ds → nlDA ds = true → RpA K (off B [a]) vs ds
  | _, _, .nil, _ => .nil
  | _, _, .cons h r, p => by
    have p' := p
    simp [nlDA] at p'
    exact .cons (rp_offL hS h p'.1) (rpA_offL hS r p'.2)
theorem rpK_offL {B : Hp} {a : Addr} {zs : List V} (hS : B a = some (.lst zs)) : ∀ {vs : List (Key × V)} {ds : List (Key × D)}, RpK K B vs ds → nlDK ds = true → RpK K (off B [a]) vs ds
  | _, _, .nil, _ => .nil
  | _, _, .cons h r, p => by
    have p' := p
    simp [nlDK] at p'
    exact .cons (rp_offL hS h p'.1) (rpK_offL hS r p'.2)
end
theorem nl_row (r : Row) : nlD (rowD r) = true := by
  show nlDA (r.map D.int) = true
  induction r with
  | nil => rfl
  | cons a r ih => exact ih
theorem nl_in (l : List (Int × Row)) : nlD (inD l) = true := by
  show nlDK (l.map fun p => ((Sum.inl p.1 : Key), rowD p.2)) = true
  induction l with
  | nil => rfl
  | cons p l ih =>
    show (nlD (rowD p.2) && nlDK _) = true
    rw [nl_row, ih]; rfl
theorem nl_tab (R : Rs) : nlD (tabD R) = true := by
  show nlDK (R.map fun t => ((Sum.inr t.1 : Key), inD t.2)) = true
  induction R with
  | nil => rfl
  | cons t R ih =>
    show (nlD (inD t.2) && nlDK _) = true
    rw [nl_in, ih]; rfl
theorem nl_made (x : Option Nat × Rs) : nlD (madeD x) = true := by
  obtain ⟨o, R⟩ := x
  cases o with
  | none => exact nl_tab R
  | some i => rfl
/-- a step of other cells than the lists' -/
theorem okk_stepP {P PS : List Addr} {ss : List Sl} {cs : List (List D)} {B H B' H' : Hp} {σ : L2.St} (o : Okk K P ss cs B H σ) (s : Stp PS B H B' H') (e : Ex B' H') (hP : ∀ p ∈ P, p ∉ PS) : Okk K P ss cs B' H' σ :=
  ⟨e, o.sl.mono s.ex, o.mu.keep s.ex (fun p hp => by
    obtain ⟨u, h1, _⟩ := o.mu.mem hp
    rw [h1, s.fr p u (hP p hp) h1]) fun p hp => by
    obtain ⟨u, h1, h2⟩ := o.mu.mem hp
    rw [s.nb p u h1, h2]⟩
/-! a batch shown -/
theorem sm_row {b : Int} {r : Row} {n : Nat} (h : bnd b r) (hb : b ≤ 1000000) (hl : r.length ≤ n) : Sm (42 * n + 3) 1 (rowD r) := by
  refine sm_tup (n := 40) (k := 0) (fun d hd => ?_) (by rw [List.length_map]; exact hl)
  obtain ⟨i, hi, rfl⟩ := List.mem_map.mp hd
  have h1 := h i hi
  have h2 := h1.1
  have h3 := h1.2
  exact sm_int (by omega)
theorem nd_rowD (r : Row) : (D.pyR (rowD r)).hasDict = false := by
  show PyData.hasDictAll (D.pyRA (r.map D.int)) = false
  exact hd_all fun d hd => by obtain ⟨i, _, rfl⟩ := List.mem_map.mp hd; rfl
theorem sm_ch {T : List Tab} {c : Ch} {b : Int} (hT : schOk T) (hc : chOk T c) (h : chB b c) (hb : b ≤ 1000000) : Sm 2000 2 (encCh c) ∧ (D.pyR (encCh c)).hasDict = false := by
  obtain ⟨cols, h0, ho, hn, _⟩ := hc
  have ht := hT.1.2 (c.tab, cols) (mem_lookup h0)
  have hc4 : cols.length ≤ 4 := ht.2.1
  have hnm : Sm 100 0 (.str c.tab) := sm_str ht.1.2.2.1 ht.1.2.2.2
  have w : ∀ x : Str, x ∈ (["insert", "delete", "set"] : List Str) → Sm 100 0 (.str x) := fun x hx => by
    simp only [List.mem_cons, List.not_mem_nil, or_false] at hx
    rcases hx with rfl | rfl | rfl
    · exact sm_str (by decide +kernel) (by decide +kernel)
    · exact sm_str (by decide +kernel) (by decide +kernel)
    · exact sm_str (by decide +kernel) (by decide +kernel)
  have row : ∀ r, r.length = cols.length + 1 → bnd b r → Sm 213 1 (rowD r) := fun r hl hbb => sm_row (n := 5) hbb hb (by omega)
  have up : ∀ {d : D}, Sm 100 0 d → Sm 213 1 d := fun s => s.le (by decide) (by decide)
  cases c with
  | ins n r =>
    refine ⟨(sm_tup (n := 213) (k := 1) (m := 3) (fun d hd => ?_) (Nat.le_refl _)).le (by decide) (Nat.le_refl _), hd_all fun d hd => ?_⟩ <;>
    · simp only [List.mem_cons, List.not_mem_nil, or_false] at hd
      rcases hd with rfl | rfl | rfl
      all_goals first | exact up hnm | exact up (w _ (by simp)) | exact row r (hn r rfl) (h.2 r rfl) | exact nd_rowD _ | rfl
  | del n r =>
    refine ⟨(sm_tup (n := 213) (k := 1) (m := 3) (fun d hd => ?_) (Nat.le_refl _)).le (by decide) (Nat.le_refl _), hd_all fun d hd => ?_⟩ <;>
    · simp only [List.mem_cons, List.not_mem_nil, or_false] at hd
      rcases hd with rfl | rfl | rfl
      all_goals first | exact up hnm | exact up (w _ (by simp)) | exact row r (ho r rfl) (h.1 r rfl) | exact nd_rowD _ | rfl
  | set n o r =>
    refine ⟨(sm_tup (n := 213) (k := 1) (m := 4) (fun d hd => ?_) (Nat.le_refl _)).le (by decide) (Nat.le_refl _), hd_all fun d hd => ?_⟩ <;>
    · simp only [List.mem_cons, List.not_mem_nil, or_false] at hd
      rcases hd with rfl | rfl | rfl | rfl
      all_goals first | exact up hnm | exact up (w _ (by simp)) | exact row o (ho o rfl) (h.1 o rfl) | exact row r (hn r rfl) (h.2 r rfl) | exact nd_rowD _ | rfl
theorem sho_batch {T : List Tab} {chs : List Ch} {b : Int} (hT : schOk T) (hc : ∀ c ∈ chs, chOk T c) (h : ∀ c ∈ chs, chB b c) (hb : b ≤ 1000000) (hl : chs.length ≤ 100) : Sho (.lst (chs.map encCh)) := by
  have hnd : (D.pyR (.lst (chs.map encCh))).hasDict = false := hd_all fun d hd => by
    obtain ⟨c, hcm, rfl⟩ := List.mem_map.mp hd
    exact (sm_ch hT (hc c hcm) (h c hcm) hb).2
  refine (sm_lst (n := 2000) (k := 2) (m := 100) (fun d hd => ?_) (by rw [List.length_map]; exact hl)).sho (by decide) (by decide) (fun z => by rw [hnd] at z; cases z)
  obtain ⟨c, hcm, rfl⟩ := List.mem_map.mp hd
  exact (sm_ch hT (hc c hcm) (h c hcm) hb).1
theorem sho_int {i : Nat} (h : i ≤ 1000000) : Sho (.int (i : Nat)) := (sm_int (i := (i : Int)) (by omega)).sho (by decide) (by decide) (fun z => by cases z)
theorem sho_non : Sho .non := sm_non.sho (by decide) (by decide) (fun z => by cases z)
theorem sho_opt {o : Option Nat} (h : ∀ i, o = some i → i ≤ 1000000) : Sho (optN o) := by
  cases o with
  | none => exact sho_non
  | some i => exact sho_int (h i rfl)
/-! eqTab turned round -/
theorem mem_lookI {l : List (Int × Row)} {k : Int} {r : Row} (h : l.lookup k = some r) : (k, r) ∈ l := by
  induction l with
  | nil => cases h
  | cons t l ih =>
    obtain ⟨a, c⟩ := t
    by_cases e : k = a
    · subst e
      have : c = r := by simpa [List.lookup] using h
      subst this
      exact List.mem_cons_self
    · have e' : (k == a) = false := by simpa using e
      simp only [List.lookup, e'] at h
      exact List.mem_cons_of_mem _ (ih h)
theorem len_sub : ∀ {a b : List Int}, a.Nodup → (∀ x ∈ a, x ∈ b) → a.length ≤ b.length
  | [], _, _, _ => Nat.zero_le _
  | x :: a, b, n, h => by
    obtain ⟨hx, n'⟩ := List.nodup_cons.mp n
    have := len_sub (b := b.erase x) n' fun y hy => (List.mem_erase_of_ne (fun z : y = x => hx (by rw [← z]; exact hy))).mpr (h y (List.mem_cons_of_mem _ hy))
    have hm := h x List.mem_cons_self
    rw [List.length_erase_of_mem hm] at this
    have := List.length_pos_of_mem hm
    rw [List.length_cons]
    omega
theorem eqIn_look {l l' : List (Int × Row)} (h : eqIn l l' = true) (nl : (l.map (·.1)).Nodup) (nl' : (l'.map (·.1)).Nodup) : ∀ p ∈ l', l.lookup p.1 = some p.2 := by
  unfold eqIn at h
  rw [Bool.and_eq_true, beq_iff_eq, List.all_eq_true] at h
  obtain ⟨hl, ha⟩ := h
  have hm : ∀ x ∈ l.map (·.1), x ∈ l'.map (·.1) := fun x hx => by
    obtain ⟨p, hp, rfl⟩ := List.mem_map.mp hx
    have := of_decide_eq_true (ha p hp)
    exact List.mem_map.mpr ⟨(p.1, p.2), mem_lookI this, rfl⟩
  have sub : ∀ x ∈ l'.map (·.1), x ∈ l.map (·.1) := by
    intro x hx
    by_cases z : x ∈ l.map (·.1)
    · exact z
    · have := len_sub (a := x :: l.map (·.1)) (b := l'.map (·.1)) (List.nodup_cons.mpr ⟨z, nl⟩) fun y hy => by
        rcases List.mem_cons.mp hy with rfl | hy
        · exact hx
        · exact hm y hy
      rw [List.length_cons, List.length_map, List.length_map] at this
      omega
  intro p hp
  obtain ⟨q, hq, e⟩ := List.mem_map.mp (sub p.1 (List.mem_map.mpr ⟨p, hp, rfl⟩))
  have h1 := of_decide_eq_true (ha q hq)
  rw [e, look_of nl' hp] at h1
  rw [← e, look_of nl hq]
  exact h1.symm
theorem eqIn_symm {l l' : List (Int × Row)} (nl : (l.map (·.1)).Nodup) (nl' : (l'.map (·.1)).Nodup) : eqIn l l' = eqIn l' l := by
  have one : ∀ {l l' : List (Int × Row)}, (l.map (·.1)).Nodup → (l'.map (·.1)).Nodup → eqIn l l' = true → eqIn l' l = true := fun {l l'} n n' h => by
    have h2 := eqIn_look h n n'
    unfold eqIn at h ⊢
    rw [Bool.and_eq_true, beq_iff_eq] at h ⊢
    exact ⟨h.1.symm, List.all_eq_true.mpr fun p hp => decide_eq_true (h2 p hp)⟩
  cases e : eqIn l l' with
  | true => rw [one nl nl' e]
  | false =>
    cases e' : eqIn l' l with
    | false => rfl
    | true => rw [one nl' nl e'] at e; cases e
theorem eqTab_self {R : Rs} (nd : (R.map (·.1)).Nodup) (ni : ∀ t ∈ R, (t.2.map (·.1)).Nodup) : eqTab R R = true := by
  unfold eqTab
  rw [Bool.and_eq_true, beq_iff_eq]
  refine ⟨rfl, List.all_eq_true.mpr fun t ht => ?_⟩
  rw [look_ofT nd ht]
  exact eqIn_self (ni t ht)
theorem eqTab_symm {T : List Tab} {R R' : Rs} (hT : (T.map (·.1)).Nodup) (h : rowsOk T R) (h' : rowsOk T R') : eqTab R R' = eqTab R' R := by
  have one : ∀ {R R' : Rs}, rowsOk T R → rowsOk T R' → eqTab R R' = true → eqTab R' R = true := fun {R R'} h h' e => by
    have nd : (R.map (·.1)).Nodup := by rw [h.1]; exact hT
    have nd' : (R'.map (·.1)).Nodup := by rw [h'.1]; exact hT
    unfold eqTab at e ⊢
    rw [Bool.and_eq_true, beq_iff_eq, List.all_eq_true] at e ⊢
    refine ⟨e.1.symm, fun t ht => ?_⟩
    have hm : t.1 ∈ R.map (·.1) := by rw [h.1, ← h'.1]; exact List.mem_map.mpr ⟨t, ht, rfl⟩
    obtain ⟨q, hq, eq⟩ := List.mem_map.mp hm
    have hl : R.lookup t.1 = some q.2 := by rw [← eq]; exact look_ofT nd hq
    rw [hl]
    have e2 := e.2 q hq
    rw [eq, look_ofT nd' ht] at e2
    have e2 : eqIn q.2 t.2 = true := e2
    show eqIn t.2 q.2 = true
    rw [eqIn_symm (h'.2.1 t ht).1 (h.2.1 q hq).1]
    exact e2
  cases e : eqTab R R' with
  | true => rw [one h h' e]
  | false =>
    cases e' : eqTab R' R with
    | false => rfl
    | true => rw [one h' h e'] at e; cases e
/-! what a batch leads to -/
theorem adv_keep {T : List Tab} (hT : schOk T) {b : Int} (hb : 0 ≤ b) : ∀ {chs : List Ch} {R : Rs} {m i : Nat}, Gd T R m → bdR b R → (∀ c ∈ chs, chOk T c) → (∀ c ∈ chs, chB b c) → m + chs.length ≤ 1000 → Gd T (advF T chs R i).2 (m + chs.length) ∧ bdR b (advF T chs R i).2 ∧ ∀ j, (advF T chs R i).1 = some j → j < i + chs.length
  | [], R, m, i, g, h, _, _, _ => ⟨g, h, fun j e => by cases e⟩
  | c :: cs, R, m, i, g, h, hc, hB, hm => by
    rw [List.length_cons] at hm ⊢
    unfold advF
    by_cases e : okCh T R c = true
    · rw [if_pos e]
      have g1 := g.step (by omega) hT (hc c List.mem_cons_self) e
      obtain ⟨a1, a2, a3⟩ := adv_keep hT hb (i := i + 1) g1 (h.step hb (hB c List.mem_cons_self)) (fun x hx => hc x (List.mem_cons_of_mem _ hx)) (fun x hx => hB x (List.mem_cons_of_mem _ hx)) (by omega)
      exact ⟨a1.mono (by omega), a2, fun j e => by have := a3 j e; omega⟩
    · rw [if_neg e]
      exact ⟨g.mono (by omega), h, fun j e => by
        have e1 : some i = some j := e
        injection e1 with e1
        omega⟩
end SP
namespace T3
open PySem L2 DV PM SP IX
section
variable {P : Program} {w : World} {K : PySem.W.Frag} {mg : Str → Option Value} {base : Heap} {C : Addr}
end
end T3
/-! ST: xs[::k], k = 1 or -1. -/
namespace ST
open PySem PySem.Spec PyProof.Rows L2 DV
def turned {α : Type} (k : Int) (xs : List α) : List α := if k = 1 then xs else xs.reverse
def tStepL (K : PySem.W.Frag) (te ts : TE) : TE := fun σ H Q => te σ H fun x H1 => ts σ H1 fun y H2 => ∃ a xs k, x = .ref a ∧ y = .int k ∧ SqL K H2 a xs ∧ (k = 1 ∨ k = -1) ∧ ∀ p, H2 p = none → Q (.ref p) (upd H2 p (.lst (turned k xs)))
theorem pick1 (its : List Value) : slicePick its.toArray none none (some 1) = its.toArray := by
  have h : slicePick its.toArray none none (some 1) = slicePick its.toArray none none none := rfl
  rw [h, slicePick_cut]
  show ((its.drop (HT.sIx its.length 0 none)).take (HT.sIx its.length its.length none - HT.sIx its.length 0 none)).toArray = _
  rw [HT.sIx_none, HT.sIx_none, List.drop_zero, Nat.sub_zero, List.take_length]
theorem pe_stepL {X : Cx} {e st : Expr} {te ts : TE} {p3 pos : Pos} (he : PE X e te) (hs : PE X st ts) : PE X (.Subscript e (.Slice none none (some st) p3) pos) (tStepL X.K te ts) := by
  refine ⟨fun pins s σ H Q I h => ?_⟩
  refine Subscript_ (thn (he.run pins s σ H _ I h) fun v s1 ⟨x, H1, I1, r1, q1⟩ => ?_)
  refine wpAny_Slice (thn (po_none.run pins s1 σ H1 (fun o H2 => o = none ∧ H2 = H1) I1 ⟨rfl, rfl⟩) fun vl s2 ⟨l, H2, I2, pl, el, e2⟩ => ?_)
  subst el e2
  refine thn (po_none.run pins s2 σ H2 (fun o H3 => o = none ∧ H3 = H2) I2 ⟨rfl, rfl⟩) fun vu s3 ⟨u, H3, I3, pu, eu, e3⟩ => ?_
  subst eu e3
  rw [evalPart_some]
  refine thn (hs.run pins s3 σ H3 _ I3 q1) fun vs s4 ⟨y, H4, I4, r4, q4⟩ => ?_
  obtain ⟨a, xs, k, ex, ey, hx, hk, q⟩ := q4
  subst ex ey
  cases r1
  obtain ⟨tk, rfl⟩ := r4
  have I5 : Inv X pins σ H4 { s4 with heap := s4.heap.push { cls := .type "slice", data := .fields #[vl, vu, .int k tk] } } := I4.kept (t' := s4.toks) fun b ob q => Heap.get?_push_of_some _ q
  obtain ⟨its, r, ht, hz⟩ := I5.list hx
  have hlen := r.length
  show wpAny (model X.prog X.w) X.A (subscriptTail e (.Slice none none (some st) p3) (.ref a) (.ref s4.heap.objs.size)) (EP X pins σ Q) X.xe { s4 with heap := s4.heap.push { cls := .type "slice", data := .fields #[vl, vu, .int k tk] } }
  refine tail_any (ops := [.ref a, .ref s4.heap.objs.size]) ht.isList.typeIs (PySem.slot_list_getitem.lookup) ?_ (by with_unfolding_all rfl)
  refine wpAny_getItem_list_slice ht.isList (Heap.IsSliceOf.new _ vl vu (.int k tk)) pl pu (.int k tk) (by rcases hk with rfl | rfl <;> decide) ?_ (by rw [List.size_toArray]; omega)
  have pk : slicePick its.toArray none none (some k) = (if k = 1 then its else its.reverse).toArray := by
    rcases hk with rfl | rfl
    · rw [pick1]; rfl
    · rw [PySem.W.krv_pick]; rfl
  rw [pk]
  refine ⟨.ref _, _, I5.laid (t' := s4.toks) (o := .lst (turned k xs)) (fun b ob q => Heap.get?_push_of_some _ q) (Nat.le_refl _) ?_, rfl, q _ (I5.hok.fresh (Nat.le_refl _))⟩
  have rr : Vals (turned k xs) (if k = 1 then its else its.reverse) := by
    unfold turned
    split
    · exact r
    · exact r.reverse
  have hl2 : (turned k xs).length ≤ sizeLine := by
    unfold turned
    split
    · exact hz
    · rw [List.length_reverse]; exact hz
  exact ⟨hl2, _, 0, rr, Heap.get?_push_size _ rfl⟩
end ST
/-! R10a: schemas beside a schema: other columns, a table more. -/
namespace SP
open PySem L2 DV PM IX
theorem text_inj {T U : List Tab} (hT : tabsOk T) (hU : tabsOk U) (nT : T ≠ []) (nU : U ≠ []) : rowsOf T = rowsOf U ↔ textOf U = textOf T := by
  constructor
  · intro h
    show Txt.join nl (rowsOf U) = Txt.join nl (rowsOf T)
    rw [h]
  · intro h
    rw [← split_text hT nT, ← split_text hU nU, h]
def xc (c : Col) : Col := (c.1 ++ "x", c.2)
def xT (T : List Tab) : List Tab := T.map fun t => (t.1, t.2.map xc)
theorem xT_names (T : List Tab) : (xT T).map Prod.fst = T.map Prod.fst := by unfold xT; rw [List.map_map]; rfl
theorem refsN_xc (cs : List Col) : refsN (cs.map xc) = refsN cs := by
  unfold refsN
  induction cs with
  | nil => rfl
  | cons c cs ih =>
    obtain ⟨n, t⟩ := c
    cases t with
    | none =>
      have h := ih
      show ((List.filter (fun c : Col => c.2.isSome) (cs.map xc))).length = (List.filter (fun c : Col => c.2.isSome) cs).length
      exact h
    | some m =>
      show ((List.filter (fun c : Col => c.2.isSome) (cs.map xc))).length + 1 = (List.filter (fun c : Col => c.2.isSome) cs).length + 1
      rw [ih]
theorem sumRefs_xT (T : List Tab) : sumRefs (xT T) = sumRefs T := by
  unfold sumRefs xT
  rw [List.map_map]
  congr 1
  apply List.map_congr_left
  intro t _
  exact refsN_xc t.2
theorem cn_fine : ∀ n ∈ CN, fineB (n ++ "x") = true := by decide +kernel
theorem cn_inj : ∀ n ∈ CN, ∀ m ∈ CN, n ++ "x" = m ++ "x" → n = m := by decide +kernel
theorem cn_other : ∀ n ∈ CN, n ++ "x" ≠ n := by decide +kernel
theorem okCols_x {T : List Tab} : ∀ (cols done : List Col), okCols T done cols → (∀ c ∈ cols, c.1 ∈ CN) → (∀ c ∈ done, c.1 ∈ CN) → okCols (xT T) (done.map xc) (cols.map xc)
  | [], _, _, _, _ => True.intro
  | c :: cols, done, h, hc, hd => by
    obtain ⟨h1, h2⟩ := h
    have hcn := hc c List.mem_cons_self
    refine ⟨?_, ?_⟩
    · have hnew : c.1 ∉ done.map Prod.fst → (c.1 ++ "x") ∉ (done.map xc).map Prod.fst := fun hn z => by
        rw [List.map_map] at z
        obtain ⟨d, hdm, e⟩ := List.mem_map.mp z
        have e : d.1 ++ "x" = c.1 ++ "x" := e
        exact hn (List.mem_map.mpr ⟨d, hdm, cn_inj _ (hd d hdm) _ hcn e⟩)
      obtain ⟨m, e⟩ := c
      cases e with
      | none =>
        obtain ⟨a1, a2, a3, a4⟩ := h1
        exact ⟨by rw [refsN_xc]; exact a1, by rw [List.length_map]; exact a2, cn_fine _ hcn, hnew a4⟩
      | some e =>
        obtain ⟨a1, a2, a3, a4, a5⟩ := h1
        exact ⟨by rw [refsN_xc]; exact a1, by rw [refsN_xc, sumRefs_xT]; exact a2, cn_fine _ hcn, hnew a4, by rw [xT_names]; exact a5⟩
    · have := okCols_x cols (done ++ [c]) h2 (fun x hx => hc x (List.mem_cons_of_mem _ hx)) fun x hx => by
        rcases List.mem_append.mp hx with hx | hx
        · exact hd x hx
        · rw [List.mem_singleton.mp hx]; exact hcn
      rw [List.map_append] at this
      exact this
theorem okTabs_x : ∀ (r T : List Tab), okTabs T r → (∀ t ∈ r, ∀ c ∈ t.2, c.1 ∈ CN) → okTabs (xT T) (xT r)
  | [], _, _, _ => True.intro
  | t :: r, T, h, hc => by
    obtain ⟨⟨a1, a2, a3, a4⟩, h2⟩ := h
    refine ⟨⟨a1, by rw [xT_names]; exact a2, by unfold xT; rw [List.length_map]; exact a3, okCols_x t.2 [] a4 (hc t List.mem_cons_self) (fun _ h => by cases h)⟩, ?_⟩
    have := okTabs_x r (T ++ [t]) h2 fun x hx => hc x (List.mem_cons_of_mem _ hx)
    unfold xT at this ⊢
    rw [List.map_append] at this
    exact this
theorem look_xT {T : List Tab} {n : Str} : (xT T).lookup n = (T.lookup n).map fun cols => cols.map xc := by
  induction T with
  | nil => rfl
  | cons t T ih =>
    obtain ⟨a, c⟩ := t
    show List.lookup n ((a, c.map xc) :: xT T) = _
    by_cases e : n = a
    · subst e; simp [List.lookup]
    · have e' : (n == a) = false := by simpa using e
      simp only [List.lookup, e']
      exact ih
theorem rows_xT {T : List Tab} {R : Rs} (h : rowsOk T R) : rowsOk (xT T) R := ⟨by rw [h.1]; exact (xT_names T).symm, h.2.1, fun t ht p hp => ⟨(h.2.2 t ht p hp).1, fun cols hc => by
  rw [look_xT] at hc
  cases e : T.lookup t.1 with
  | none => rw [e] at hc; cases hc
  | some c0 =>
    rw [e] at hc
    have hc : c0.map xc = cols := by injection hc
    rw [← hc, List.length_map]
    exact (h.2.2 t ht p hp).2 c0 e⟩⟩
/-! a table more -/
def zooT (T : List Tab) : List Tab := T ++ [(("zoo" : Str), ([] : List Col))]
theorem names_zoo (s : Fd) : ∀ n ∈ namesOf s, n ≠ "zoo" := by
  have h := fdI_lt (s := s) (show 0 < 4 by decide)
  unfold namesOf NAMES
  generalize fdI s 4 = i at h
  match i, h with
  | 0, _ => decide +kernel
  | 1, _ => decide +kernel
  | 2, _ => decide +kernel
  | 3, _ => decide +kernel
theorem drawn_zoo (s : Fd) : ∀ t ∈ tablesOf s, t.1 ≠ "zoo" := fun t ht => by
  obtain ⟨_, o2, _, _⟩ := outer_ok s (fdT (fdT s 4) 6) (countOf s) (cnt_le _)
  have : t.1 ∈ (tablesOf s).map Prod.fst := List.mem_map.mpr ⟨t, ht, rfl⟩
  have e : (tablesOf s).map Prod.fst = (namesOf s).take (countOf s) := o2
  rw [e] at this
  exact names_zoo s _ (List.mem_of_mem_take this)
theorem ok_zoo {T : List Tab} (h : okTabs [] T) (hz : ∀ t ∈ T, t.1 ≠ "zoo") (hl : T.length < 3) : okTabs [] (zooT T) := okTabs_snoc T [] (("zoo" : Str), ([] : List Col)) h ⟨by decide +kernel, by
  rw [List.nil_append]
  intro z
  obtain ⟨t, ht, e⟩ := List.mem_map.mp z
  exact hz t ht e, by rw [List.nil_append]; exact hl, True.intro⟩
theorem join_snoc (c : Str) : ∀ (l : List Str) (x : Str), l ≠ [] → Txt.join c (l ++ [x]) = Txt.join c l ++ (c ++ x)
  | [], _, h => absurd rfl h
  | [a], x, _ => by
    show Txt.join c [a, x] = Txt.join c [a] ++ (c ++ x)
    rw [join_cons, join_one, join_one, Str.append_assoc]
  | a :: b :: l, x, _ => by
    show Txt.join c (a :: b :: (l ++ [x])) = _
    rw [join_cons, join_cons]
    have := join_snoc c (b :: l) x (by simp)
    have e : Txt.join c (b :: (l ++ [x])) = Txt.join c (b :: l) ++ (c ++ x) := this
    rw [e, Str.append_assoc, Str.append_assoc, Str.append_assoc]
theorem text_zoo {T : List Tab} (h : T ≠ []) : textOf T ++ "\ntable zoo" = textOf (zooT T) := by
  have e1 : rowsOf (zooT T) = rowsOf T ++ [("table zoo" : Str)] := by
    unfold rowsOf zooT words
    rw [List.flatMap_append, List.map_append]
    congr 1
  have hne : rowsOf T ≠ [] := by
    unfold rowsOf
    have := words_ne h
    simpa using this
  have e2 : textOf (zooT T) = Txt.join nl (rowsOf T ++ [("table zoo" : Str)]) := by rw [← e1]; rfl
  rw [e2, join_snoc _ _ _ hne]
  have e3 : nl ++ ("table zoo" : Str) = "\ntable zoo" := by decide +kernel
  rw [e3]
  rfl
theorem zoo_other {T : List Tab} : rowsOf T ≠ rowsOf (zooT T) := fun e => by
  have e1 : rowsOf (zooT T) = rowsOf T ++ [("table zoo" : Str)] := by
    unfold rowsOf zooT words
    rw [List.flatMap_append, List.map_append]
    congr 1
  rw [e1] at e
  have := congrArg List.length e
  rw [List.length_append] at this
  simp at this
theorem look_zoo {T : List Tab} {n : Str} {c : List Col} (h : T.lookup n = some c) : (zooT T).lookup n = some c := by
  unfold zooT
  rw [List.lookup_append, h]
  rfl
theorem rows_zoo {T : List Tab} {R : Rs} (hz : ∀ t ∈ T, t.1 ≠ "zoo") (h : rowsOk T R) : rowsOk (zooT T) (R ++ [(("zoo" : Str), ([] : List (Int × Row)))]) := by
  refine ⟨by unfold zooT; rw [List.map_append, List.map_append, h.1]; rfl, fun t ht => ?_, fun t ht p hp => ?_⟩
  · rcases List.mem_append.mp ht with ht | ht
    · exact h.2.1 t ht
    · rw [List.mem_singleton.mp ht]; exact ⟨List.nodup_nil, Nat.zero_le _⟩
  · rcases List.mem_append.mp ht with ht | ht
    · refine ⟨(h.2.2 t ht p hp).1, fun cols hc => ?_⟩
      have hm : t.1 ∈ T.map (·.1) := by rw [← h.1]; exact List.mem_map.mpr ⟨t, ht, rfl⟩
      cases e : T.lookup t.1 with
      | none =>
        exfalso
        obtain ⟨q, hq, eq⟩ := List.mem_map.mp hm
        have : ∀ T : List Tab, (∃ q ∈ T, q.1 = t.1) → T.lookup t.1 ≠ none := by
          intro T
          induction T with
          | nil => rintro ⟨q, hq, _⟩; cases hq
          | cons a T ih =>
            rintro ⟨q, hq, e⟩
            obtain ⟨a1, a2⟩ := a
            by_cases h1 : t.1 = a1
            · rw [← h1]; simp [List.lookup]
            · have h1' : (t.1 == a1) = false := by simpa using h1
              simp only [List.lookup, h1']
              rcases List.mem_cons.mp hq with rfl | hq
              · exact absurd e.symm h1
              · exact ih ⟨q, hq, e⟩
        exact this T ⟨q, hq, eq⟩ e
      | some c0 =>
        rw [look_zoo e] at hc
        have hc : c0 = cols := by injection hc
        rw [← hc]
        exact (h.2.2 t ht p hp).2 c0 e
    · rw [List.mem_singleton.mp ht] at hp; cases hp
theorem pairs_zoo {R : Rs} : pairsOf (R ++ [(("zoo" : Str), ([] : List (Int × Row)))]) = pairsOf R := by
  unfold pairsOf
  rw [List.flatMap_append]
  simp
theorem parsed {C : Addr} {V : List Tab} (h : okTabs [] V) (n : V ≠ []) : preParse C [.val (.ref C), .dat (.str (textOf V))] [] [] (.dat (schD C V)) [] := by
  obtain ⟨a, b⟩ := text_ok (ok_tabsOk h) n
  exact ⟨textOf V, V, rfl, a, b, read_text h n, ok_sch h, rfl, rfl, rfl, rfl⟩
theorem pairs_ok {T : List Tab} {R : Rs} (hT : schOk T) (hR : rowsOk T R) : ∀ q ∈ pairsOf R, chOk T (.ins q.1 q.2) := fun q hq => by
  obtain ⟨t, ht, hq⟩ := List.mem_flatMap.mp hq
  obtain ⟨pr, hpr, rfl⟩ := List.mem_map.mp hq
  have htT : t.1 ∈ T.map (·.1) := by rw [← hR.1]; exact List.mem_map.mpr ⟨t, ht, rfl⟩
  obtain ⟨tab, htab, e1⟩ := List.mem_map.mp htT
  have hcols : T.lookup t.1 = some tab.2 := by rw [← e1]; exact lookup_nodup hT.2 htab
  exact chOk_ins hcols ((hR.2.2 t ht pr hpr).2 tab.2 hcols)
end SP
namespace SP
open PySem L2 DV PM LK NV QD
variable {K : PySem.W.Frag}
def MkQ (K : PySem.W.Frag) (CB C : Addr) (v0 v1 : V) (H : Hp) (Q : VK) : Prop := ∀ x dx, H x = none → H dx = none → dx ≠ x → spBInit K CB C [.ref x, v0, v1] (upd (upd H dx (.own x)) x (.ins CB dx [])) (fun z H2 => z = .non ∧ Q (.ref x) H2) E0
/-- Base(schema, pairs): a new base is told -/
theorem mk_base {B H : Hp} {CB C : Addr} {T : List Tab} {R : Rs} {v0 v1 : V} {pairs : List (Str × Row)} {Q : VK} (e : Ex B H) (r0 : Rp K B v0 (schD C T)) (r1 : Rp K B v1 (.lst (pairs.map encP)) ∨ Rp K B v1 (.tup (pairs.map encP)) ∨ (pairs = [] ∧ KTup0 K v1)) (hT : schOk T) (hq : ∀ q ∈ pairs, chOk T (.ins q.1 q.2)) (hz : pairs.length ≤ 900) (hf : fillF T pairs = R)
    (k : ∀ x dx vt B' H', Stp [] B H B' H' → Ex B' H' → BObj K B' H' x dx CB C v0 vt T R → H x = none → Q (.ref x) H') :
    MkQ K CB C v0 v1 H Q := fun x dx hx hdx hne => by
  refine ⟨x, dx, T, v0, v1, pairs, B, H, rfl, rfl, hx, hdx, hne, e, r0, r1, hT, hq, hz, fun t as B3 H3 s3 e3 ba fr => ⟨rfl, ?_⟩⟩
  obtain ⟨B4, s4, e4, _, bo⟩ := ba.publ (PS := []) s3 e3 fr (fun _ h => by cases h)
  rw [hf] at bo
  exact k x dx (.ref t) B4 H3 s4 e4 bo hx
theorem tmk_go {CB C : Addr} {te1 te2 : TE} {σ : L2.St} {H : Hp} {Q : VK} (h : te1 σ H fun v1 H1 => te2 σ H1 fun v2 H2 => MkQ K CB C v1 v2 H2 Q) : tMake CB (spBInit K CB C) [] E0 (tCons te1 (tCons te2 tNil)) σ H Q := h
theorem tmk_asg {CB C : Addr} {te1 te2 : TE} {i : Nat} {De : Ends} {σ : L2.St} {H : Hp} (h : te1 σ H fun v1 H1 => te2 σ H1 fun v2 H2 => MkQ K CB C v1 v2 H2 (fun w H3 => De.nx (σ.set i (some w)) H3)) : tAsg (tMake CB (spBInit K CB C) [] E0 (tCons te1 (tCons te2 tNil))) (gName i) De σ H := h
theorem tmk_go1 {CB C : Addr} {te1 : TE} {vE : V} {σ : L2.St} {H : Hp} {Q : VK} (h : te1 σ H fun v1 H1 => MkQ K CB C v1 vE H1 Q) : tMake CB (spBInit K CB C) [vE] E0 (tCons te1 tNil) σ H Q := h
theorem nto_go {r : R2} {ta tb : TE} {σ : L2.St} {H : Hp} {Q : Bool → Hp → Prop} (h : ta σ H fun x H1 => tb σ H1 fun y H2 => r x y H2 fun z H3 => ∃ k, z = .bl k ∧ Q (!k) H3) : tNot (tTest (tOp r ta tb)) σ H Q := h
theorem fill_of {T : List Tab} {R : Rs} (hT : schOk T) (hR : rowsOk T R) : fillF T (pairsOf R) = R := fill_pairs hT hR
end SP
/-! SM: rows of tables that are the same but for their order. -/
namespace SP
open PySem L2 DV PM LK NV
def sim (A R : Rs) : Prop := ∀ t k, getR A t k = getR R t k
theorem sim.refl (R : Rs) : sim R R := fun _ _ => rfl
theorem sim.symm {A R : Rs} (h : sim A R) : sim R A := fun t k => (h t k).symm
theorem sim.trans {A R S : Rs} (h : sim A R) (h' : sim R S) : sim A S := fun t k => (h t k).trans (h' t k)
theorem mem_lookT {α : Type} {l : List (Str × α)} {n : Str} {c : α} (h : l.lookup n = some c) : (n, c) ∈ l := by
  induction l with
  | nil => cases h
  | cons t l ih =>
    obtain ⟨a, b⟩ := t
    by_cases e : n = a
    · subst e
      have : b = c := by simpa [List.lookup] using h
      subst this
      exact List.mem_cons_self
    · have e' : (n == a) = false := by simpa using e
      simp only [List.lookup, e'] at h
      exact List.mem_cons_of_mem _ (ih h)
theorem look_name {T : List Tab} {R : Rs} (h : rowsOk T R) (hT : (T.map (·.1)).Nodup) {n : Str} (hn : n ∈ T.map (·.1)) : ∃ l, R.lookup n = some l ∧ (n, l) ∈ R := by
  rw [← h.1] at hn
  obtain ⟨t, ht, e⟩ := List.mem_map.mp hn
  exact ⟨t.2, by rw [← e]; exact look_ofT (by rw [h.1]; exact hT) ht, by rw [← e]; exact ht⟩
theorem getR_mem {T : List Tab} {R : Rs} (h : rowsOk T R) (hT : (T.map (·.1)).Nodup) {n : Str} {k : Int} {r : Row} : getR R n k = some r ↔ ∃ l, (n, l) ∈ R ∧ (k, r) ∈ l := by
  constructor
  · intro e
    unfold getR at e
    cases hl : R.lookup n with
    | none => rw [hl] at e; cases e
    | some l =>
      rw [hl] at e
      exact ⟨l, mem_lookT hl, mem_lookI e⟩
  · rintro ⟨l, hl, hk⟩
    unfold getR
    rw [look_ofT (by rw [h.1]; exact hT) hl]
    exact look_of (p := (k, r)) (h.2.1 (n, l) hl).1 hk
section
variable {T : List Tab} {A R : Rs}
theorem sim.any (hT : (T.map (·.1)).Nodup) (hA : rowsOk T A) (hR : rowsOk T R) (s : sim A R) (n : Str) (f : Row → Bool) : (((A.lookup n).getD []).any fun p => f p.2) = (((R.lookup n).getD []).any fun p => f p.2) := by
  have one : ∀ {A R : Rs}, rowsOk T A → rowsOk T R → sim A R → (((A.lookup n).getD []).any fun p => f p.2) = true → (((R.lookup n).getD []).any fun p => f p.2) = true := fun {A R} hA hR s h => by
    rw [List.any_eq_true] at h ⊢
    obtain ⟨p, hp, hf⟩ := h
    cases hl : A.lookup n with
    | none => rw [hl] at hp; cases hp
    | some l =>
      rw [hl] at hp
      have h1 := (getR_mem hA hT (n := n) (k := p.1) (r := p.2)).mpr ⟨l, mem_lookT hl, hp⟩
      rw [s n p.1] at h1
      obtain ⟨l', h2, h3⟩ := (getR_mem hR hT).mp h1
      rw [look_ofT (p := (n, l')) (by rw [hR.1]; exact hT) h2]
      exact ⟨(p.1, p.2), h3, hf⟩
  cases e : ((A.lookup n).getD []).any fun p => f p.2 with
  | true => rw [one hA hR s e]
  | false =>
    cases e' : ((R.lookup n).getD []).any fun p => f p.2 with
    | false => rfl
    | true => rw [one hR hA s.symm e'] at e; cases e
theorem sim.led (hT : (T.map (·.1)).Nodup) (hA : rowsOk T A) (hR : rowsOk T R) (s : sim A R) (n : Str) (k : Int) : isLed T A n k = isLed T R n k := by
  unfold isLed
  congr 1
  funext tab
  exact s.any hT hA hR tab.1 fun r => (placesOf tab.2 n).any fun i => decide (r.getD i 0 = k)
theorem sim.ok (hT : (T.map (·.1)).Nodup) (hA : rowsOk T A) (hR : rowsOk T R) (s : sim A R) (c : Ch) : okCh T A c = okCh T R c := by
  unfold okCh allowsB
  rw [s]
  congr 1
  unfold tailB
  cases c.new with
  | none => dsimp only []; rw [s.led hT hA hR]
  | some nw =>
    dsimp only []
    congr 1
    funext p
    rw [s]
theorem some_look (hT : (T.map (·.1)).Nodup) (hA : rowsOk T A) {c : Ch} (hc : chOk T c) : (A.lookup c.tab).isSome = true := by
  obtain ⟨cols, h0, _⟩ := hc
  obtain ⟨l, h, _⟩ := look_name hA hT (List.mem_map.mpr ⟨_, mem_lookup h0, rfl⟩)
  have h : A.lookup c.tab = some l := h
  rw [h]; rfl
theorem sim.step (hT : (T.map (·.1)).Nodup) (hA : rowsOk T A) (hR : rowsOk T R) (s : sim A R) {c : Ch} (hc : chOk T c) : sim (stepCh A c) (stepCh R c) := fun t k => by
  rw [getR_step (some_look hT hA hc), getR_step (some_look hT hR hc), s]
theorem sim.adv (hT : (T.map (·.1)).Nodup) : ∀ {chs : List Ch} {A R : Rs} {i : Nat}, rowsOk T A → rowsOk T R → sim A R → (∀ c ∈ chs, chOk T c) → room chs.length A → room chs.length R → (advF T chs A i).1 = (advF T chs R i).1 ∧ sim (advF T chs A i).2 (advF T chs R i).2
  | [], A, R, i, _, _, s, _, _, _ => ⟨rfl, s⟩
  | c :: cs, A, R, i, hA, hR, s, hc, ra, rr => by
    unfold advF
    rw [s.ok hT hA hR]
    by_cases e : okCh T R c = true
    · rw [if_pos e, if_pos e]
      have h0 := hc c List.mem_cons_self
      have a1 := step_ok (k := cs.length) hA h0 ra
      have r1 := step_ok (k := cs.length) hR h0 rr
      exact sim.adv hT a1.1 r1.1 (s.step hT hA hR h0) (fun x hx => hc x (List.mem_cons_of_mem _ hx)) a1.2 r1.2
    · rw [if_neg e, if_neg e]
      exact ⟨rfl, s⟩
theorem eqIn_sim {l l' : List (Int × Row)} (n : (l.map (·.1)).Nodup) (n' : (l'.map (·.1)).Nodup) (h : ∀ k, l.lookup k = l'.lookup k) : eqIn l l' = true := by
  have sub : ∀ {l l' : List (Int × Row)}, (l.map (·.1)).Nodup → (∀ k, l.lookup k = l'.lookup k) → l.length ≤ l'.length := fun {l l'} n h => by
    have := len_sub n (b := l'.map (·.1)) fun x hx => by
      obtain ⟨p, hp, rfl⟩ := List.mem_map.mp hx
      have h1 := look_of n hp
      rw [h] at h1
      exact List.mem_map.mpr ⟨_, mem_lookI h1, rfl⟩
    rw [List.length_map, List.length_map] at this
    exact this
  unfold eqIn
  rw [Bool.and_eq_true, beq_iff_eq, List.all_eq_true]
  refine ⟨Nat.le_antisymm (sub n h) (sub n' fun k => (h k).symm), fun p hp => decide_eq_true ?_⟩
  rw [← h]
  exact look_of n hp
theorem sim.look (hT : (T.map (·.1)).Nodup) (hA : rowsOk T A) (hR : rowsOk T R) (s : sim A R) {n : Str} {l l' : List (Int × Row)} (h : (n, l) ∈ A) (h' : (n, l') ∈ R) : ∀ k, l.lookup k = l'.lookup k := fun k => by
  have e := s n k
  unfold getR at e
  rw [look_ofT (p := (n, l)) (by rw [hA.1]; exact hT) h, look_ofT (p := (n, l')) (by rw [hR.1]; exact hT) h'] at e
  exact e
theorem sim.eqIn (hT : (T.map (·.1)).Nodup) (hA : rowsOk T A) (hR : rowsOk T R) (s : sim A R) {n : Str} {l l' : List (Int × Row)} (h : (n, l) ∈ A) (h' : (n, l') ∈ R) : SP.eqIn l l' = true :=
  eqIn_sim (hA.2.1 _ h).1 (hR.2.1 _ h').1 (s.look hT hA hR h h')
theorem eqTab_sim (hT : (T.map (·.1)).Nodup) (hA : rowsOk T A) (hR : rowsOk T R) : eqTab A R = true ↔ sim A R := by
  have hlen : A.length = R.length := by
    have h1 := congrArg List.length hA.1
    have h2 := congrArg List.length hR.1
    rw [List.length_map, List.length_map] at h1 h2
    omega
  unfold eqTab
  rw [Bool.and_eq_true, beq_iff_eq, List.all_eq_true]
  constructor
  · rintro ⟨_, h⟩ n k
    by_cases hn : n ∈ T.map (·.1)
    · obtain ⟨l, h1, h2⟩ := look_name hA hT hn
      obtain ⟨l', h3, h4⟩ := look_name hR hT hn
      have h5 := h (n, l) h2
      rw [show (n, l).1 = n from rfl, h3] at h5
      have h5 : SP.eqIn l l' = true := h5
      unfold getR
      rw [h1, h3]
      show l.lookup k = l'.lookup k
      have nd := (hA.2.1 _ h2).1
      have nd' := (hR.2.1 _ h4).1
      have b1 := eqIn_look h5 nd nd'
      unfold SP.eqIn at h5
      rw [Bool.and_eq_true, List.all_eq_true] at h5
      cases e : l.lookup k with
      | some r => exact (of_decide_eq_true (h5.2 (k, r) (mem_lookI e))).symm
      | none =>
        cases e' : l'.lookup k with
        | none => rfl
        | some r =>
          have := b1 (k, r) (mem_lookI e')
          rw [e] at this; cases this
    · have no : ∀ {X : Rs}, rowsOk T X → getR X n k = none := fun {X} hX => by
        cases e : getR X n k with
        | none => rfl
        | some r =>
          obtain ⟨l, h1, _⟩ := (getR_mem hX hT).mp e
          exact absurd (by rw [← hX.1]; exact List.mem_map.mpr ⟨_, h1, rfl⟩) hn
      rw [no hA, no hR]
  · intro s
    refine ⟨hlen, fun t ht => ?_⟩
    obtain ⟨l', h3, h4⟩ := look_name hR hT (n := t.1) (by rw [← hA.1]; exact List.mem_map.mpr ⟨t, ht, rfl⟩)
    rw [h3]
    exact s.eqIn hT hA hR (n := t.1) ht h4
theorem eqTab_congr (hT : (T.map (·.1)).Nodup) {A' R' : Rs} (hA : rowsOk T A) (hR : rowsOk T R) (hA' : rowsOk T A') (hR' : rowsOk T R') (s : sim A A') (s' : sim R R') : eqTab A R = eqTab A' R' := by
  have h : eqTab A R = true ↔ eqTab A' R' = true := by
    rw [eqTab_sim hT hA hR, eqTab_sim hT hA' hR']
    exact ⟨fun z => s.symm.trans (z.trans s'), fun z => s.trans (z.trans s'.symm)⟩
  cases e : eqTab A R with
  | true => rw [h.mp e]
  | false =>
    cases e' : eqTab A' R' with
    | false => rfl
    | true => rw [h.mpr e'] at e; cases e
theorem sim.gd (hT : (T.map (·.1)).Nodup) {m : Nat} (g : Gd T R m) (hA : rowsOk T A) (s : sim A R) : Gd T A m := by
  have inR : ∀ {n l p}, (n, l) ∈ A → p ∈ l → ∃ l', (n, l') ∈ R ∧ p ∈ l' := fun {n l p} h hp => by
    have h1 := (getR_mem hA hT (n := n) (k := p.1) (r := p.2)).mpr ⟨l, h, hp⟩
    rw [s] at h1
    exact (getR_mem g.ok hT).mp h1
  refine ⟨hA, fun t ht cols hc p hp => ?_, fun t ht => ?_⟩
  · obtain ⟨l', h1, h2⟩ := inR (n := t.1) (l := t.2) ht hp
    exact hasT_mono (fun t' k _ hs _ => by rw [s]; exact hs) (g.rf (t.1, l') h1 cols hc p h2)
  · obtain ⟨l', h1, h2⟩ := look_name g.ok hT (n := t.1) (by rw [← hA.1]; exact List.mem_map.mpr ⟨t, ht, rfl⟩)
    have := s.eqIn hT hA g.ok (n := t.1) (l := t.2) ht h2
    unfold SP.eqIn at this
    rw [Bool.and_eq_true, beq_iff_eq] at this
    rw [this.1]
    exact g.sm _ h2
theorem sim.bd (hT : (T.map (·.1)).Nodup) {b : Int} (hR : rowsOk T R) (g : bdR b R) (hA : rowsOk T A) (s : sim A R) : bdR b A := fun t ht p hp => by
  have h1 := (getR_mem hA hT (n := t.1) (k := p.1) (r := p.2)).mpr ⟨t.2, ht, hp⟩
  rw [s] at h1
  obtain ⟨l', h2, h3⟩ := (getR_mem hR hT).mp h1
  exact g _ h2 _ h3
end
/-! a base filled by pairs in any order -/
theorem fill_rows {T : List Tab} : ∀ {pairs : List (Str × Row)} {R0 : Rs}, rowsOk T R0 → (∀ q ∈ pairs, chOk T (.ins q.1 q.2)) → room pairs.length R0 → rowsOk T (pairs.foldl (fun R q => stepCh R (.ins q.1 q.2)) R0)
  | [], _, h, _, _ => h
  | q :: l, R0, h, hq, hr => by
    have a := step_ok (k := l.length) h (hq q List.mem_cons_self) hr
    rw [List.foldl_cons]
    exact fill_rows (pairs := l) a.1 (fun x hx => hq x (List.mem_cons_of_mem _ hx)) a.2
theorem fill_get {T : List Tab} (hT : (T.map (·.1)).Nodup) : ∀ {pairs : List (Str × Row)} {R0 : Rs}, rowsOk T R0 → (∀ q ∈ pairs, chOk T (.ins q.1 q.2)) → room pairs.length R0 → ∀ t k, getR (pairs.foldl (fun R q => stepCh R (.ins q.1 q.2)) R0) t k = match pairs.reverse.find? (fun q => decide (q.1 = t) && decide (q.2.headD 0 = k)) with
    | some q => some q.2
    | none => getR R0 t k
  | [], R0, _, _, _, t, k => rfl
  | q :: l, R0, h, hq, hr, t, k => by
    have h0 := hq q List.mem_cons_self
    have a := step_ok (k := l.length) h h0 hr
    rw [List.foldl_cons, fill_get hT a.1 (fun x hx => hq x (List.mem_cons_of_mem _ hx)) a.2 t k, List.reverse_cons, List.find?_append]
    cases l.reverse.find? (fun q => decide (q.1 = t) && decide (q.2.headD 0 = k)) with
    | some x => rfl
    | none =>
      dsimp only []
      rw [getR_step (some_look hT h h0)]
      have e : ([q] : List (Str × Row)).find? (fun q => decide (q.1 = t) && decide (q.2.headD 0 = k)) = if (t = q.1 ∧ k = q.2.headD 0) then some q else none := by
        by_cases z : t = q.1 ∧ k = q.2.headD 0
        · rw [if_pos z, z.1, z.2]; simp
        · rw [if_neg z]
          rw [List.find?_cons]
          have : (decide (q.1 = t) && decide (q.2.headD 0 = k)) = false := by
            rw [Bool.and_eq_false_iff]
            by_cases z1 : q.1 = t
            · refine .inr (decide_eq_false fun z2 => z ⟨z1.symm, z2.symm⟩)
            · exact .inl (decide_eq_false z1)
          rw [this]
          rfl
      rw [e]
      show (if t = (Ch.ins q.1 q.2).tab ∧ k = q.2.headD 0 then some q.2 else getR R0 t k) = _
      by_cases z : t = q.1 ∧ k = q.2.headD 0
      · have z' : t = (Ch.ins q.1 q.2).tab ∧ k = q.2.headD 0 := z
        rw [if_pos z', if_pos z]; rfl
      · have z' : ¬ (t = (Ch.ins q.1 q.2).tab ∧ k = q.2.headD 0) := z
        rw [if_neg z', if_neg z]; rfl
theorem find_rev {α : Type} {P : α → Bool} {l : List α} (h : ∀ x ∈ l, ∀ y ∈ l, P x = true → P y = true → x = y) : l.reverse.find? P = l.find? P := by
  cases e : l.find? P with
  | none =>
    rw [List.find?_eq_none] at e ⊢
    exact fun x hx => e x (List.mem_reverse.mp hx)
  | some a =>
    have ha := List.find?_some e
    have hm := List.mem_of_find?_eq_some e
    cases e' : l.reverse.find? P with
    | none =>
      rw [List.find?_eq_none] at e'
      exact absurd ha (e' a (List.mem_reverse.mpr hm))
    | some c =>
      have hc := List.find?_some e'
      have hm' := List.mem_reverse.mp (List.mem_of_find?_eq_some e')
      rw [h a hm c hm' ha hc]
theorem pairs_uniq {T : List Tab} {R : Rs} (hT : (T.map (·.1)).Nodup) (hR : rowsOk T R) {t : Str} {k : Int} : ∀ x ∈ pairsOf R, ∀ y ∈ pairsOf R, (decide (x.1 = t) && decide (x.2.headD 0 = k)) = true → (decide (y.1 = t) && decide (y.2.headD 0 = k)) = true → x = y := by
  have one : ∀ x ∈ pairsOf R, (decide (x.1 = t) && decide (x.2.headD 0 = k)) = true → x.1 = t ∧ getR R t k = some x.2 := fun x hx h => by
    rw [Bool.and_eq_true] at h
    have h1 := of_decide_eq_true h.1
    have h2 := of_decide_eq_true h.2
    obtain ⟨q, hq, hx⟩ := List.mem_flatMap.mp hx
    obtain ⟨p, hp, rfl⟩ := List.mem_map.mp hx
    refine ⟨h1, ?_⟩
    have h1 : q.1 = t := h1
    have h2 : p.2.headD 0 = k := h2
    have h3 := (hR.2.2 q hq p hp).1
    have h4 : p.1 = k := by
      rw [← h2]
      cases hp2 : p.2 with
      | nil => rw [hp2] at h3; cases h3
      | cons a r =>
        rw [hp2] at h3
        have h3 : some a = some p.1 := h3
        injection h3 with h3
        exact h3.symm
    exact (getR_mem hR hT).mpr ⟨q.2, by rw [← h1]; exact hq, by rw [← h4]; exact hp⟩
  intro x hx y hy h1 h2
  obtain ⟨a1, a2⟩ := one x hx h1
  obtain ⟨b1, b2⟩ := one y hy h2
  rw [a2] at b2
  injection b2 with b2
  exact Prod.ext (a1.trans b1.symm) b2
theorem empty_rows (T : List Tab) : rowsOk T (emptyF T) := by
  refine ⟨by unfold emptyF; rw [List.map_map]; rfl, fun x hx => ?_, fun x hx p hp => ?_⟩
  · obtain ⟨y, _, rfl⟩ := List.mem_map.mp hx
    exact ⟨List.nodup_nil, Nat.zero_le _⟩
  · obtain ⟨y, _, rfl⟩ := List.mem_map.mp hx
    cases hp
theorem fill_sim {T : List Tab} {R : Rs} {k : Int} (hT : schOk T) (hR : rowsOk T R) (hz : (pairsOf R).length ≤ 900) (hk : k = 1 ∨ k = -1) : rowsOk T (fillF T (ST.turned k (pairsOf R))) ∧ sim (fillF T (ST.turned k (pairsOf R))) R := by
  have he := empty_rows T
  have hq := pairs_ok hT hR
  have rm : ∀ n, n ≤ 900 → room n (emptyF T) := fun n hn x hx => by
    obtain ⟨y, _, rfl⟩ := List.mem_map.mp hx
    show 0 + n ≤ 1000
    omega
  rcases hk with rfl | rfl
  · have e : ST.turned 1 (pairsOf R) = pairsOf R := rfl
    rw [e, fill_of hT hR]
    exact ⟨hR, sim.refl R⟩
  · have e : ST.turned (-1) (pairsOf R) = (pairsOf R).reverse := rfl
    rw [e]
    have hq' : ∀ q ∈ (pairsOf R).reverse, chOk T (.ins q.1 q.2) := fun q h => hq q (List.mem_reverse.mp h)
    refine ⟨fill_rows he hq' (rm _ (by rw [List.length_reverse]; exact hz)), fun t k => ?_⟩
    have h1 := fill_get hT.2 he hq' (rm _ (by rw [List.length_reverse]; exact hz)) t k
    have h2 := fill_get hT.2 he hq (rm _ hz) t k
    rw [List.reverse_reverse, ← find_rev (pairs_uniq hT.2 hR)] at h1
    have e1 : getR (fillF T (pairsOf R).reverse) t k = getR (fillF T (pairsOf R)) t k := h1.trans h2.symm
    rw [e1, fill_of hT hR]
end SP
/-! R8: the laws' own look at a base: refused, is_base. -/
namespace SP
open PySem PySem.Spec PyProof.Rows L2 DV PM LK NV QD
/-- o.m(e, ..), m may raise, within a try -/
def tMethS2 (C : Addr) (m : Str) (sp : Sp) (E : L2.St → XK) (ta : TE) (t : TA) : TE := fun σ H Q => ta σ H fun x H1 => ∃ a dx fs, x = .ref a ∧ H1 a = some (.ins C dx fs) ∧ fs.lookup m = none ∧ t σ H1 fun vs H2 => sp (x :: vs) H2 Q (E σ)
theorem pe_methS2 {X : Cx} {CX : CXT} {k : Nat} {f C : Addr} {fd : FuncData} {ps : List Str} {sp : Sp} {E : L2.St → XK} {m : Str} {pos apos : Pos} {e o : Expr} {es : List Expr} {ta : TE} {t : TA} {pl : Sem Bool} (he : PE X o ta) (c : Cls X.K C) (hm : Meth X.K C m f) (F : FnOk X.prog X.w X.K X.mg X.base CX k f fd ps sp) (hr : Room k X.A) (hb : Binds X.K fd ps []) (hx : ∀ σ, PassesAt CX X σ (E σ)) (ha : PA X (e :: es) t)
    (hst : starEach (e :: es) X.env = (false, eval e X.env) :: starEach es X.env := by rfl) (hpl : (backTo pos (starEach es X.env)).any (·.1) = false := by rfl)
    (ht : eval (.Call (.Attribute o m apos) (e :: es) [] pos) X.env = (do
      let ov ← eval o X.env
      standAt apos.atName
      let (f, first) ← holding [ov] (getMethod ov m pl)
      callWith pos f first (backTo pos (starEach (e :: es) X.env)) (backToKw pos (keywordEach [] X.env))) := by rfl) :
    PE X (.Call (.Attribute o m apos) (e :: es) [] pos) (tMethS2 C m sp E ta t) := by
  refine ⟨fun pins s σ H Q I h => ?_⟩
  refine PySem.W.methodCall_KW (pl := pl) (thn (he.run pins s σ H _ I h) fun u s1 ⟨x, H1, I1, rx, a, dx, fs, ex, ea, l, q⟩ => ?_) ht
  subst ex
  obtain rfl : u = Value.ref a := rx
  refine getmeth_ok I1 ea c hm l ?_
  refine PySem.W.callWith_K (first := [.ref a]) (h₀ := X.base) I.ok.mod.kin hm.kp (thn (ha.run pos pins s1 σ H1 _ I1 q) fun us s2 ⟨vs, H2, I2, r, q2⟩ => ⟨I2.kIn, ?_⟩) hst hpl
  exact run_fnS (us := .ref a :: us) (vs := .ref a :: vs) F hr hb (hx σ) I2 (.cons rfl r) q2
end SP
namespace SP
open PySem L2 DV PM LK NV QD
variable {K : PySem.W.Frag}
def spRefused (K : PySem.W.Frag) (CB C : Addr) : Sp := fun vs H Q _ => ∃ B s dx0 v0 vt T R chs vch, vs = [.ref s, vch] ∧ Ex B H ∧ BObj K B H s dx0 CB C v0 vt T R ∧ Rp K B vch (.lst (List.map encCh chs)) ∧ schOk T ∧ refsOk T ∧ rowsOk T R ∧ (∀ c ∈ chs, chOk T c) ∧ room chs.length R ∧ (pairsOf R).length ≤ 900 ∧
  ∀ v vt' B' H', Stp [s] B H B' H' → Ex B' H' → BObj K B' H' s dx0 CB C v0 vt' T (if (advF T chs R 0).1.isNone = true then (advF T chs R 0).2 else R) → Rp K B' v (optN (advF T chs R 0).1) → Q v H'
def spIsBase (K : PySem.W.Frag) (CB C : Addr) : Sp := fun vs H Q _ => ∃ B s dx0 v0 vt T R R' vT vR, vs = [.ref s, vT, vR] ∧ Ex B H ∧ BObj K B H s dx0 CB C v0 vt T R ∧ Rp K B vT (encTs T) ∧ Rp K B vR (tabD R') ∧ schOk T ∧ rowsOk T R ∧ rowsOk T R' ∧ sim R R' ∧
  ∀ v B' H', Stp [] B H B' H' → Ex B' H' → Rp K B' v (.bl true) → Q v H'
theorem look_none {m : Str} {v0 vt : V} (h1 : (m == ("schema" : Str)) = false) (h2 : (m == ("_tables" : Str)) = false) : List.lookup m [(("schema" : Str), v0), ("_tables", vt)] = none := by
  simp only [List.lookup, h1, h2]
/-- a new dict of rows is told -/
theorem in_publ {B H : Hp} {a : Addr} {kvs : List (Key × V)} {l : List (Int × Row)} (e : Ex B H) (h : H a = some (.dK kvs)) (hb : B a = none) (r : RpK K B kvs (inKs l)) : Ex (upd B a (.dK kvs)) H ∧ Ex B (upd B a (.dK kvs)) ∧ Rp K (upd B a (.dK kvs)) (.ref a) (inD l) :=
  ⟨fun b u q => by
    by_cases z : b = a
    · subst z; rw [upd_same] at q; cases q; exact h
    · rw [upd_ne z] at q; exact e b u q, Ex.new hb, .dic upd_same (RpK.mono (Ex.new hb) r)⟩
theorem stp_pub {P : List Addr} {B0 H0 B H : Hp} {a : Addr} {o : HO} (s : Stp P B0 H0 B H) (hb : B a = none) (h0 : H0 a = none) : Stp P B0 H0 (upd B a o) H := ⟨s.ex.trans (Ex.new hb), s.fr, fun b u e => by rw [upd_ne (ne_of_none e h0)]; exact s.nb b u e, s.dm⟩
end SP
namespace T3
open PySem L2 DV PM SP LK NV
abbrev s_l_refused : Stmt := topS 27
abbrev N_l_refused : List Str := ["base", "batch", "found", "error"]
theorem sc_l_refused : FnScope N_l_refused ["base", "batch"] (defScope s_l_refused) := ⟨rfl, rfl, rfl, by decide +kernel, rfl, by decide +kernel, by decide +kernel⟩

section
variable {P : Program} {w : World} {K : PySem.W.Frag} {mg : Str → Option Value} {base : Heap} {C CB CN fN : Addr}
theorem ok_lrefused {f fM : Addr} {fd fdM : FuncData} (F : Fun K "_law_refused" "_law_refused" s_l_refused f fd) (TB : PySem.BadA.BadTxt K mg CN fN) (cls_B : Cls K CB) (M_make : Meth K CB "make" fM) (F_make : FnOk P w K mg base (L2.CX P w) 5 fM fdM ["self", "changes"] (spMakeB K CB C CN)) (B_make : Binds K fdM ["self", "changes"] []) :
    FnOk P w K mg base CX0 6 f fd ["base", "batch"] (spRefused K CB C) := by
  refine F.ok sc_l_refused (fun vs H Q E h => ?_) (fun cdv A outer s H vs Q E hr h => ?_)
  · obtain ⟨B, s, dx0, v0, vt, T, R, chs, vch, rfl, _⟩ := h
    rfl
  have nd := sc_l_refused.nd
  refine ⟨_, (pss_cons (ps_set (i := 2) nd rfl (.inl rfl) pe_non)
      (pss_cons (ps_try_as (i := 3) (c := .ref CN) (tb := fun W => tAsg (tMethS2 CB "make" (spMakeB K CB C CN) (WE W) (tVar 0) (tCons (tVar 1) tNil)) (gName 2)) (ts := fun a cls d => tAsg (tRowBadA CN a cls d (tVar 3)) (gName 2)) (Wout := fun _ _ _ _ => False) rfl rfl nd rfl rfl ⟨rfl, by decide, Or.inl TB.gC⟩ takes0
 (fun W pn xe tk _ => pss_one (ps_set (i := 2) nd rfl (.inl rfl) (by exact (pe_methS2 (pv 0) cls_B M_make F_make (hr.mono (by decide)) B_make (fun σ => passAt tk σ) (pa_cons (pv 1) pa_nil)))))
 (fun a oe cls d pn hz hf => pss_one (ps_set (i := 2) nd rfl (.inl rfl) (by exact (pe_rowBadA TB hz hf (pv 3))))))
      (pss_one (ps_ret (pv 2))))), ?_⟩
  obtain ⟨B, s, dx0, v0, vt, T, R, chs, vch, rfl, e0, bo, rch, hT, hX, hR, hch, hrm, hz, q⟩ := h
  have h0 : (L2.start N_l_refused [V.ref s, vch])[0]? = some (some (.ref s)) := rfl
  have h1 : (L2.start N_l_refused [V.ref s, vch])[1]? = some (some vch) := rfl
  have hlen : (L2.start N_l_refused [V.ref s, vch]).length = 4 := rfl
  generalize L2.start N_l_refused [V.ref s, vch] = σ at h0 h1 hlen ⊢
  refine st_seq ?_
  refine gname_go ?_
  dsimp only []
  have g0 : (σ.set 2 (some .non))[0]? = some (some (.ref s)) := by rw [List.getElem?_set, if_neg (by decide)]; exact h0
  have g1 : (σ.set 2 (some .non))[1]? = some (some vch) := by rw [List.getElem?_set, if_neg (by decide)]; exact h1
  have gl : (σ.set 2 (some .non)).length = 4 := by rw [List.length_set]; exact hlen
  generalize σ.set 2 (some .non) = σ1 at g0 g1 gl
  refine st_seq ?_
  have nm : List.lookup ("make" : Str) [(("schema" : Str), v0), ("_tables", vt)] = none := look_none (by decide +kernel) (by decide +kernel)
  refine ⟨.ref s, g0, s, dx0, _, rfl, bo.obj, nm, vch, g1, B, s, dx0, v0, vt, T, R, chs, vch, rfl, e0, bo, rch, hT, hX, hR, hch, hrm, hz, fun vt' B2 H2 R' hadv s2 e2 bo2 => ?_, fun i d B2 H2 R' hadv s2 e2 hd hb hn => ?_⟩
  · rw [hadv] at q
    have hg : (σ1.set 2 (some .non))[2]? = some (some .non) := by rw [List.getElem?_set, if_pos rfl, if_pos (by rw [gl]; decide)]
    exact ⟨.non, hg, q .non vt' B2 H2 s2 e2 bo2 .non⟩
  · rw [hadv] at q
    have hl3 : 3 < σ1.length := by rw [gl]; decide
    refine ⟨true, TB.te, fun _ a0 _ => ?_, fun q => Bool.noConfusion q⟩
    refine ⟨.ref a0, by rw [List.getElem?_set, if_pos rfl, if_pos hl3], rfl, rfl, d, .int (i : Nat), rfl, hd, ?_⟩
    refine ⟨.int (i : Nat), ?_, q _ vt B2 H2 s2.ofNil e2 (bo.step s2 (by simp)) (.int _)⟩
    rw [List.getElem?_set, if_neg (by decide), List.getElem?_set, if_pos rfl, if_pos (by rw [List.length_set, gl]; decide)]
end
end T3
/-! QT: == and != of dicts whose keys are tuples. -/
namespace QT
open PySem PySem.Spec PyProof.Rows L2
section
variable {prog : Program} {w : World} {κ : Type} [DecidableEq κ] {knd : HeapKind prog w κ} {A : Around} {s : Shared}
/-- what the loop asks of one entry -/
def ask (ys : List (κ × Addr × Value)) (e : κ → Bool) (x : κ × Addr × Value) : Bool := (atKey ys x.1).isSome && e x.1
theorem turn_all {α : Type} {f : α → Bool} {xs : List α} {i : Nat} {x : α} (h : xs[i]? = some x) : (xs.drop i).all f = (f x && (xs.drop (i + 1)).all f) := by
  obtain ⟨hl, hx⟩ := List.getElem?_eq_some_iff.mp h
  rw [← hx, List.drop_eq_getElem_cons hl, List.all_cons]
theorem same_heap {id : String} {a b : Addr} {xs ys : List (κ × Addr × Value)} {e : κ → Bool} {Q : Bool → Shared → Prop} {E : Value → Shared → Prop} (hA : knd.room A) (na : (a == sysModules) = false) (nb : (b == sysModules) = false) (dx : s.heap.DictOfH knd a xs) (dy : s.heap.DictOfH knd b ys)
    (hv : ∀ k p q, (k, p) ∈ xs → (k, q) ∈ ys → PySem.SeqAt.EqIn prog w A s p.2 q.2 (e k)) (q : Q (xs.length == ys.length && xs.all (ask ys e)) s) : wpAny (model prog w) A (Builtin.Dict.samePairs id a b) Q E s := by
  obtain ⟨o1, e1, n1, g1, _, t1, l1, k1, _⟩ := dx
  obtain ⟨o2, e2, n2, g2, _, t2, l2, k2, u2⟩ := dy
  have z1 : e1.size = xs.length := size_of_entries l1
  have z2 : e2.size = ys.length := size_of_entries l2
  have f1 : ¬ (a == sysModules) = true := by simp [na]
  have f2 : ¬ (b == sysModules) = true := by simp [nb]
  unfold Builtin.Dict.samePairs Builtin.Dict.showsAll
  rw [if_neg f1, if_neg f2]
  refine wpAny_bind (wpAny_pure ?_)
  refine wpAny_bind (wpAny_pure ?_)
  refine wpAny_bind (wpAny_dictEntries g1 t1 ?_)
  refine wpAny_bind (wpAny_dictEntries g2 t2 ?_)
  dsimp only
  by_cases hl : xs.length = ys.length
  · rw [if_neg (by rw [z1, z2, hl]; simp)]
    have q2 : Q ((xs.drop 0).all (ask ys e)) s := by simpa [hl] using q
    refine wpAny_bind (wpAny_dictEpoch g1 t1 ?_)
    refine wpAny_bind ?_
    rw [Std.Legacy.Range.forIn_eq_forIn_range']
    simp only [Std.Legacy.Range.size, Nat.sub_zero, Nat.add_sub_cancel, Nat.div_one]
    refine wpAny_forIn_list _ (fun rest b0 s0 => b0 = (none, ()) ∧ s0 = s ∧ ∃ i, i ≤ e1.size ∧ rest = List.range' i (e1.size - i) ∧ Q ((xs.drop i).all (ask ys e)) s) _ ?_ ?_ _ _ ⟨rfl, rfl, 0, Nat.zero_le _, by simp, q2⟩
    · rintro j rest b0 s0 ⟨rfl, rfl, i, hi, hr, qi⟩
      have lt : i < e1.size := by
        refine Nat.lt_of_not_le fun hge => ?_
        rw [Nat.sub_eq_zero_of_le (by omega)] at hr
        cases hr
      rw [show e1.size - i = e1.size - (i + 1) + 1 by omega, List.range'_succ] at hr
      obtain ⟨rfl, rfl⟩ := List.cons.inj hr
      obtain ⟨⟨k, p⟩, hx⟩ : ∃ x, xs[j]? = some x := ⟨_, List.getElem?_eq_getElem (by omega)⟩
      have hen : e1[j]? = some (entryOfKey knd (k, p)) := by rw [entry_at l1 j, hx]; rfl
      have hmem : (k, p) ∈ xs := List.mem_of_getElem? hx
      rw [turn_all hx] at qi
      refine wpAny_bind (wpAny_dictEntries g1 t1 ?_)
      rw [hen]
      refine wpAny_bind (wpAny_holding (wpAny_bind (wpAny_dictFind_heap hA (k1 _ hmem) g2 t2 l2 k2 u2 (fun hno => ?_) (fun i2 p2 hi2 => ?_))))
      · have none' : ask ys e (k, p) = false := by
          have : atKey ys k = none := by
            cases hq : atKey ys k with
            | none => rfl
            | some p2 =>
              exfalso
              obtain ⟨i2, hi2⟩ : ∃ i2, ys[i2]? = some (k, p2) := by
                have hm : (k, p2) ∈ ys := by
                  unfold atKey at hq
                  obtain ⟨y, hy, ey⟩ := Option.map_eq_some_iff.mp hq
                  have h1 := List.find?_some hy
                  have h2 := List.mem_of_find?_eq_some hy
                  have h3 : y.1 = k := by simpa using h1
                  rw [← h3, ← ey]; exact h2
                exact List.mem_iff_getElem?.mp hm
              exact hno i2 p2 hi2
          unfold ask
          rw [this]; rfl
        rw [none', Bool.false_and] at qi
        refine wpAny_pure ?_
        exact wpAny_pure (wpAny_pure qi)
      · have hk : ask ys e (k, p) = e k := by
          have : (atKey ys k).isSome = true := by
            unfold atKey
            rw [Option.isSome_map, List.find?_isSome]
            exact ⟨(k, p2), List.mem_of_getElem? hi2, by simp⟩
          unfold ask
          rw [this, Bool.true_and]
        rw [hk] at qi
        refine wpAny_bind (wpAny_dictEntries g2 t2 ?_)
        have h2 : e2[i2]? = some (entryOfKey knd (k, p2)) := by rw [entry_at l2 i2, hi2]; rfl
        rw [h2]
        refine wpAny_holding (hv k p p2 hmem (List.mem_of_getElem? hi2) _ _ ?_)
        cases hek : e k
        · rw [hek, Bool.false_and] at qi
          exact wpAny_pure (wpAny_pure qi)
        · rw [hek, Bool.true_and] at qi
          refine wpAny_bind (wpAny_dictEpoch g1 t1 ?_)
          rw [if_neg (by simp)]
          exact wpAny_pure ⟨rfl, rfl, j + 1, lt, rfl, qi⟩
    · rintro b0 s0 ⟨rfl, rfl, i, hi, hr, qi⟩
      have hn : i = e1.size := by
        refine Nat.le_antisymm hi (Nat.le_of_not_lt fun hne => ?_)
        rw [show e1.size - i = e1.size - (i + 1) + 1 by omega, List.range'_succ] at hr
        cases hr
      rw [hn, z1, List.drop_length] at qi
      exact wpAny_pure qi
  · rw [if_pos (by rw [z1, z2]; simpa using hl)]
    have hq : (xs.length == ys.length) = false := by simpa using hl
    rw [hq, Bool.false_and] at q
    exact wpAny_bind (wpAny_rule (wpAny_pure q))
/-- != of the two -/
theorem ne_heap {a b : Addr} {xs ys : List (κ × Addr × Value)} {e : κ → Bool} {Q : Value → Shared → Prop} {E : Value → Shared → Prop} (hA : knd.room A.in1) (hu : A.units < cLine) (na : (a == sysModules) = false) (nb : (b == sysModules) = false) (dx : s.heap.DictOfH knd a xs) (dy : s.heap.DictOfH knd b ys)
    (hv : ∀ k p q, (k, p) ∈ xs → (k, q) ∈ ys → PySem.SeqAt.EqIn prog w A.in1 s p.2 q.2 (e k)) (q : Q (.bool (!(xs.length == ys.length && xs.all (ask ys e)))) s) : wpAny (model prog w) A (compareOp .NotEq (.ref a) (.ref b)) Q E s := by
  have tx := dx.typeIs
  have ty := dy.typeIs
  refine wpAny_richCompare_same_room (op := .NotEq) tx ty PySem.F.slot_dict_ne (wpAny_call_entry PySem.F.slot_dict_ne tx PySem.F.entry_dict_ne ?_ (PySem.F.args_dict_ne_2 _ _)) hu
  show wpAny _ _ (Builtin.Dict.dictSlotArgs _ ⟨[Value.ref a, Value.ref b], []⟩ >>= _) _ _ _
  unfold Builtin.Dict.dictSlotArgs
  refine wpAny_bind (wpAny_bind (wpAny_notOrdered_dict tx (wpAny_pure (wpAny_bind (wpAny_isInstance (T := "dict") ty PySem.F.sub_dict_dict ?_)))))
  rw [show (!true) = false from rfl, if_neg Bool.false_ne_true]
  refine wpAny_bind (wpAny_pure (wpAny_bind (wpAny_pure (wpAny_bind (same_heap hA na nb dx dy hv ?_)))))
  refine wpAny_pure ⟨_, rfl, nofun, ?_⟩
  rw [show ∀ b : Bool, (b == false) = !b by decide]
  exact q
end
open DV
/-- the entries of one such dict beside those of the other, by e -/
def Ents (K : PySem.W.Frag) (H : Hp) (ks ls : List (List Key × V)) (e : List Key → Bool) : Prop := ∀ k v u, (k, v) ∈ ks → (k, u) ∈ ls → ∃ d1 d2, Dp K H v d1 ∧ Dp K H u d2 ∧ SeqAt.shaped d1 = true ∧ SeqAt.shaped d2 = true ∧ e k = PyData.eqv d1 d2
def sameB (ks ls : List (List Key × V)) (e : List Key → Bool) : Bool := ks.length == ls.length && ks.all fun p => (valV ls p.1).isSome && e p.1
theorem kt_of {H : Hp} : ∀ {ks : List (List Key × V)} {xs : List (List Key × Addr × Value)} {x : List Key × Addr × Value}, L2.KT H ks xs → x ∈ xs → ∃ v, (x.1, v) ∈ ks ∧ RelV v x.2.2 := fun {ks xs x} r => by
  unfold L2.KT at r
  induction r with
  | nil => intro h; cases h
  | @cons p q ps qs h t ih =>
    intro hx
    rcases List.mem_cons.mp hx with rfl | hx
    · exact ⟨p.2, by rw [← h.1]; exact List.mem_cons_self, h.2.2⟩
    · obtain ⟨v, h1, h2⟩ := ih hx
      exact ⟨v, List.mem_cons_of_mem _ h1, h2⟩
theorem kt_all {H : Hp} {ls : List (List Key × V)} {ys : List (List Key × Addr × Value)} (ry : L2.KT H ls ys) (e : List Key → Bool) : ∀ {ks : List (List Key × V)} {xs : List (List Key × Addr × Value)}, L2.KT H ks xs → xs.all (ask ys e) = ks.all fun p => (valV ls p.1).isSome && e p.1 := fun {ks xs} r => by
  unfold L2.KT at r
  induction r with
  | nil => rfl
  | @cons p q ps qs h t ih =>
    rw [List.all_cons, List.all_cons, ih]
    have e1 : (valV ls p.1).isSome = (atKey ys q.1).isSome := by
      have z := (ry.val p.1).isSome_eq
      rw [Option.isSome_map] at z
      rw [z, h.1]
    unfold ask
    rw [e1, h.1]
def rNeT (K : PySem.W.Frag) : R2 := fun x y H Q => ∃ a b ks ls e, x = .ref a ∧ y = .ref b ∧ Rd H a (.dT ks) ∧ Rd H b (.dT ls) ∧ Ents K H ks ls e ∧ Q (.bl (!sameB ks ls e)) H
theorem op_neT {X : Cx} (hu : X.A.in1.units + 64 < cLine) : OpR X (compareOp .NotEq) (rNeT X.K) := by
  intro pins s σ H x y v u Q I rx ry h
  obtain ⟨a, b, ks, ls, e, rfl, rfl, ea, eb, hp, q⟩ := h
  obtain rfl : v = Value.ref a := rx
  obtain rfl : u = Value.ref b := ry
  obtain ⟨_, ya, xs, ra, da⟩ := dt_rd I.hok ea
  obtain ⟨_, yb, ys, rb, db⟩ := dt_rd I.hok eb
  have hA : X.A.units < cLine := by have : X.A.in1.units = X.A.units + 1 := rfl; omega
  have hA1 : X.A.units + 1 < cLine := by have : X.A.in1.units = X.A.units + 1 := rfl; omega
  refine ne_heap (e := e) (tupleKind_room_in1 hA1) hA ya yb da db (fun k p q' hx hy => ?_) ?_
  · obtain ⟨v1, h1, r1⟩ := kt_of ra hx
    obtain ⟨v2, h2, r2⟩ := kt_of rb hy
    obtain ⟨d1, d2, a1, a2, b1, b2, he⟩ := hp k v1 v2 h1 h2
    obtain ⟨as, w1⟩ := Dp.reads I d1 v1 p.2 a1 r1
    obtain ⟨bs, w2⟩ := Dp.reads I d2 v2 q'.2 a2 r2
    rw [he]
    exact (SeqAt.eqAt_reads d1 d2 X.A.in1 s p.2 q'.2 as bs w1 w2 (SeqAt.canLay_of_shaped b1) (SeqAt.canLay_of_shaped b2) (SeqAt.room_of_shaped b1 hu)).inModel X.prog X.w
  · have hl : (xs.length == ys.length) = (ks.length == ls.length) := by rw [← Paired.length ra, ← Paired.length rb]
    rw [hl, kt_all rb e ra]
    exact fin_bl I q rfl
end QT
/-! DT2: dicts with tuple keys: for .. in d.items(). -/
namespace DT2
open PySem PySem.Spec PyProof.Rows L2 DV
/-- what a locked dict with tuple keys holds, by places -/
theorem frz_ent {X : Cx} {pins : List (Addr × Obj)} {σ : L2.St} {H : Hp} {s : Shared} {d : Addr} {o : Obj} {kvs : List (List Key × V)} (I : Inv X pins σ H s) (h : H d = some (.frz o (.dT kvs))) :
    (d == sysModules) = false ∧ ∃ (es : Array DictEntry) (ep : Nat), DT.Raw s.heap d es ep ∧ o.data = .dict es ep ∧ es.size = kvs.length ∧
      ∀ (i : Nat) (k : List Key) (v : V), kvs[i]? = some (k, v) → ∃ (en : DictEntry) (q : Addr), es[i]? = some en ∧ en.key = .ref q ∧ H q = some (.tup (k.map kV)) ∧ RelV v en.val := by
  obtain ⟨hd, _, hs, xs, pr, ob, es, ep, ho, hx, hdt, he, _⟩ := I.hok d _ h
  rw [hd] at ho
  cases ho
  have l1 : es.size = xs.length := size_of_entries he
  have l2 : kvs.length = xs.length := Paired.length pr
  refine ⟨hs, es, ep, ⟨o, hd, hx, hdt⟩, hdt, by omega, fun i k v e => ?_⟩
  obtain ⟨b, hb, _, e2, e3⟩ := paired_get pr e
  have q := entry_at he i
  rw [hb] at q
  exact ⟨_, b.2.1, q, rfl, e2, e3⟩
/-- the pairs of a locked dict with tuple keys -/
def Itit (d : Addr) (o : Obj) (kvs : List (List Key × V)) : It :=
  { go := fun i H => H d = some (.frz o (.dT kvs)) ∧ i < kvs.length
    yld := fun i H x H' => ∃ (T : Addr) (k : List Key) (v : V) (q : Addr), kvs[i]? = some (k, v) ∧ x = .ref T ∧ H T = none ∧ H q = some (.tup (k.map kV)) ∧ H' = upd H T (.tup [.ref q, v])
    stop := fun i H => H d = some (.frz o (.dT kvs)) ∧ kvs.length ≤ i }
theorem turn_itemsT {P : Program} {w : World} {K : PySem.W.Frag} {d : Addr} {o : Obj} {ep : Nat} {es : Array DictEntry} {kvs : List (List Key × V)} {elts : List Expr} {kk : Nat} {tpos : Pos} (it : Addr) (hod : o.data = .dict es ep) :
    Turn P w K (.Tuple elts kk tpos) (Itit d o kvs) [it] it (fun i h => ∃ ok ov, IsItemIter h it d i es.size ep ok ov) where
  mem := by simp
  obj := fun i h st b hb => by
    cases (show b = it by simpa using hb)
    obtain ⟨a1, a2, e⟩ := st
    exact ⟨_, e, fun v z => nomatch z⟩
  keep := fun i h h' st k => st.imp fun _ y => y.imp fun _ e => k it (by simp) _ e
  item := by
    intro X hP hw hK hc i pins s σ H E I hf st hg
    subst hP hw hK
    obtain ⟨hd, hi⟩ := hg
    obtain ⟨_, es1, ep1, raw, hdt, hsz, ent⟩ := frz_ent I hd
    obtain ⟨e1, e2⟩ := dict_ep hod hdt
    subst e1 e2
    obtain ⟨⟨k, v⟩, hkv⟩ : ∃ p, kvs[i]? = some p := ⟨_, List.getElem?_eq_getElem hi⟩
    obtain ⟨en, q, hen, hkey, hq, rv⟩ := ent i k v hkv
    obtain ⟨b1, b2, he⟩ := st
    have below : it < s.heap.objs.size := Heap.lt_size he
    have his : i < es1.size := by omega
    have hent : es1[i] = en := by
      rw [Array.getElem?_eq_getElem his] at hen
      exact Option.some.inj hen
    refine DT.nextI he raw his fun h1 out tup _ same => ?_
    rw [hent] at out tup
    refine ⟨_, rfl, wpAny_letOwnedTupleGo_items (s := { s with heap := h1 }) out fun h2 back sb => ?_⟩
    have tup2 := (sb.2 _ (Nat.ne_of_gt below)).trans tup
    rw [hkey] at tup2
    have I2 := I.turnedNew (t' := s.toks) (h' := h2) (ob := .tup [.ref q, v]) (ch := [it]) (fun b ob hb e => (sb.2 b (by simpa using hb)).trans (same b ob (by simpa using hb) e)) hf (Nat.le_refl _)
      ⟨by show 2 ≤ sizeLine; decide, [.ref q, en.val], .cons rfl (.cons rv .nil), ⟨_, tup2, rfl, _, rfl⟩⟩
    refine ⟨.ref s.heap.objs.size, _, I2, rfl, ⟨_, k, v, q, hkv, rfl, I.hok.fresh (Nat.le_refl _), hq, rfl⟩, ⟨_, _, back⟩, fun b hb => ?_⟩
    cases (show b = it by simpa using hb)
    rw [upd_ne (Nat.ne_of_lt below)]
    exact (hf _ hb).1
  done := by
    intro X hP hw hK hc i pins s σ H E I hf st hg
    subst hP hw hK
    obtain ⟨hd, hi⟩ := hg
    obtain ⟨f0, f1, f2, f3, f4, f5⟩ := hf it (by simp)
    obtain ⟨_, es1, ep1, raw, hdt, hsz, _⟩ := frz_ent I hd
    obtain ⟨e1, e2⟩ := dict_ep hod hdt
    subst e1 e2
    obtain ⟨b1, b2, he⟩ := st
    exact DT.endI (I.ok.hd hc) he raw (by omega) fun h1 eb => ⟨rfl, I.turned (t' := s.toks) (fun b ob hb e => eb b ob hb e) f0 f1 f3 f4 f5⟩
  self := fun A i s Q E st h => PySem.W.kcp_self st.choose_spec.choose_spec h
def iItemsT (td : TE) : TI := fun σ H R => td σ H fun x H1 => ∃ d o kvs, x = .ref d ∧ H1 d = some (.frz o (.dT kvs)) ∧ R (Itit d o kvs) H1
theorem pi_itemsT {X : Cx} {e : Expr} {td : TE} {apos cpos : Pos} {elts : List Expr} {kk : Nat} {tpos : Pos} (he : PE X e td) (hbase : attributeBase e "items" X.env (eval e X.env) = eval e X.env := by rfl) (hline : (apos.endLine == cpos.line) = true := by rfl) :
    PI X (.Tuple elts kk tpos) (.Call (.Attribute e "items" apos) [] [] cpos) (iItemsT td) := by
  refine ⟨fun pins s σ H R I h => ?_⟩
  refine wpAny_Call_method (T := "dict") (id := "dict.items") hbase rfl hline PySem.F.plainAttrs_dict PySem.F.slot_dict_items PySem.F.type_dict_items (thn (he.run pins s σ H _ I h) fun u s1 ⟨x, H1, I1, rx, d, o, kvs, ex, hd, q⟩ => ?_)
  cases ex
  cases (show u = Value.ref d from rx)
  obtain ⟨hs, es, ep, raw, hdt, hsz, _⟩ := frz_ent I1 hd
  have nod : ∀ o', s1.heap.get? d = some o' → o'.dict = none := fun o' e => by
    obtain ⟨o1, e1, x1, _⟩ := raw
    rw [e1] at e
    cases e
    exact x1.2.1
  refine ⟨raw.typeIs, fun a ea => ?_, ?_⟩
  · cases ea
    obtain ⟨o1, e1, x1, _⟩ := raw
    exact ⟨o1, e1, nod o1 e1⟩
  show wpAny _ _ (callWith cpos (.builtin "dict.items") [.ref d] [] []) _ X.xe s1
  have I2 : L2.Inv X pins σ H1 { s1 with heap := s1.heap.push { cls := .type "dict_items", data := .fields #[.ref d] } } := I1.kept (t' := s1.toks) fun b ob z => Heap.get?_push_of_some _ z
  have fin : wpAny (model X.prog X.w) X.A (pyIter (.ref s1.heap.objs.size)) (PIE X pins σ (.Tuple elts kk tpos) R) X.xe { s1 with heap := s1.heap.push { cls := .type "dict_items", data := .fields #[.ref d] } } :=
    DT.iterI (d := d) ⟨_, Heap.get?_push_size _ rfl, rfl, rfl⟩ (raw.push _) (pi_one (tk := s1.toks) I2 _ (turn_itemsT _ hdt) ⟨.none, .none, Heap.get?_push_size _ rfl⟩ q)
  exact method_meetsIn PySem.F.slot_dict_items PySem.F.entry_dict_items rfl (PySem.evalArgs_none ⟨rfl, raw.typeIs, PySem.F.args_dict_items_1 _, _, DT.meetsItems hs, raw, fin⟩)
end DT2
/-! DP: dict(xs) of a list of pairs whose keys are tuples; such a dict is emptied. -/
namespace QT
open PySem PySem.Spec PyProof.Rows L2
/-- pairs put one behind the other -/
def mergeT (acc kvs : List (List Key × V)) : List (List Key × V) := kvs.foldl (fun a kv => putK a kv.1 kv.2) acc
theorem mergeT_len : ∀ {kvs acc : List (List Key × V)}, (mergeT acc kvs).length ≤ acc.length + kvs.length
  | [], acc => Nat.le_refl _
  | kv :: r, acc => by
    have h1 := mergeT_len (kvs := r) (acc := putK acc kv.1 kv.2)
    have h2 := length_putK acc kv.1 kv.2
    rw [List.length_cons]
    show (mergeT (putK acc kv.1 kv.2) r).length ≤ _
    omega
theorem kt_merge {H : Hp} : ∀ {kvs acc : List (List Key × V)} {qs xs : List (List Key × Addr × Value)}, L2.KT H acc xs → L2.KT H kvs qs → L2.KT H (mergeT acc kvs) (storedAllH xs qs)
  | [], acc, qs, xs, r, t => by
    unfold L2.KT at t
    cases t
    exact r
  | kv :: l, acc, qs, xs, r, t => by
    unfold L2.KT at t
    cases t with
    | @cons _ q _ qs h t =>
      have h2 := r.put kv.1 (b := q.2.1) (y := kv.2) (u := q.2.2) h.2.1 h.2.2
      rw [h.1] at h2
      show L2.KT H (mergeT (putK acc kv.1 kv.2) l) (storedAllH (storedH xs q.1 q.2.1 q.2.2) qs)
      rw [h.1]
      exact kt_merge h2 t
/-- the pair at p: a tuple of a key tuple and a value -/
def PairT (K : PySem.W.Frag) (H : Hp) (p : Addr) (kv : List Key × V) : Prop := ∃ c, SqT K H p [.ref c, kv.2] ∧ H c = some (.tup (kv.1.map kV))
theorem pairs_ofT {X : Cx} {pins : List (Addr × Obj)} {σ : L2.St} {H : Hp} {s : Shared} (I : L2.Inv X pins σ H s) : ∀ {ps : List Addr} {kvs : List (List Key × V)}, Paired (PairT X.K H) ps kvs →
    ∃ qs : List (List Key × Addr × Value), L2.KT H kvs qs ∧ qs.length = ps.length ∧ ∀ (j : Nat) (q : List Key × Addr × Value), qs[j]? = some q → ∃ b : Addr, ps[j]? = some b ∧ s.heap.IsTuple b #[.ref q.2.1, q.2.2] ∧ (tupleKind (mixKind X.prog X.w)).is s.heap q.1 q.2.1
  | _, _, .nil => ⟨[], .nil, rfl, fun j q e => by simp at e⟩
  | _, _, .cons (a := p) (b := kv) h t => by
    obtain ⟨qs, r, hl, hp⟩ := pairs_ofT I t
    obtain ⟨c, ht, hc⟩ := h
    obtain ⟨its, rv, tp, _⟩ := I.tuple ht
    obtain ⟨u, y, rfl, ru, ry⟩ := vals2 rv
    cases (show u = Value.ref c from ru)
    refine ⟨(kv.1, c, y) :: qs, .cons ⟨rfl, hc, ry⟩ r, by rw [List.length_cons, List.length_cons, hl], fun j q e => ?_⟩
    cases j with
    | zero =>
      cases (show (kv.1, c, y) = q from Option.some.inj e)
      exact ⟨p, rfl, tp, key_of I.hok hc⟩
    | succ j =>
      obtain ⟨b, e1, e2, e3⟩ := hp j q (by simpa using e)
      exact ⟨b, by simpa using e1, e2, e3⟩
def rDictT (K : PySem.W.Frag) : List V → Hp → VK → Prop := fun xs H Q => ∃ (a : Addr) (ps : List Addr) (kvs : List (List Key × V)), xs = [.ref a] ∧ SqL K H a (ps.map V.ref) ∧ Paired (PairT K H) ps kvs ∧ ∀ p, H p = none → Q (.ref p) (upd H p (.dT (mergeT [] kvs)))
theorem call_dictT {X : Cx} (hcalm : X.calm = true) (hu : X.A.units + 2 < cLine) : CallR X (.type "dict") (rDictT X.K) := by
  intro pins s σ H xs us Q I r q
  obtain ⟨a, ps, kvs, rfl, hq, hp, q⟩ := q
  obtain ⟨u, rfl, rx⟩ := vals1 r
  cases rx
  obtain ⟨its, rv, pl, hz⟩ := I.list hq
  obtain rfl := refs_at rv
  rw [List.length_map] at hz
  obtain ⟨qs, rel, hl, hpr⟩ := pairs_ofT I hp
  obtain ⟨o, n, ho, hc, hd, hdat⟩ := pl
  have P := PairArg.list (prog := X.prog) (w := X.w) a (ps.map Value.ref).toArray (fun j => (ps[j]?).getD 0) (qs.map fun q => (Value.ref q.2.1, q.2.2))
  have ml : ((qs.map fun q => (Value.ref q.2.1, q.2.2)) : List (Value × Value)).length = qs.length := List.length_map _
  refine call_dict_pairsH (knd := tupleKind (mixKind X.prog X.w)) (ps := qs) P (I.ok.hd hcalm) (tupleKind_room_in1 (A := X.A.in1) (by have : X.A.in1.units = X.A.units + 1 := rfl; omega)) ⟨⟨o, n, ho, hc, hd, hdat⟩, by simp [hl], fun j k v e => ?_⟩ ⟨ml.symm, fun i k v e => ?_⟩ (fun h' keep x hx => ?_) (by rw [ml, hl]; exact hz) fun h' tk hd' keep => ?_
  · rw [List.getElem?_map] at e
    obtain ⟨q0, hq0, e⟩ := Option.map_eq_some_iff.mp e
    cases e
    obtain ⟨b, e1, e2, _⟩ := hpr j q0 hq0
    refine ⟨?_, .inl ?_⟩
    · simp [e1]
    · show s.heap.IsTuple ((ps[j]?).getD 0) _
      rw [e1]
      exact e2
  · rw [PairRel, List.getElem?_map] at e
    obtain ⟨q0, hq0, e⟩ := Option.map_eq_some_iff.mp e
    cases e
    exact ⟨q0.1, q0.2.1, hq0, rfl⟩
  · obtain ⟨j, hj⟩ := List.mem_iff_getElem?.mp hx
    obtain ⟨_, _, _, o1, i1, n1, g1, g2⟩ := hpr j x hj
    exact ⟨o1, i1, n1, keep _ _ (Nat.ne_of_lt (Heap.lt_size g1)) (by simp) g1, g2⟩
  · obtain ⟨o1, es, ep, h1, h2, h3, h4, _, h6⟩ := hd'
    have hm : (s.heap.objs.size == sysModules) = false := beq_eq_false_iff_ne.mpr (Nat.ne_of_gt I.big)
    have hk : kvs.length = qs.length := Paired.length rel
    have hln : (mergeT [] kvs).length ≤ sizeLine := by
      have := mergeT_len (kvs := kvs) (acc := [])
      rw [List.length_nil] at this
      omega
    have hf : H s.heap.objs.size = none := I.hok.fresh (Nat.le_refl _)
    exact ⟨.ref s.heap.objs.size, upd H s.heap.objs.size (.dT (mergeT [] kvs)), I.laid (t' := tk) (fun b o e => keep b o (by simp) e) (Nat.le_refl _) (show ObjOk X.prog X.w _ _ _ (.dT (mergeT [] kvs)) from ⟨hln, hm, _, (kt_merge (.nil : L2.KT H [] []) rel).keeps (fun b ys e => by rw [upd_ne (ne_of_none e hf)]; exact e), o1, es, ep, h1, h2, h3, h4, h6⟩), rfl, q _ hf⟩
/-- d.clear() -/
def rClearT : V → List V → Hp → VK → Prop := fun x vs H Q => ∃ (a : Addr) (kvs : List (List Key × V)), x = .ref a ∧ vs = [] ∧ H a = some (.dT kvs) ∧ Q .non (upd H a (.dT []))
theorem mt_clearT {X : Cx} : MtR X "dict.clear" rClearT := by
  intro pins s σ H x vs v us Q I rx rv h
  obtain ⟨a, kvs, rfl, rfl, e, q⟩ := h
  cases (show v = Value.ref a from rx)
  obtain rfl := rv.zero
  obtain ⟨z, nsys, xs, pr, o, es, ep, g1, g2, g3, g4, _⟩ := dt_of I.hok e
  have hl : es.size = xs.length := size_of_entries g4
  have hk : kvs.length = xs.length := Paired.length pr
  have raw : s.heap.DictRaw a es ep := ⟨o, g1, g2, g3⟩
  refine call_meetsIn PySem.F.slot_dict_clear raw.typeIs PySem.F.entry_dict_clear (PySem.F.args_dict_clear_1 _) (meets_dict_clear_raw a) ⟨es, ep, raw, by omega, fun h' r2 hs => ?_⟩
  obtain ⟨o2, j1, j2, j3⟩ := r2
  exact ⟨.non, _, d_write (t' := s.toks) I (by rw [e]; exact True.intro) hs ⟨o2, j1⟩ (show ObjOk X.prog X.w _ _ _ (.dT []) from ⟨Nat.zero_le _, nsys, [], .nil, o2, #[], ep + 1, j1, j2, j3, rfl, List.nodup_nil⟩), rfl, q⟩
end QT
/-! DD: a dict display whose keys are tuples; == of such dicts. -/
namespace QT
open PySem PySem.Spec PyProof.Rows L2 DV
section
variable {prog : Program} {w : World} {κ : Type} [DecidableEq κ] {knd : HeapKind prog w κ} {A : Around} {s : Shared}
/-- == of the two -/
theorem eq_heap {a b : Addr} {xs ys : List (κ × Addr × Value)} {e : κ → Bool} {Q : Value → Shared → Prop} {E : Value → Shared → Prop} (hA : knd.room A.in1) (hu : A.units < cLine) (na : (a == sysModules) = false) (nb : (b == sysModules) = false) (dx : s.heap.DictOfH knd a xs) (dy : s.heap.DictOfH knd b ys)
    (hv : ∀ k p q, (k, p) ∈ xs → (k, q) ∈ ys → PySem.SeqAt.EqIn prog w A.in1 s p.2 q.2 (e k)) (q : Q (.bool (xs.length == ys.length && xs.all (ask ys e))) s) : wpAny (model prog w) A (compareOp .Eq (.ref a) (.ref b)) Q E s := by
  have tx := dx.typeIs
  have ty := dy.typeIs
  refine wpAny_richCompare_same_room (op := .Eq) tx ty PySem.F.slot_dict_eq (wpAny_call_entry PySem.F.slot_dict_eq tx PySem.F.entry_dict_eq ?_ (PySem.F.args_dict_eq_2 _ _)) hu
  show wpAny _ _ (Builtin.Dict.dictSlotArgs _ ⟨[Value.ref a, Value.ref b], []⟩ >>= _) _ _ _
  unfold Builtin.Dict.dictSlotArgs
  refine wpAny_bind (wpAny_bind (wpAny_notOrdered_dict tx (wpAny_pure (wpAny_bind (wpAny_isInstance (T := "dict") ty PySem.F.sub_dict_dict ?_)))))
  rw [show (!true) = false from rfl, if_neg Bool.false_ne_true]
  refine wpAny_bind (wpAny_pure (wpAny_bind (wpAny_pure (wpAny_bind (same_heap hA na nb dx dy hv ?_)))))
  refine wpAny_pure ⟨_, rfl, nofun, ?_⟩
  rw [show ∀ b : Bool, (b == true) = b by decide]
  exact q
end
def rEqT (K : PySem.W.Frag) : R2 := fun x y H Q => ∃ a b ks ls e, x = .ref a ∧ y = .ref b ∧ Rd H a (.dT ks) ∧ Rd H b (.dT ls) ∧ Ents K H ks ls e ∧ Q (.bl (sameB ks ls e)) H
theorem op_eqT {X : Cx} (hu : X.A.in1.units + 64 < cLine) : OpR X (compareOp .Eq) (rEqT X.K) := by
  intro pins s σ H x y v u Q I rx ry h
  obtain ⟨a, b, ks, ls, e, rfl, rfl, ea, eb, hp, q⟩ := h
  obtain rfl : v = Value.ref a := rx
  obtain rfl : u = Value.ref b := ry
  obtain ⟨_, ya, xs, ra, da⟩ := dt_rd I.hok ea
  obtain ⟨_, yb, ys, rb, db⟩ := dt_rd I.hok eb
  have hA : X.A.units < cLine := by have : X.A.in1.units = X.A.units + 1 := rfl; omega
  have hA1 : X.A.units + 1 < cLine := by have : X.A.in1.units = X.A.units + 1 := rfl; omega
  refine eq_heap (e := e) (tupleKind_room_in1 hA1) hA ya yb da db (fun k p q' hx hy => ?_) ?_
  · obtain ⟨v1, h1, r1⟩ := kt_of ra hx
    obtain ⟨v2, h2, r2⟩ := kt_of rb hy
    obtain ⟨d1, d2, a1, a2, b1, b2, he⟩ := hp k v1 v2 h1 h2
    obtain ⟨as, w1⟩ := Dp.reads I d1 v1 p.2 a1 r1
    obtain ⟨bs, w2⟩ := Dp.reads I d2 v2 q'.2 a2 r2
    rw [he]
    exact (SeqAt.eqAt_reads d1 d2 X.A.in1 s p.2 q'.2 as bs w1 w2 (SeqAt.canLay_of_shaped b1) (SeqAt.canLay_of_shaped b2) (SeqAt.room_of_shaped b1 hu)).inModel X.prog X.w
  · have hl : (xs.length == ys.length) = (ks.length == ls.length) := by rw [← Paired.length ra, ← Paired.length rb]
    rw [hl, kt_all rb e ra]
    exact fin_bl I q rfl
theorem roomD {k : Nat} {A : PySem.Around} (hr : Room k A) : A.units < cLine := by have := hr.units; omega
/-- the pairs of a display: a key tuple, and its value -/
def DispT (H : Hp) (x : V × V) (kv : List Key × V) : Prop := ∃ c, x = (.ref c, kv.2) ∧ H c = some (.tup (kv.1.map kV))
/-- {k: v, ..} with keys that are new tuples -/
def tDispT (trs : List (TE × TE)) : TE := fun σ H Q => ∀ p, H p = none → tPairs trs σ (upd H p (.dT [])) fun ps H2 => H2 p = some (.dT []) ∧ ∃ kvs, Paired (DispT H2) ps kvs ∧ kvs.length ≤ 15 ∧ Q (.ref p) (upd H2 p (.dT (mergeT [] kvs)))
theorem carry_of {X : Cx} {pins : List (Addr × Obj)} {σ : L2.St} {H : Hp} {s : Shared} (I : L2.Inv X pins σ H s) : ∀ {ps : List (V × V)} {kvs : List (List Key × V)} {ws : List (Value × Value)}, Paired (DispT H) ps kvs → VV ps ws →
    ∃ qs, CarriesH (tupleKind (mixKind X.prog X.w)) s.heap ws qs ∧ L2.KT H kvs qs
  | _, _, _, .nil, r => by cases r; exact ⟨[], True.intro, .nil⟩
  | _, _, _, .cons (b := kv) h t, r => by
    cases r with
    | @cons _ b _ bs g r =>
      obtain ⟨qs, c, k⟩ := carry_of I t r
      obtain ⟨b1, b2⟩ := b
      obtain ⟨a, rfl, ha⟩ := h
      cases (show b1 = Value.ref a from g.1)
      exact ⟨(kv.1, a, b2) :: qs, ⟨rfl, rfl, key_of I.hok ha, c⟩, .cons ⟨rfl, ha, g.2⟩ k⟩
theorem pe_dispT {X : Cx} {pos : Pos} {keys : List (Option Expr)} {values : List Expr} {trs : List (TE × TE)} (hu : X.A.units < cLine) (h : PPs X pos keys values trs) (hall : keys.all (·.isSome) = true) (hl : keys.length = values.length) (h0 : keys ≠ [])
    (h15 : keys.length ≤ 15) : PE X (.Dict keys values pos) (tDispT trs) := by
  refine ⟨fun pins s σ H Q I q => ?_⟩
  have hn := I.hok.fresh (Nat.le_refl s.heap.objs.size)
  have I1 := I.laid (a := s.heap.objs.size) (o := .dT []) (h' := s.heap.push { cls := .type "dict", data := .dict #[] }) (t' := s.toks) (fun _ _ q => Heap.get?_push_of_some _ q) (Nat.le_refl _) (dt_empty s.heap I.big)
  have len := pairTrees_length keys values X.env pos hall hl
  have some' : pairTrees keys values X.env pos ≠ [] := fun z => by
    rw [z] at len
    exact h0 (List.length_eq_zero_iff.mp len.symm)
  rw [arm_eval_Dict, zip_pairTrees keys values X.env pos hall hl, dictDisplay_pairs _ some' (by omega)]
  refine wpAny_bind (wpAny_standAt (wpAny_bind (wpAny_subDictH (knd := tupleKind (mixKind X.prog X.w)) (Q := fun d s' => wpAny (model X.prog X.w) X.A (pure (Value.ref d)) (EP X pins σ Q) X.xe s') hu (by omega) ?_)))
  refine thn (h.run pins _ σ _ _ I1 (q _ hn)) fun ws s2 ⟨ps, H2, I2, rel, e, kvs, dp, h15', q2⟩ => ?_
  obtain ⟨qs, c, rk⟩ := carry_of I2 dp rel
  obtain ⟨z, hd, vs0, r0, dd⟩ := dt_of I2.hok e
  cases r0
  refine ⟨qs, c, dd, fun h' tk dd' hs => wpAny_pure ⟨.ref s.heap.objs.size, _, ?_, rfl, q2⟩⟩
  obtain ⟨o1, es, ep, g1, g2, g3, g4, _, g6⟩ := dd'
  have km := kt_merge (.nil : L2.KT H2 [] []) rk
  have hz : (mergeT [] kvs).length ≤ sizeLine := by
    have h1 := mergeT_len (kvs := kvs) (acc := [])
    rw [List.length_nil] at h1
    rw [sizeLine_eq]
    omega
  exact d_write (t' := tk) I2 (by rw [e]; exact True.intro) hs ⟨o1, g1⟩ (show ObjOk X.prog X.w _ _ _ (.dT (mergeT [] kvs)) from ⟨hz, hd, _, km.keeps (fun b ys eb => by rw [upd_ne (ne_of eb e (fun z => nomatch z))]; exact eb), o1, es, ep, g1, g2, g3, g4, g6⟩)
end QT
/-! K13B: the typed base, and the typed batches. -/
namespace SP
open PySem L2 DV PM LK NV QD
variable {K : PySem.W.Frag} {P : List Addr} {ss : List Sl} {cs cs1 : List (List D)} {te : TE} {tA : TA}
/-! texts of data, by their form -/
def EvL (K : PySem.W.Frag) (P : List Addr) (ss : List Sl) (cs : List (List D)) (tA : TA) (ds : List D) : Prop := EvA K P ss cs tA (ds.map Sl.dat) cs
theorem el_nil : EvL K P ss cs tNil [] := ea_nil
theorem el_cons {d : D} {ds : List D} (h : Ev K P ss cs te (.dat d) cs) (t : EvL K P ss cs tA ds) : EvL K P ss cs (tCons te tA) (d :: ds) := ea_cons h t
theorem ev_tupL {ds : List D} (h : EvL K P ss cs tA ds) (hl : ds.length ≤ 1000000) : Ev K P ss cs (tTup tA) (.dat (.tup ds)) cs := ev_tup h hl
theorem ev_lstL {ds : List D} (h : EvL K P ss cs tA ds) (hl : ds.length ≤ 1000000) : Ev K P ss cs (tLst tA) (.dat (.lst ds)) cs := ev_lst h hl
theorem ev_negK {k : Int} : Ev K P ss cs (tUn (rU fun i => .int (-i)) (tC (.int k))) (.dat (.int (-k))) cs := ev_un (r1 := .dat (.int k)) ev_int (fun B H x e h Q q => by
  cases (show Rp K B x (.int k) from h)
  exact ⟨k, rfl, q _ B H (Stp.refl _ _ _) e (.int _)⟩)
theorem ev_pow6 : Ev K P ss cs (tOp (rI CPow fun i j => .int (i ^ j.toNat)) (tC (.int 10)) (tC (.int 6))) (.dat (.int 1000000)) cs := (ev_op ev_int ev_int (od_I (d := .int (10 ^ 6)) ⟨by decide, by decide, by decide⟩ fun _ => .int _)).eq rfl
theorem ev_npow6 : Ev K P ss cs (tUn (rU fun i => .int (-i)) (tOp (rI CPow fun i j => .int (i ^ j.toNat)) (tC (.int 10)) (tC (.int 6)))) (.dat (.int (-1000000))) cs := ev_un (r1 := .dat (.int 1000000)) ev_pow6 (fun B H x e h Q q => by
  cases (show Rp K B x (.int 1000000) from h)
  exact ⟨1000000, rfl, q _ B H (Stp.refl _ _ _) e (.int _)⟩)
/-! the base -/
def T13 : List Tab := [("region", [("size", none)]), ("shop", [("open", none), ("place", some "region"), ("other", some "region")])]
def P13 : List (Str × Row) := [("shop", [5, 1, 3, 3]), ("region", [3, 12]), ("region", [4, -2])]
def R13 : Rs := [("region", [(3, [3, 12]), (4, [4, -2])]), ("shop", [(5, [5, 1, 3, 3])])]
theorem ok13 : okTabs [] T13 := by repeat' first | exact True.intro | apply And.intro | decide +kernel
theorem fill13 : fillF T13 P13 = R13 := by decide +kernel
def TX13 : List Str := ["table region", "  plain size", "table shop", "  plain open", "  ref place region", "  ref other region"]
theorem text13 : textOf T13 = Txt.join "\n" TX13 := by decide +kernel
theorem ch13 : ∀ q ∈ P13, chOk T13 (.ins q.1 q.2) := fun q hq => by
  simp only [P13, List.mem_cons, List.not_mem_nil, or_false] at hq
  rcases hq with rfl | rfl | rfl
  · exact chOk_ins (cols := [("open", none), ("place", some "region"), ("other", some "region")]) (by decide +kernel) rfl
  · exact chOk_ins (cols := [("size", none)]) (by decide +kernel) rfl
  · exact chOk_ins (cols := [("size", none)]) (by decide +kernel) rfl
def spBase13 (K : PySem.W.Frag) (CB C : Addr) : Sp := fun vs H Q _ => ∃ B, vs = [] ∧ Ex B H ∧ ∀ s dx v0 vt B' H', Stp [] B H B' H' → Ex B' H' → BObj K B' H' s dx CB C v0 vt T13 R13 → H s = none → Q (.ref s) H'
/-! the batches -/
def encCase (c : List Ch × Option Nat) : D := .tup [.lst (c.1.map encCh), optN c.2]
def turned13 : Ch := .set "shop" [5, 1, 3, 3] [5, 1, 4, 4]
def gone13 : List Ch := [.del "region" [3, 12], .del "region" [4, -2]]
def many13 : List Ch := [.ins "region" [20, 0], .ins "region" [21, 1], .ins "region" [22, 2], .ins "region" [23, 3], .ins "region" [24, 4], .ins "region" [25, 5], .ins "region" [26, 6]]
def CASES : List (List Ch × Option Nat) := [
  ([.del "region" [3, 12]], some 0), ([.del "region" [4, -2]], none),
  ([.del "region" [4, 2]], some 0),
  ([turned13, .del "region" [3, 12]], none),
  ([.set "shop" [5, 1, 3, 3] [5, 1, 4, 3], .del "region" [3, 12]], some 1),
  ([.del "region" [4, -2], .ins "region" [4, -2], turned13], none),
  ([.del "region" [4, -2], turned13], some 1),
  ([.ins "region" [9, 0], .ins "region" [9, 1]], some 1),
  ([.ins "shop" [6, 0, 9, 3], .ins "region" [9, 0]], some 0),
  ([.ins "region" [9, 0], .ins "shop" [6, 0, 9, 3], .del "region" [9, 0]], some 2),
  ([.set "region" [3, 12] [3, 12]], none),
  ([.set "region" [3, 11] [3, 12]], some 0),
  ([.ins "region" [1000000, -1000000], .ins "shop" [0, 0, 1000000, 3]], none),
  ([.del "shop" [5, 1, 3, 3]] ++ gone13, none),
  ([.set "shop" [6, 0, 3, 3] [6, 0, 3, 4]], some 0),
  (many13 ++ [.del "region" [26, 6]], none), (many13 ++ [.del "region" [26, 7]], some 7),
  ([], none), ([.ins "shop" [5, 1, 3, 3]], some 0)]
theorem st_appC {B0 H0 H : Hp} {σ : L2.St} {De : Ends} {i : Nat} {p : Addr} {l : List (List Ch × Option Nat)} {c : List Ch × Option Nat} (h : Sta K (p :: P) B0 H0 ss (l.map encCase :: cs) σ H) (hi : ss[i]? = some (.val (.ref p))) (he : Ev K (p :: P) ss (l.map encCase :: cs) te (.dat (encCase c)) (l.map encCase :: cs)) (hz : l.length ≤ 1000)
    (k : ∀ H', Sta K (p :: P) B0 H0 ss ((l ++ [c]).map encCase :: cs) σ H' → De.nx σ H') : tDrop (tBM K "list" rAppend (tVar i) (tCons te tNil)) De σ H :=
  st_app (j := 0) (ds := l.map encCase) (d := encCase c) h hi he rfl ⟨_, rfl⟩ rfl (by rw [List.length_map]; omega) fun H' st => k H' (by rw [List.map_append]; exact st)
def preCases : Pre := fun rs Pl cs r cs' => rs = [] ∧ Pl = [] ∧ cs = [] ∧ r = .dat (.lst (CASES.map encCase)) ∧ cs' = []
end SP
namespace T3
open PySem L2 DV PM SP LK NV
abbrev s_l_base : Stmt := topS 26
abbrev N_l_base : List Str := ["rows", "schema"]
theorem sc_l_base : FnScope N_l_base [] (defScope s_l_base) := ⟨rfl, rfl, rfl, by decide +kernel, rfl, by decide +kernel, by decide +kernel⟩

abbrev s_l_batches : Stmt := topS 28
abbrev N_l_batches : List Str := ["turned", "found", "gone", "many", "k"]
theorem sc_l_batches : FnScope N_l_batches [] (defScope s_l_batches) := ⟨rfl, rfl, rfl, by decide +kernel, rfl, by decide +kernel, by decide +kernel⟩

section
variable {P : Program} {w : World} {K : PySem.W.Frag} {mg : Str → Option Value} {base : Heap} {C CB : Addr} {mc : Value}
theorem ok_lbase13 {f fI fPa pC : Addr} {fd fdIn : FuncData} (F : Fun K "_law_base" "_law_base" s_l_base f fd) (g_Schema : mg "Schema" = some (.ref C)) (R_S : ClX.CRead K C mc) (M_parse : ClX.CMet K C mc "parse" pC fPa) (F_parse : L2.FnR P w K mg base CX0 5 fPa (spM K (preParse C)))
    (g_Base : mg "Base" = some (.ref CB)) (M_made : Mk K CB fI) (G_init : FnOk P w K mg base CX0 1 fI fdIn ["self", "schema", "rows"] (spBInit K CB C)) (B_init : Binds K fdIn ["self", "schema", "rows"] []) :
    FnOk P w K mg base CX0 6 f fd [] (spBase13 K CB C) := by
  refine F.ok sc_l_base (fun vs H Q E h => ?_) (fun cdv A outer s H vs Q E hr h => ?_)
  · obtain ⟨B, rfl, _⟩ := h
    rfl
  have nd := sc_l_base.nd
  refine ⟨_, (pss_cons (ps_set (i := 0) nd rfl (.inl rfl) (pe_lst (pa_cons pe_str (pa_cons pe_str (pa_cons pe_str (pa_cons pe_str (pa_cons pe_str (pa_cons pe_str pa_nil))))))))
      (pss_cons (ps_set (i := 1) nd rfl (.inl rfl) (ClX.pe_cmeth (pe_glob (v := .ref C) rfl g_Schema rfl) R_S M_parse F_parse (hr.mono (by decide)) pass0 (pa_cons (pe_join pe_str (pv 0)) pa_nil)))
      (pss_one (ps_ret (pe_make M_made G_init (hr.mono (by decide)) (by rfl) g_Base B_init .nil pass0 (pa_cons (pv 1) (pa_cons (pe_lst (pa_cons (pe_tup (pa_cons pe_str (pa_cons (pe_tup (pa_cons pe_int (pa_cons pe_int (pa_cons pe_int (pa_cons pe_int pa_nil))))) pa_nil))) (pa_cons (pe_tup (pa_cons pe_str (pa_cons (pe_tup (pa_cons pe_int (pa_cons pe_int pa_nil))) pa_nil))) (pa_cons (pe_tup (pa_cons pe_str (pa_cons (pe_tup (pa_cons pe_int (pa_cons (pe_un un_neg pe_int) pa_nil))) pa_nil))) pa_nil)))) pa_nil))))))), ?_⟩
  obtain ⟨B, rfl, e0, q⟩ := h
  have st := sta_start (vs := []) (N := N_l_base) (K := K) (P := []) (cs := []) (rs := []) e0 True.intro True.intro
  generalize L2.start N_l_base [] = σ at st ⊢
  have st : Sta K [] B H [.any, .any] [] σ H := st
  refine st_seq (st_asg (i := 0) (cs1 := []) (r := .dat (.lst (TX13.map D.str))) st (by (repeat (first | exact ev_int | exact ev_str | exact ev_non | exact el_nil | exact ev_npow6 | exact ev_pow6 | exact ev_negK | exact ev_var rfl | refine el_cons ?_ ?_ | refine ev_tupL ?_ (by decide) | refine ev_lstL ?_ (by decide)))) (fun σ1 H1 st1 => ?_))
  dsimp only []
  have st1 : Sta K [] B H [.dat (.lst (TX13.map D.str)), .any] [] σ1 H1 := st1
  obtain ⟨B1, s1, o1⟩ := st1
  refine st_seq ?_
  refine (ev_cmeth (ea_cons ((ev_join (a := "\n") ev_str (ev_var (i := 0) rfl) (by decide +kernel)).eq (by rw [← text13])) ea_nil) (parsed ok13 (by decide)) : Ev K [] _ [] _ (.dat (schD C T13)) []) B1 H1 σ1 o1 _ fun v0 B2 H2 s2 o2 r2 => ?_
  have r2 : Rp K B2 v0 (schD C T13) := r2
  refine gname_go ?_
  dsimp only []
  have o3 : Okk K [] [.any, .val v0] [] B2 H2 (σ1.set 1 (some v0)) := ⟨o2.ex, (o2.sl.set (i := 1) (v := v0) (r := .val v0) rfl).le ⟨.any _, .rfl _, True.intro⟩, True.intro⟩
  generalize σ1.set 1 (some v0) = σ3 at o3
  obtain ⟨w1, h1, ew1⟩ := o3.sl.get 1 (.val v0) rfl (by intro z; cases z)
  cases (show w1 = v0 from ew1)
  refine tmk_go ?_
  refine ⟨v0, h1, ?_⟩
  refine (by (repeat (first | exact ev_int | exact ev_str | exact ev_non | exact el_nil | exact ev_npow6 | exact ev_pow6 | exact ev_negK | exact ev_var rfl | refine el_cons ?_ ?_ | refine ev_tupL ?_ (by decide) | refine ev_lstL ?_ (by decide))) : Ev K [] [.any, .val v0] [] (tLst (tCons (tTup (tCons (tC (.str "shop")) (tCons (tTup (tCons (tC (.int 5)) (tCons (tC (.int 1)) (tCons (tC (.int 3)) (tCons (tC (.int 3)) tNil))))) tNil))) (tCons (tTup (tCons (tC (.str "region")) (tCons (tTup (tCons (tC (.int 3)) (tCons (tC (.int 12)) tNil))) tNil))) (tCons (tTup (tCons (tC (.str "region")) (tCons (tTup (tCons (tC (.int 4)) (tCons (tUn (rU fun i => .int (-i)) (tC (.int 2))) tNil))) tNil))) tNil)))) (.dat (.lst (P13.map encP))) []) B2 H2 σ3 o3 _ fun v1 B4 H4 s4 o4 r4 => ?_
  have r4 : Rp K B4 v1 (.lst (P13.map encP)) := r4
  refine mk_base o4.ex (Rp.mono s4.ex r2) (.inl r4) (ok_sch ok13) ch13 (by decide) fill13 fun x dx vt B5 H5 s5 e5 bo hx => ?_
  have sA : Stp [] B H B4 H4 := s1.trans (s2.trans s4)
  refine q x dx v0 vt B5 H5 (sA.trans s5) e5 bo ?_
  cases e : H x with
  | none => rfl
  | some u => obtain ⟨u', h'⟩ := sA.dm x u e; rw [hx] at h'; cases h'
theorem ok_lbatches13 {f : Addr} {fd : FuncData} (F : Fun K "_law_batches" "_law_batches" s_l_batches f fd) (b_range : mg "range" = none) : FnOk P w K mg base CX0 1 f fd [] (spM K preCases) := by
  refine ok_body F sc_l_batches (fun rs Pl cs r cs' h => ?_) (fun X hX hr => ?_)
  · obtain ⟨rfl, _⟩ := h
    rfl
  obtain ⟨cdv, A, outer, s', H, E, rfl⟩ := hX
  have nd := sc_l_batches.nd
  refine ⟨_, (pss_cons (ps_set (i := 0) nd rfl (.inl rfl) (pe_tup (pa_cons pe_str (pa_cons pe_str (pa_cons (pe_tup (pa_cons pe_int (pa_cons pe_int (pa_cons pe_int (pa_cons pe_int pa_nil))))) (pa_cons (pe_tup (pa_cons pe_int (pa_cons pe_int (pa_cons pe_int (pa_cons pe_int pa_nil))))) pa_nil))))))
      (pss_cons (ps_set (i := 1) nd rfl (.inl rfl) (pe_lst (pa_cons (pe_tup (pa_cons (pe_lst (pa_cons (pe_tup (pa_cons pe_str (pa_cons pe_str (pa_cons (pe_tup (pa_cons pe_int (pa_cons pe_int pa_nil))) pa_nil)))) pa_nil)) (pa_cons pe_int pa_nil))) (pa_cons (pe_tup (pa_cons (pe_lst (pa_cons (pe_tup (pa_cons pe_str (pa_cons pe_str (pa_cons (pe_tup (pa_cons pe_int (pa_cons (pe_un un_neg pe_int) pa_nil))) pa_nil)))) pa_nil)) (pa_cons pe_non pa_nil))) pa_nil))))
      (pss_cons (ps_expr (pe_bm PySem.F.plainAttrs_list PySem.F.slot_list_append PySem.F.type_list_append mt_append (pv 1) (pa_cons (pe_tup (pa_cons (pe_lst (pa_cons (pe_tup (pa_cons pe_str (pa_cons pe_str (pa_cons (pe_tup (pa_cons pe_int (pa_cons pe_int pa_nil))) pa_nil)))) pa_nil)) (pa_cons pe_int pa_nil))) pa_nil)))
      (pss_cons (ps_expr (pe_bm PySem.F.plainAttrs_list PySem.F.slot_list_append PySem.F.type_list_append mt_append (pv 1) (pa_cons (pe_tup (pa_cons (pe_lst (pa_cons (pv 0) (pa_cons (pe_tup (pa_cons pe_str (pa_cons pe_str (pa_cons (pe_tup (pa_cons pe_int (pa_cons pe_int pa_nil))) pa_nil)))) pa_nil))) (pa_cons pe_non pa_nil))) pa_nil)))
      (pss_cons (ps_expr (pe_bm PySem.F.plainAttrs_list PySem.F.slot_list_append PySem.F.type_list_append mt_append (pv 1) (pa_cons (pe_tup (pa_cons (pe_lst (pa_cons (pe_tup (pa_cons pe_str (pa_cons pe_str (pa_cons (pe_tup (pa_cons pe_int (pa_cons pe_int (pa_cons pe_int (pa_cons pe_int pa_nil))))) (pa_cons (pe_tup (pa_cons pe_int (pa_cons pe_int (pa_cons pe_int (pa_cons pe_int pa_nil))))) pa_nil))))) (pa_cons (pe_tup (pa_cons pe_str (pa_cons pe_str (pa_cons (pe_tup (pa_cons pe_int (pa_cons pe_int pa_nil))) pa_nil)))) pa_nil))) (pa_cons pe_int pa_nil))) pa_nil)))
      (pss_cons (ps_expr (pe_bm PySem.F.plainAttrs_list PySem.F.slot_list_append PySem.F.type_list_append mt_append (pv 1) (pa_cons (pe_tup (pa_cons (pe_lst (pa_cons (pe_tup (pa_cons pe_str (pa_cons pe_str (pa_cons (pe_tup (pa_cons pe_int (pa_cons (pe_un un_neg pe_int) pa_nil))) pa_nil)))) (pa_cons (pe_tup (pa_cons pe_str (pa_cons pe_str (pa_cons (pe_tup (pa_cons pe_int (pa_cons (pe_un un_neg pe_int) pa_nil))) pa_nil)))) (pa_cons (pv 0) pa_nil)))) (pa_cons pe_non pa_nil))) pa_nil)))
      (pss_cons (ps_expr (pe_bm PySem.F.plainAttrs_list PySem.F.slot_list_append PySem.F.type_list_append mt_append (pv 1) (pa_cons (pe_tup (pa_cons (pe_lst (pa_cons (pe_tup (pa_cons pe_str (pa_cons pe_str (pa_cons (pe_tup (pa_cons pe_int (pa_cons (pe_un un_neg pe_int) pa_nil))) pa_nil)))) (pa_cons (pv 0) pa_nil))) (pa_cons pe_int pa_nil))) pa_nil)))
      (pss_cons (ps_expr (pe_bm PySem.F.plainAttrs_list PySem.F.slot_list_append PySem.F.type_list_append mt_append (pv 1) (pa_cons (pe_tup (pa_cons (pe_lst (pa_cons (pe_tup (pa_cons pe_str (pa_cons pe_str (pa_cons (pe_tup (pa_cons pe_int (pa_cons pe_int pa_nil))) pa_nil)))) (pa_cons (pe_tup (pa_cons pe_str (pa_cons pe_str (pa_cons (pe_tup (pa_cons pe_int (pa_cons pe_int pa_nil))) pa_nil)))) pa_nil))) (pa_cons pe_int pa_nil))) pa_nil)))
      (pss_cons (ps_expr (pe_bm PySem.F.plainAttrs_list PySem.F.slot_list_append PySem.F.type_list_append mt_append (pv 1) (pa_cons (pe_tup (pa_cons (pe_lst (pa_cons (pe_tup (pa_cons pe_str (pa_cons pe_str (pa_cons (pe_tup (pa_cons pe_int (pa_cons pe_int (pa_cons pe_int (pa_cons pe_int pa_nil))))) pa_nil)))) (pa_cons (pe_tup (pa_cons pe_str (pa_cons pe_str (pa_cons (pe_tup (pa_cons pe_int (pa_cons pe_int pa_nil))) pa_nil)))) pa_nil))) (pa_cons pe_int pa_nil))) pa_nil)))
      (pss_cons (ps_expr (pe_bm PySem.F.plainAttrs_list PySem.F.slot_list_append PySem.F.type_list_append mt_append (pv 1) (pa_cons (pe_tup (pa_cons (pe_lst (pa_cons (pe_tup (pa_cons pe_str (pa_cons pe_str (pa_cons (pe_tup (pa_cons pe_int (pa_cons pe_int pa_nil))) pa_nil)))) (pa_cons (pe_tup (pa_cons pe_str (pa_cons pe_str (pa_cons (pe_tup (pa_cons pe_int (pa_cons pe_int (pa_cons pe_int (pa_cons pe_int pa_nil))))) pa_nil)))) (pa_cons (pe_tup (pa_cons pe_str (pa_cons pe_str (pa_cons (pe_tup (pa_cons pe_int (pa_cons pe_int pa_nil))) pa_nil)))) pa_nil)))) (pa_cons pe_int pa_nil))) pa_nil)))
      (pss_cons (ps_expr (pe_bm PySem.F.plainAttrs_list PySem.F.slot_list_append PySem.F.type_list_append mt_append (pv 1) (pa_cons (pe_tup (pa_cons (pe_lst (pa_cons (pe_tup (pa_cons pe_str (pa_cons pe_str (pa_cons (pe_tup (pa_cons pe_int (pa_cons pe_int pa_nil))) (pa_cons (pe_tup (pa_cons pe_int (pa_cons pe_int pa_nil))) pa_nil))))) pa_nil)) (pa_cons pe_non pa_nil))) pa_nil)))
      (pss_cons (ps_expr (pe_bm PySem.F.plainAttrs_list PySem.F.slot_list_append PySem.F.type_list_append mt_append (pv 1) (pa_cons (pe_tup (pa_cons (pe_lst (pa_cons (pe_tup (pa_cons pe_str (pa_cons pe_str (pa_cons (pe_tup (pa_cons pe_int (pa_cons pe_int pa_nil))) (pa_cons (pe_tup (pa_cons pe_int (pa_cons pe_int pa_nil))) pa_nil))))) pa_nil)) (pa_cons pe_int pa_nil))) pa_nil)))
      (pss_cons (ps_expr (pe_bm PySem.F.plainAttrs_list PySem.F.slot_list_append PySem.F.type_list_append mt_append (pv 1) (pa_cons (pe_tup (pa_cons (pe_lst (pa_cons (pe_tup (pa_cons pe_str (pa_cons pe_str (pa_cons (pe_tup (pa_cons (pe_op op_pow pe_int pe_int) (pa_cons (pe_un un_neg (pe_op op_pow pe_int pe_int)) pa_nil))) pa_nil)))) (pa_cons (pe_tup (pa_cons pe_str (pa_cons pe_str (pa_cons (pe_tup (pa_cons pe_int (pa_cons pe_int (pa_cons (pe_op op_pow pe_int pe_int) (pa_cons pe_int pa_nil))))) pa_nil)))) pa_nil))) (pa_cons pe_non pa_nil))) pa_nil)))
      (pss_cons (ps_set (i := 2) nd rfl (.inl rfl) (pe_lst (pa_cons (pe_tup (pa_cons pe_str (pa_cons pe_str (pa_cons (pe_tup (pa_cons pe_int (pa_cons pe_int pa_nil))) pa_nil)))) (pa_cons (pe_tup (pa_cons pe_str (pa_cons pe_str (pa_cons (pe_tup (pa_cons pe_int (pa_cons (pe_un un_neg pe_int) pa_nil))) pa_nil)))) pa_nil))))
      (pss_cons (ps_expr (pe_bm PySem.F.plainAttrs_list PySem.F.slot_list_append PySem.F.type_list_append mt_append (pv 1) (pa_cons (pe_tup (pa_cons (pe_op op_addA (pe_lst (pa_cons (pe_tup (pa_cons pe_str (pa_cons pe_str (pa_cons (pe_tup (pa_cons pe_int (pa_cons pe_int (pa_cons pe_int (pa_cons pe_int pa_nil))))) pa_nil)))) pa_nil)) (pv 2)) (pa_cons pe_non pa_nil))) pa_nil)))
      (pss_cons (ps_expr (pe_bm PySem.F.plainAttrs_list PySem.F.slot_list_append PySem.F.type_list_append mt_append (pv 1) (pa_cons (pe_tup (pa_cons (pe_lst (pa_cons (pe_tup (pa_cons pe_str (pa_cons pe_str (pa_cons (pe_tup (pa_cons pe_int (pa_cons pe_int (pa_cons pe_int (pa_cons pe_int pa_nil))))) (pa_cons (pe_tup (pa_cons pe_int (pa_cons pe_int (pa_cons pe_int (pa_cons pe_int pa_nil))))) pa_nil))))) pa_nil)) (pa_cons pe_int pa_nil))) pa_nil)))
      (pss_cons (ps_setLc (i := 3) (own := [("k", 4)]) (g := (gName 4)) (tt := tYes) (te := (tTup (tCons (tC (.str "insert")) (tCons (tC (.str "region")) (tCons (tTup (tCons (tOp (addA K) (tC (.int 20)) (tVar 4)) (tCons (tVar 4) tNil))) tNil))))) rfl nd rfl rfl (sw_true rfl rfl rfl (by decide +kernel)) (pi_range1 (by rfl) b_range (pa_cons pe_int pa_nil)) (blkOk_by (N := N_l_batches) (sc := defScope s_l_batches) (by decide +kernel)) (by intro _ _ _ _ _; exact (pg_name (i := 4) nd (by rfl) (by first | exact .inl rfl | exact .inr rfl))) (by intro _ _ _ _ _; exact pts_nil) (by intro _ _ _ _ _; exact (pe_tup (pa_cons pe_str (pa_cons pe_str (pa_cons (pe_tup (pa_cons (pe_op op_addA pe_int (pv 4)) (pa_cons (pv 4) pa_nil))) pa_nil))))))
      (pss_cons (ps_set (i := 1) nd rfl (.inl rfl) (pe_op op_addA (pv 1) (pe_lst (pa_cons (pe_tup (pa_cons (pe_op op_addA (pv 3) (pe_lst (pa_cons (pe_tup (pa_cons pe_str (pa_cons pe_str (pa_cons (pe_tup (pa_cons pe_int (pa_cons pe_int pa_nil))) pa_nil)))) pa_nil))) (pa_cons pe_non pa_nil))) (pa_cons (pe_tup (pa_cons (pe_op op_addA (pv 3) (pe_lst (pa_cons (pe_tup (pa_cons pe_str (pa_cons pe_str (pa_cons (pe_tup (pa_cons pe_int (pa_cons pe_int pa_nil))) pa_nil)))) pa_nil))) (pa_cons pe_int pa_nil))) pa_nil)))))
      (pss_one (ps_ret (pe_op op_addA (pv 1) (pe_lst (pa_cons (pe_tup (pa_cons (pe_lst pa_nil) (pa_cons pe_non pa_nil))) (pa_cons (pe_tup (pa_cons (pe_lst (pa_cons (pe_tup (pa_cons pe_str (pa_cons pe_str (pa_cons (pe_tup (pa_cons pe_int (pa_cons pe_int (pa_cons pe_int (pa_cons pe_int pa_nil))))) pa_nil)))) pa_nil)) (pa_cons pe_int pa_nil))) pa_nil)))))))))))))))))))))))), ?_⟩
  intro rs Pl cs r cs' hp B0 H0 σ Dn st hPl hd hn
  obtain ⟨rfl, rfl, rfl, rfl, rfl⟩ := hp
  have st : Sta K [] B0 H0 [.any, .any, .any, .any, .any] [] σ H0 := st
  refine st_seq (st_asg (i := 0) (cs1 := []) (r := .dat (encCh turned13)) st (by (repeat (first | exact ev_int | exact ev_str | exact ev_non | exact el_nil | exact ev_npow6 | exact ev_pow6 | exact ev_negK | exact ev_var rfl | refine el_cons ?_ ?_ | refine ev_tupL ?_ (by decide) | refine ev_lstL ?_ (by decide)))) (fun σ1 H1 st1 => ?_))
  dsimp only []
  have st1 : Sta K [] B0 H0 [.dat (encCh turned13), .any, .any, .any, .any] [] σ1 H1 := st1
  have l0 : EvL K [] [.dat (encCh turned13), .any, .any, .any, .any] [] (tCons (tTup (tCons (tLst (tCons (tTup (tCons (tC (.str "delete")) (tCons (tC (.str "region")) (tCons (tTup (tCons (tC (.int 3)) (tCons (tC (.int 12)) tNil))) tNil)))) tNil)) (tCons (tC (.int 0)) tNil))) (tCons (tTup (tCons (tLst (tCons (tTup (tCons (tC (.str "delete")) (tCons (tC (.str "region")) (tCons (tTup (tCons (tC (.int 4)) (tCons (tUn (rU fun i => .int (-i)) (tC (.int 2))) tNil))) tNil)))) tNil)) (tCons (tC .non) tNil))) tNil)) (([([.del "region" [3, 12]], some 0), ([.del "region" [4, -2]], none)] : List (List Ch × Option Nat)).map encCase) := by (repeat (first | exact ev_int | exact ev_str | exact ev_non | exact el_nil | exact ev_npow6 | exact ev_pow6 | exact ev_negK | exact ev_var rfl | refine el_cons ?_ ?_ | refine ev_tupL ?_ (by decide) | refine ev_lstL ?_ (by decide)))
  refine st_seq (st_asgF (i := 1) (cs1 := []) st1 (ef_lst l0 (by decide)) (fun pa σ2 H2 hpa _ st2 => ?_))
  dsimp only []
  have st2 : Sta K [pa] B0 H0 [.dat (encCh turned13), .val (.ref pa), .any, .any, .any] [([([.del "region" [3, 12]], some 0), ([.del "region" [4, -2]], none)] : List (List Ch × Option Nat)).map encCase] σ2 H2 := st2
  refine st_seq (st_appC (c := ([.del "region" [4, 2]], some 0)) st2 rfl (by (repeat (first | exact ev_int | exact ev_str | exact ev_non | exact el_nil | exact ev_npow6 | exact ev_pow6 | exact ev_negK | exact ev_var rfl | refine el_cons ?_ ?_ | refine ev_tupL ?_ (by decide) | refine ev_lstL ?_ (by decide)))) (by decide) (fun H3 st3 => ?_))
  dsimp only []
  refine st_seq (st_appC (c := ([turned13, .del "region" [3, 12]], none)) st3 rfl (by (repeat (first | exact ev_int | exact ev_str | exact ev_non | exact el_nil | exact ev_npow6 | exact ev_pow6 | exact ev_negK | exact ev_var rfl | refine el_cons ?_ ?_ | refine ev_tupL ?_ (by decide) | refine ev_lstL ?_ (by decide)))) (by decide) (fun H4 st4 => ?_))
  dsimp only []
  refine st_seq (st_appC (c := ([.set "shop" [5, 1, 3, 3] [5, 1, 4, 3], .del "region" [3, 12]], some 1)) st4 rfl (by (repeat (first | exact ev_int | exact ev_str | exact ev_non | exact el_nil | exact ev_npow6 | exact ev_pow6 | exact ev_negK | exact ev_var rfl | refine el_cons ?_ ?_ | refine ev_tupL ?_ (by decide) | refine ev_lstL ?_ (by decide)))) (by decide) (fun H5 st5 => ?_))
  dsimp only []
  refine st_seq (st_appC (c := ([.del "region" [4, -2], .ins "region" [4, -2], turned13], none)) st5 rfl (by (repeat (first | exact ev_int | exact ev_str | exact ev_non | exact el_nil | exact ev_npow6 | exact ev_pow6 | exact ev_negK | exact ev_var rfl | refine el_cons ?_ ?_ | refine ev_tupL ?_ (by decide) | refine ev_lstL ?_ (by decide)))) (by decide) (fun H6 st6 => ?_))
  dsimp only []
  refine st_seq (st_appC (c := ([.del "region" [4, -2], turned13], some 1)) st6 rfl (by (repeat (first | exact ev_int | exact ev_str | exact ev_non | exact el_nil | exact ev_npow6 | exact ev_pow6 | exact ev_negK | exact ev_var rfl | refine el_cons ?_ ?_ | refine ev_tupL ?_ (by decide) | refine ev_lstL ?_ (by decide)))) (by decide) (fun H7 st7 => ?_))
  dsimp only []
  refine st_seq (st_appC (c := ([.ins "region" [9, 0], .ins "region" [9, 1]], some 1)) st7 rfl (by (repeat (first | exact ev_int | exact ev_str | exact ev_non | exact el_nil | exact ev_npow6 | exact ev_pow6 | exact ev_negK | exact ev_var rfl | refine el_cons ?_ ?_ | refine ev_tupL ?_ (by decide) | refine ev_lstL ?_ (by decide)))) (by decide) (fun H8 st8 => ?_))
  dsimp only []
  refine st_seq (st_appC (c := ([.ins "shop" [6, 0, 9, 3], .ins "region" [9, 0]], some 0)) st8 rfl (by (repeat (first | exact ev_int | exact ev_str | exact ev_non | exact el_nil | exact ev_npow6 | exact ev_pow6 | exact ev_negK | exact ev_var rfl | refine el_cons ?_ ?_ | refine ev_tupL ?_ (by decide) | refine ev_lstL ?_ (by decide)))) (by decide) (fun H9 st9 => ?_))
  dsimp only []
  refine st_seq (st_appC (c := ([.ins "region" [9, 0], .ins "shop" [6, 0, 9, 3], .del "region" [9, 0]], some 2)) st9 rfl (by (repeat (first | exact ev_int | exact ev_str | exact ev_non | exact el_nil | exact ev_npow6 | exact ev_pow6 | exact ev_negK | exact ev_var rfl | refine el_cons ?_ ?_ | refine ev_tupL ?_ (by decide) | refine ev_lstL ?_ (by decide)))) (by decide) (fun H10 st10 => ?_))
  dsimp only []
  refine st_seq (st_appC (c := ([.set "region" [3, 12] [3, 12]], none)) st10 rfl (by (repeat (first | exact ev_int | exact ev_str | exact ev_non | exact el_nil | exact ev_npow6 | exact ev_pow6 | exact ev_negK | exact ev_var rfl | refine el_cons ?_ ?_ | refine ev_tupL ?_ (by decide) | refine ev_lstL ?_ (by decide)))) (by decide) (fun H11 st11 => ?_))
  dsimp only []
  refine st_seq (st_appC (c := ([.set "region" [3, 11] [3, 12]], some 0)) st11 rfl (by (repeat (first | exact ev_int | exact ev_str | exact ev_non | exact el_nil | exact ev_npow6 | exact ev_pow6 | exact ev_negK | exact ev_var rfl | refine el_cons ?_ ?_ | refine ev_tupL ?_ (by decide) | refine ev_lstL ?_ (by decide)))) (by decide) (fun H12 st12 => ?_))
  dsimp only []
  refine st_seq (st_appC (c := ([.ins "region" [1000000, -1000000], .ins "shop" [0, 0, 1000000, 3]], none)) st12 rfl (by (repeat (first | exact ev_int | exact ev_str | exact ev_non | exact el_nil | exact ev_npow6 | exact ev_pow6 | exact ev_negK | exact ev_var rfl | refine el_cons ?_ ?_ | refine ev_tupL ?_ (by decide) | refine ev_lstL ?_ (by decide)))) (by decide) (fun H13 st13 => ?_))
  dsimp only []
  -- gone
  refine st_seq (st_asg (i := 2) (r := .dat (.lst (gone13.map encCh))) st13 (by (repeat (first | exact ev_int | exact ev_str | exact ev_non | exact el_nil | exact ev_npow6 | exact ev_pow6 | exact ev_negK | exact ev_var rfl | refine el_cons ?_ ?_ | refine ev_tupL ?_ (by decide) | refine ev_lstL ?_ (by decide)))) (fun σ3 H3 st3 => ?_))
  dsimp only []
  refine st_seq (st_appC (c := ([Ch.del "shop" [5, 1, 3, 3]] ++ gone13, none)) st3 rfl ?_ (by decide) (fun H14 st14 => ?_))
  · refine ev_tupL (el_cons (d := .lst (([Ch.del "shop" [5, 1, 3, 3]] ++ gone13).map encCh)) ?_ (el_cons (d := .non) ev_non el_nil)) (by simp)
    refine Ev.eq (ev_op (r1 := .dat (.lst ([Ch.del "shop" [5, 1, 3, 3]].map encCh))) (r2 := .dat (.lst (gone13.map encCh))) (by (repeat (first | exact ev_int | exact ev_str | exact ev_non | exact el_nil | exact ev_npow6 | exact ev_pow6 | exact ev_negK | exact ev_var rfl | refine el_cons ?_ ?_ | refine ev_tupL ?_ (by decide) | refine ev_lstL ?_ (by decide)))) (ev_var (i := 2) rfl) (od_addL (by decide))) (by rw [List.map_append])
  dsimp only []
  refine st_seq (st_appC (c := ([.set "shop" [6, 0, 3, 3] [6, 0, 3, 4]], some 0)) st14 rfl (by (repeat (first | exact ev_int | exact ev_str | exact ev_non | exact el_nil | exact ev_npow6 | exact ev_pow6 | exact ev_negK | exact ev_var rfl | refine el_cons ?_ ?_ | refine ev_tupL ?_ (by decide) | refine ev_lstL ?_ (by decide)))) (by decide) (fun H15 st15 => ?_))
  dsimp only []
  -- many
  refine st_seq (st_asg (i := 3) (r := .dat (.lst (many13.map encCh))) st15 (Ev.eq (EvF.ev (ef_map (wd_rng1 (n := 7) (ea_cons ev_int ea_nil) (by decide)) (fun d => match d with | .int k => .tup [.str "insert", .str "region", .tup [.int (20 + k), .int k]] | _ => .non) (by decide) (fun p i d acc hd => ?_))) (by rfl)) (fun σ16 H16 st16 => ?_))
  · obtain ⟨hi, rfl⟩ := rangeD_get hd
    refine ⟨_, _, g_name (i := 4), by decide, ?_⟩
    refine ev_tupL (el_cons (d := .str "insert") ev_str (el_cons (d := .str "region") ev_str (el_cons (d := .tup [.int (20 + (0 + ((i : Nat) : Int))), .int (0 + ((i : Nat) : Int))]) ?_ el_nil))) (by simp)
    exact ev_tupL (el_cons (d := .int (20 + (0 + ((i : Nat) : Int)))) (ev_op ev_int (ev_var (i := 4) rfl) od_addI) (el_cons (d := .int (0 + ((i : Nat) : Int))) (ev_var (i := 4) rfl) el_nil)) (by simp)
  dsimp only []
  -- found = found + [..]
  have st17 : Sta K [] B0 H0 [.dat (encCh turned13), .dat (.lst ((CASES.take 15).map encCase)), .dat (.lst (gone13.map encCh)), .dat (.lst (many13.map encCh)), .any] [] σ16 H16 := Sta.pub (i := 1) st16 hpa rfl
  have more : ∀ {te : TE} {c : Ch}, Ev K [] [.dat (encCh turned13), .dat (.lst ((CASES.take 15).map encCase)), .dat (.lst (gone13.map encCh)), .dat (.lst (many13.map encCh)), .any] [] te (.dat (.lst ([c].map encCh))) [] → Ev K [] [.dat (encCh turned13), .dat (.lst ((CASES.take 15).map encCase)), .dat (.lst (gone13.map encCh)), .dat (.lst (many13.map encCh)), .any] [] (tOp (addA K) (tVar 3) te) (.dat (.lst ((many13 ++ [c]).map encCh))) [] := fun h =>
    Ev.eq (ev_op (ev_var (i := 3) rfl) h (od_addL (by simp [many13]))) (by rw [List.map_append])
  refine st_seq (st_asg (i := 1) (r := .dat (.lst ((CASES.take 17).map encCase))) (cs1 := []) st17 (Ev.eq (ev_op (r2 := .dat (.lst [encCase (many13 ++ [Ch.del "region" [26, 6]], none), encCase (many13 ++ [Ch.del "region" [26, 7]], some 7)])) (ev_var (i := 1) rfl) ?_ (od_addL (by simp [CASES]))) (by rfl)) (fun σ18 H18 st18 => ?_))
  · refine ev_lstL (el_cons ?_ (el_cons ?_ el_nil)) (by simp)
    · refine ev_tupL (el_cons (d := .lst ((many13 ++ [Ch.del "region" [26, 6]]).map encCh)) (more ?_) (el_cons (d := .non) ev_non el_nil)) (by simp)
      (repeat (first | exact ev_int | exact ev_str | exact ev_non | exact el_nil | exact ev_npow6 | exact ev_pow6 | exact ev_negK | exact ev_var rfl | refine el_cons ?_ ?_ | refine ev_tupL ?_ (by decide) | refine ev_lstL ?_ (by decide)))
    · refine ev_tupL (el_cons (d := .lst ((many13 ++ [Ch.del "region" [26, 7]]).map encCh)) (more ?_) (el_cons (d := .int 7) ev_int el_nil)) (by simp)
      (repeat (first | exact ev_int | exact ev_str | exact ev_non | exact el_nil | exact ev_npow6 | exact ev_pow6 | exact ev_negK | exact ev_var rfl | refine el_cons ?_ ?_ | refine ev_tupL ?_ (by decide) | refine ev_lstL ?_ (by decide)))
  dsimp only []
  have st18 : Sta K [] B0 H0 [.dat (encCh turned13), .dat (.lst ((CASES.take 17).map encCase)), .dat (.lst (gone13.map encCh)), .dat (.lst (many13.map encCh)), .any] [] σ18 H18 := st18
  refine st_ret st18 (Ev.eq (d' := .lst (CASES.map encCase)) (ev_op (r2 := .dat (.lst ([([], none), ([Ch.ins "shop" [5, 1, 3, 3]], some 0)].map encCase))) (ev_var (i := 1) rfl) (by (repeat (first | exact ev_int | exact ev_str | exact ev_non | exact el_nil | exact ev_npow6 | exact ev_pow6 | exact ev_negK | exact ev_var rfl | refine el_cons ?_ ?_ | refine ev_tupL ?_ (by decide) | refine ev_lstL ?_ (by decide)))) (od_addL (by simp [CASES]))) (by rfl)) hd
end
end T3
/-! FZ: a value's dict, locked from here on. -/
namespace FZ
open PySem L2 DV
def tFrz (te : TE) : TE := fun σ H Q => te σ H fun x H1 => ∃ d u, x = .ref d ∧ H1 d = some u ∧ Mut (some u) ∧ ∀ od, Q x (upd H1 d (.frz od u))
theorem pe_frz {X : Cx} {e : Expr} {te : TE} (he : PE X e te) : PE X e (tFrz te) := by
  refine ⟨fun pins s σ H Q I h => ?_⟩
  refine thn (he.run pins s σ H _ I h) fun v s1 ⟨x, H1, I1, r, d, u, ex, hd, mu, q⟩ => ?_
  obtain ⟨od, I2⟩ := I1.lock hd mu
  exact ⟨x, _, I2, r, q od⟩
end FZ
/-! DT3: a dict comprehension whose keys are tuples. -/
namespace DT2
open PySem PySem.Spec PyProof.Rows L2
/-- a comprehension's store under a tuple -/
theorem setT {X : Cx} {pins : List (Addr × Obj)} {σ : L2.St} {H : Hp} {s : Shared} {E : Value → Shared → Prop} {D b : Addr} {kvs : List (List Key × V)} {k : List Key} {v : V} {r : Value} {Q : Unit → Shared → Prop} (room : X.A.units < cLine) (I : L2.Inv X pins σ H s) (hD : H D = some (.dT kvs))
    (few : kvs.length < sizeLine) (hb : H b = some (.tup (k.map kV))) (rv : L2.RelV v r) (done : ∀ s', L2.Inv X pins σ (upd H D (.dT (putK kvs k v))) s' → Q () s') : wpAny (model X.prog X.w) X.A (dictSet D (.ref b) r) Q E s := by
  obtain ⟨z, nsys, xs, pr, whole⟩ := dt_of I.hok hD
  have len := Paired.length pr
  have more := length_putK kvs k v
  refine wpAny_dictSet_heap (hsz := by omega) room (key_of I.hok hb) whole fun h1 now same => done _ ?_
  obtain ⟨o1, es1, ep1, at1, a, c, d, _, e⟩ := now
  refine d_write I (by rw [hD]; exact True.intro) same ⟨o1, at1⟩ ⟨by omega, nsys, _, (pr.put k hb rv).keeps fun c ys ec => ?_, o1, es1, ep1, at1, a, c, d, e⟩
  rw [upd_ne (ne_of ec hD fun z => nomatch z)]
  exact ec
section
variable {X : Cx}
/-- {k: v for target in iter if ..}, the keys tuples that lie there: D the new dict -/
def tDcT (wi : TI) (g : TG) (tt : TT) (tk tv : TE) (vs : List Nat) : TE := fun σ H Q => wi σ H fun J H1 => ∀ D, H1 D = none → ∃ W : Nat → Nat → Hp → Prop, (∃ m, W 0 m (upd H1 D (.dT []))) ∧ ∀ i m H, W i m H →
  (J.stop i H ∧ Q (.ref D) H) ∨ (J.go i H ∧ ∃ Nx : Hp → Prop, (∀ H', Nx H' → ∃ m', m' < m ∧ W (i + 1) m' H') ∧ ∀ x H', J.yld i H x H' → g x (wipe σ vs) H' fun σ2 H2 => wipe σ2 vs = wipe σ vs ∧ tt σ2 H2 fun b H3 =>
    if b = true then tk σ2 H3 fun y H4 => tv σ2 H4 fun z H5 => ∃ kvs k b, y = .ref b ∧ H5 b = some (.tup (k.map kV)) ∧ H5 D = some (.dT kvs) ∧ kvs.length < sizeLine ∧ Nx (upd H5 D (.dT (putK kvs k z))) else Nx H3)
theorem pe_dcT {kx vx tg iter : Expr} {ifs : List Expr} {scope : Scope} {own : List (Str × Nat)} {pos : Pos} {wi : TI} {g : TG} {tt : TT} {tk tv : TE} (calm : X.calm = true) (once : X.N.Nodup) (room : X.A.units + 1 < cLine) (hi : PI X tg iter wi) (ok : BlkOk X.N X.env.scope scope own)
    (hg : ∀ (s : Shared) (H : Hp) (C : Addr) (cl : List (Str × Addr)) (fp : List Addr), PG (X.blk s H scope (compEnvC scope cl C X.env) fp) tg g) (ht : ∀ (s : Shared) (H : Hp) (C : Addr) (cl : List (Str × Addr)) (fp : List Addr), PTs (X.blk s H scope (compEnvC scope cl C X.env) fp) ifs tt)
    (hk : ∀ (s : Shared) (H : Hp) (C : Addr) (cl : List (Str × Addr)) (fp : List Addr), PE (X.blk s H scope (compEnvC scope cl C X.env) fp) kx tk)
    (he : ∀ (s : Shared) (H : Hp) (C : Addr) (cl : List (Str × Addr)) (fp : List Addr), PE (X.blk s H scope (compEnvC scope cl C X.env) fp) vx tv) (hs : ∀ x, foldedSetIterable iter X.env x = pure x := by intro _; rfl) :
    PE X (.DictComp kx vx [⟨tg, iter, ifs, 0⟩] scope pos) (tDcT wi g tt tk tv (own.map (·.2))) := by
  refine ⟨fun pins s σ H Q I0 read => ?_⟩
  rw [arm_eval_DictComp]
  refine wpAny_comprehension_free (use := none) rfl hs (closure_ok fun y hy e => ?_) ok.kind (fun y hy e => by rw [ok.uniq y hy, e]) (thn (hi.run pins s σ H _ I0 read) fun xv sa hx => thn hx fun itv sb hb => ?_)
  · rcases ok.free y hy e with z | z
    · exact I0.ok.has _ (.inl z)
    · exact I0.ok.has _ (.inr z)
  obtain ⟨it, fp, tn, J, Hb, ev, Ib, turn, stb, fpb, rest⟩ := hb
  subst ev
  refine wpAny_newObj_type (newEnv_comp ?_)
  -- the dict that is filled
  generalize eD : sb.heap.objs.size = D
  obtain ⟨W, ⟨m0, first⟩, each⟩ := rest D (by rw [← eD]; exact Ib.hok.fresh (Nat.le_refl _))
  generalize esc : ({ sb with heap := sb.heap.push { cls := .type "dict", data := .dict #[] } } : Shared) = sc
  have hsc : sc.heap = sb.heap.push { cls := .type "dict", data := .dict #[] } := by rw [← esc]
  have Ic : L2.Inv X pins σ (upd Hb D (.dT [])) sc := by
    rw [← esc, ← eD]
    exact Ib.laid (t' := sb.toks) (fun b o e => Heap.get?_push_of_some _ e) (Nat.le_refl _) (dt_empty sb.heap Ib.big)
  have low : ∀ b ∈ fp, b < sb.heap.objs.size := fun b hb => by
    obtain ⟨_, e, _⟩ := turn.obj _ _ stb b hb
    exact Heap.lt_size e
  have fpc : ∀ b ∈ fp, FpOk X pins (upd Hb D (.dT [])) b ∧ b < sc.heap.objs.size := fun b hb => by
    have l := low b hb
    refine ⟨⟨?_, (fpb b hb).2⟩, by rw [hsc, Heap.size_push]; exact Nat.lt_succ_of_lt l⟩
    rw [upd_ne (by rw [← eD]; exact Nat.ne_of_lt l)]
    exact (fpb b hb).1
  have stc : tn 0 sc.heap := turn.keep _ _ _ stb fun b _ o e => by rw [hsc]; exact Heap.get?_push_of_some _ e
  have Id := block_start Ic ok once fpc
  have noneFp : ∀ b ∈ fp, (upd Hb D (.dT [])) b = none := fun b hb => (fpc b hb).1.1
  -- the block's readings
  have rg := hg sc (upd Hb D (.dT [])) sc.heap.objs.size (cellsFrom (sc.heap.objs.size + 1) scope.names (cloFrom X.env.cells scope.names [])) fp
  have rt := ht sc (upd Hb D (.dT [])) sc.heap.objs.size (cellsFrom (sc.heap.objs.size + 1) scope.names (cloFrom X.env.cells scope.names [])) fp
  have rk := hk sc (upd Hb D (.dT [])) sc.heap.objs.size (cellsFrom (sc.heap.objs.size + 1) scope.names (cloFrom X.env.cells scope.names [])) fp
  have re := he sc (upd Hb D (.dT [])) sc.heap.objs.size (cellsFrom (sc.heap.objs.size + 1) scope.names (cloFrom X.env.cells scope.names [])) fp
  show codeAny _ _ (.compStart (.DictComp kx vx [⟨tg, iter, ifs, 0⟩] scope pos) 0 (.ref it) (.ref D) (compEnvC scope (cellsFrom (sc.heap.objs.size + 1) scope.names (cloFrom X.env.cells scope.names [])) sc.heap.objs.size X.env)) (compPost (model X.prog X.w) X.A X.xe none _ (.ref D) sc.heap.objs.size) { sc with heap := pushCells (sc.heap.push { cls := .type "dict", data := .dict #[] }) scope.names }
  generalize ece : compEnvC scope (cellsFrom (sc.heap.objs.size + 1) scope.names (cloFrom X.env.cells scope.names [])) sc.heap.objs.size X.env = ce at Id rg rt rk re ⊢
  have place : ce.locals = sc.heap.objs.size := by rw [← ece]; rfl
  generalize eHc : upd Hb D (.dT []) = Hc at Ic Id rg rt rk re first noneFp fpc
  generalize esd : ({ sc with heap := pushCells (sc.heap.push { cls := .type "dict", data := .dict #[] }) scope.names } : Shared) = sd at Id ⊢
  have std : tn 0 sd.heap := turn.keep _ _ _ stc fun b _ o e => by rw [← esd]; exact pushCells_keeps _ _ _ _ (Heap.get?_push_of_some _ e)
  have apart : ∀ {σ' : L2.St} {H' : Hp} {s' : Shared}, L2.Inv (X.blk sc Hc scope ce fp) [] σ' H' s' → (∀ b ∈ fp, H' b = none) → ∀ b ∈ fp, FpOk (X.blk sc Hc scope ce fp) [] H' b := fun {σ' H' s'} J' no b hb =>
    ⟨no b hb, (J'.ok.exf b hb).1, J'.ok.exfs b hb, .inl hb, fun x c e => (J'.ok.exf b hb).2 x c e, fun p hp => by cases (show p ∈ ([] : List (Addr × Obj)) from by simpa using hp)⟩
  have whole : codeAny (model X.prog X.w) X.A (.compLoop (.DictComp kx vx [⟨tg, iter, ifs, 0⟩] scope pos) 0 (.ref it) (.ref D) ce) (compPost (model X.prog X.w) X.A X.xe none (EP X pins σ Q) (.ref D) sc.heap.objs.size) sd := by
    refine compLoop_anyD (fun n s' => ∃ i H', L2.Inv (X.blk sc Hc scope ce fp) [] (wipe σ (own.map (·.2))) H' s' ∧ tn i s'.heap ∧ (∀ b ∈ fp, H' b = none) ∧ W i n H') ?_ m0 ⟨0, Hc, Id, std, noneFp, first⟩
    rintro n se ⟨i, He, Ie, ste, noe, we⟩
    rcases each i n He we with ⟨over, qq⟩ | ⟨more, Nx, down, step⟩
    · refine thnF (turn.done (X.blk sc Hc scope ce fp) rfl rfl rfl calm i [] se _ He (fun _ _ => False) Ie (apart Ie noe) ste over) fun r sf ⟨er, If⟩ => ?_
      subst er
      have Ig : L2.Inv X pins σ He sf := Ic.call' (ch := fp) If.os If.base If.hok If.bare fun b hb => ⟨(fpc b hb).1.2.2.2.1, (fpc b hb).1.2.1, (fpc b hb).1.2.2.2.2.1, (fpc b hb).1.2.2.2.2.2⟩
      have gone : He sc.heap.objs.size = none := by rw [← place]; exact If.free
      obtain ⟨mm, names, _⟩ := If.loc
      refine ⟨mm, by rw [← place]; exact names, fun h2 sb2 => ?_⟩
      obtain ⟨f0, f1, f2, f3, f4, f5⟩ := Ic.fpOk (Nat.le_refl _) gone
      exact ⟨.ref D, He, Ig.turned (t' := sf.toks) (fun b o hb e => (sb2.2 b hb).trans e) f0 f1 f3 f4 f5, rfl, qq⟩
    · refine thnF (turn.item (X.blk sc Hc scope ce fp) rfl rfl rfl calm i [] se _ He (fun _ _ => False) Ie (apart Ie noe) ste more) fun r sf ⟨u, er, hf⟩ => ?_
      subst er
      refine thnF hf fun _ sg ⟨x, Hg, Ig, rx, yx, stg, nog⟩ => ?_
      have Ip := Ig.pinned (apart Ig nog) (turn.obj _ _ stg)
      refine thnF (rg.run _ sg _ Hg x u _ Ip rx (step x Hg yx)) fun _ sh ⟨σh, Hh, Ih, wh, qh⟩ => ?_
      refine thnF (rt.run _ sh σh Hh _ Ih qh) fun b si ⟨Hi, Ii, qi⟩ => ?_
      have next : ∀ {s' : Shared} {H' : Hp}, L2.Inv (X.blk sc Hc scope ce fp) ([] ++ pinsAt fp sg.heap) σh H' s' → Nx H' → ∃ m, m < n ∧ ∃ i H', L2.Inv (X.blk sc Hc scope ce fp) [] (wipe σ (own.map (·.2))) H' s' ∧ tn i s'.heap ∧ (∀ b ∈ fp, H' b = none) ∧ W i m H' := fun {s' H'} J' nx => by
        obtain ⟨m', less, w'⟩ := down H' nx
        have held : ∀ b ∈ fp, ∀ o, sg.heap.get? b = some o → s'.heap.get? b = some o ∧ H' b = none := fun b hb o e =>
          ⟨(J'.pin (b, o) (List.mem_append_right _ (List.mem_append_right _ (mem_pinsAt hb e)))).1, (J'.pin (b, o) (List.mem_append_right _ (List.mem_append_right _ (mem_pinsAt hb e)))).2.1⟩
        refine ⟨m', less, i + 1, H', (J'.unpinned (pins := [])).weak (by rw [← wh, wipe_length]) (fun j v e => ?_), turn.keep _ _ _ stg fun b hb o e => (held b hb o e).1, fun b hb => ?_, w'⟩
        · rw [← wh] at e
          exact (wipe_some e).1
        · obtain ⟨o, e, _⟩ := turn.obj _ _ stg b hb
          exact (held b hb o e).2
      cases b with
      | false =>
        rw [if_neg Bool.false_ne_true] at qi ⊢
        exact next Ii qi
      | true =>
        rw [if_pos rfl] at qi ⊢
        refine thnF (rk.run _ si σh Hi _ Ii qi) fun z sj ⟨yk, Hj, Ij, rj, qj⟩ => ?_
        refine thnF (re.run _ sj σh Hj _ Ij qj) fun z2 sk ⟨yv, Hk, Ik, rkv, kvs, k, b, ek, hb, hD, few, nx⟩ => ?_
        subst ek
        cases (show z = Value.ref b from rj)
        exact setT (X := X.blk sc Hc scope ce fp) (Nat.lt_of_succ_lt room) Ik hD few hb rkv fun sl Il => next Il nx
  exact codeAny_compStart_dict whole (turn.self X.A 0 _ _ _ std whole)
end
end DT2
/-! NT: the net effect of a batch. -/
namespace SP
open PySem L2 DV PM LK NV QD
variable {K : PySem.W.Frag}
abbrev Ns := List ((Str × Int) × (Option Row × Option Row))
def keyC (c : Ch) : Str × Int := (c.tab, keyOf c.old c.new)
def keyL (k : Str × Int) : List Key := [.inr k.1, .inl k.2]
def pairD (p : Option Row × Option Row) : D := .tup [optD p.1, optD p.2]
def putN (S : Ns) (k : Str × Int) (p : Option Row × Option Row) : Ns := if (S.any fun q => decide (q.1 = k)) = true then S.map (fun q => if q.1 = k then (k, p) else q) else S ++ [(k, p)]
def firstN (S : Ns) (c : Ch) : Option Row := match S.lookup (keyC c) with
  | some p => p.1
  | none => c.old
def stepN (S : Ns) (c : Ch) : Ns := putN S (keyC c) (firstN S c, c.new)
def toldN (chs : List Ch) : Ns := chs.foldl stepN []
def netN (chs : List Ch) : Ns := (toldN chs).filter fun q => !decide (q.2.1 = q.2.2)
inductive RT (K : PySem.W.Frag) (B : Hp) : List (List Key × V) → Ns → Prop
  | nil : RT K B [] []
  | cons {k : Str × Int} {v : V} {p : Option Row × Option Row} {kvs : List (List Key × V)} {S : Ns} : Rp K B v (pairD p) → RT K B kvs S → RT K B ((keyL k, v) :: kvs) ((k, p) :: S)
theorem RT.mono {B B' : Hp} (e : Ex B B') : ∀ {kvs : List (List Key × V)} {S : Ns}, RT K B kvs S → RT K B' kvs S
  | _, _, .nil => .nil
  | _, _, .cons h r => .cons (Rp.mono e h) (RT.mono e r)
theorem RT.len {B : Hp} : ∀ {kvs : List (List Key × V)} {S : Ns}, RT K B kvs S → kvs.length = S.length
  | _, _, .nil => rfl
  | _, _, .cons _ r => by rw [List.length_cons, List.length_cons, RT.len r]
theorem keyL_inj {a b : Str × Int} : keyL a = keyL b ↔ a = b := by
  obtain ⟨a1, a2⟩ := a
  obtain ⟨b1, b2⟩ := b
  constructor
  · intro h
    unfold keyL at h
    injection h with h1 h2
    injection h2 with h2 _
    injection h1 with h1
    injection h2 with h2
    rw [show a1 = b1 from h1, show a2 = b2 from h2]
  · intro h; rw [h]
theorem RT.val {B : Hp} {k : Str × Int} : ∀ {kvs : List (List Key × V)} {S : Ns}, RT K B kvs S → (match S.lookup k with
    | some p => ∃ v, valV kvs (keyL k) = some v ∧ Rp K B v (pairD p)
    | none => valV kvs (keyL k) = none)
  | _, _, .nil => rfl
  | _ :: ks, (a, p) :: S, .cons (v := v) h r => by
    by_cases e : k = a
    · subst e
      have hl : List.lookup k ((k, p) :: S) = some p := by simp [List.lookup]
      rw [hl]
      exact ⟨v, valV_pos rfl, h⟩
    · have e' : (k == a) = false := by simpa using e
      have ne : ¬ keyL a = keyL k := fun z => e (keyL_inj.mp z).symm
      have ih := RT.val (k := k) r
      have hl : List.lookup k ((a, p) :: S) = S.lookup k := by simp only [List.lookup, e']
      rw [hl, valV_neg (p := (keyL a, v)) ne]
      exact ih
theorem RT.any {B : Hp} {k : Str × Int} : ∀ {kvs : List (List Key × V)} {S : Ns}, RT K B kvs S → (kvs.any fun kv => decide (kv.1 = keyL k)) = S.any fun q => decide (q.1 = k)
  | _, _, .nil => rfl
  | _ :: ks, (a, p) :: S, .cons (v := v) h r => by
    rw [List.any_cons, List.any_cons, RT.any r]
    congr 1
    by_cases e : a = k
    · rw [decide_eq_true (keyL_inj.mpr e), decide_eq_true e]
    · rw [decide_eq_false fun z => e (keyL_inj.mp z), decide_eq_false e]
theorem RT.snoc {B : Hp} {k : Str × Int} {v : V} {p : Option Row × Option Row} (h : Rp K B v (pairD p)) : ∀ {kvs : List (List Key × V)} {S : Ns}, RT K B kvs S → RT K B (kvs ++ [(keyL k, v)]) (S ++ [(k, p)])
  | _, _, .nil => .cons h .nil
  | _, _, .cons g r => .cons g (RT.snoc h r)
theorem RT.repl {B : Hp} {k : Str × Int} {v : V} {p : Option Row × Option Row} (h : Rp K B v (pairD p)) : ∀ {kvs : List (List Key × V)} {S : Ns}, RT K B kvs S → RT K B (kvs.map fun kv => if kv.1 = keyL k then (kv.1, v) else kv) (S.map fun q => if q.1 = k then (k, p) else q)
  | _, _, .nil => .nil
  | _ :: ks, (a, q) :: S, .cons (v := u) g r => by
    rw [List.map_cons, List.map_cons]
    by_cases e : a = k
    · subst e
      rw [if_pos rfl, if_pos rfl]
      exact .cons h (RT.repl h r)
    · rw [if_neg (show ¬ (keyL a, u).1 = keyL k from fun z => e (keyL_inj.mp z)), if_neg (show ¬ (a, q).1 = k from e)]
      exact .cons g (RT.repl h r)
theorem RT.put {B : Hp} {k : Str × Int} {v : V} {p : Option Row × Option Row} {kvs : List (List Key × V)} {S : Ns} (h : Rp K B v (pairD p)) (r : RT K B kvs S) : RT K B (putK kvs (keyL k) v) (putN S k p) := by
  unfold putK putN
  rw [r.any]
  split
  · exact r.repl h
  · exact r.snoc h
theorem putN_len (S : Ns) (k : Str × Int) (p : Option Row × Option Row) : (putN S k p).length ≤ S.length + 1 := by
  unfold putN
  split
  · rw [List.length_map]; omega
  · rw [List.length_append]; exact Nat.le_refl _
theorem stepN_len (S : Ns) (c : Ch) : (stepN S c).length ≤ S.length + 1 := putN_len _ _ _
theorem putN_keys {S : Ns} {k : Str × Int} {p : Option Row × Option Row} (h : (S.map (·.1)).Nodup) : ((putN S k p).map (·.1)).Nodup := by
  unfold putN
  split
  · have e : (S.map fun q => if q.1 = k then (k, p) else q).map (·.1) = S.map (·.1) := by
      rw [List.map_map]
      apply List.map_congr_left
      intro q _
      show (if q.1 = k then (k, p) else q).1 = q.1
      split
      · rename_i e; exact e.symm
      · rfl
    rw [e]; exact h
  · rename_i hn
    rw [List.map_append]
    refine List.nodup_append.mpr ⟨h, by simp, fun a ha b hb => ?_⟩
    have hb : b = k := by simpa using hb
    rw [hb]
    intro z
    obtain ⟨q, hq, e⟩ := List.mem_map.mp ha
    exact hn (List.any_eq_true.mpr ⟨q, hq, decide_eq_true (e.trans z)⟩)
theorem told_nd (chs : List Ch) : ((toldN chs).map (·.1)).Nodup := by
  have gen : ∀ (l : List Ch) (S : Ns), (S.map (·.1)).Nodup → ((l.foldl stepN S).map (·.1)).Nodup := by
    intro l
    induction l with
    | nil => intro S h; exact h
    | cons c l ih => intro S h; exact ih _ (putN_keys h)
  exact gen chs [] List.nodup_nil
theorem RT.get {B : Hp} : ∀ {kvs : List (List Key × V)} {S : Ns} {i : Nat} {k : List Key} {v : V}, RT K B kvs S → kvs[i]? = some (k, v) → ∃ q, S[i]? = some q ∧ k = keyL q.1 ∧ Rp K B v (pairD q.2)
  | _, _, _, _, _, .nil, e => by simp at e
  | _ :: _, (a, p) :: S, 0, k, v, .cons (v := u) h r, e => by
    have e : (keyL a, u) = (k, v) := by simpa using e
    injection e with e1 e2
    subst e1 e2
    exact ⟨(a, p), rfl, rfl, h⟩
  | _ :: _, (a, p) :: S, i + 1, k, v, .cons h r, e => by
    obtain ⟨q, h1, h2, h3⟩ := RT.get (i := i) r (by simpa using e)
    exact ⟨q, by simpa using h1, h2, h3⟩
theorem optD_inj {a b : Option Row} (h : optD a = optD b) : a = b := by
  have mapInj : ∀ {l m : List Int}, l.map D.int = m.map D.int → l = m := by
    intro l
    induction l with
    | nil => intro m h; cases m with | nil => rfl | cons _ _ => cases h
    | cons x l ih =>
      intro m h
      cases m with
      | nil => cases h
      | cons y m =>
        rw [List.map_cons, List.map_cons] at h
        injection h with h1 h2
        injection h1 with h1
        rw [h1, ih h2]
  cases a with
  | none => cases b with
    | none => rfl
    | some b => cases (show D.non = D.tup (b.map D.int) from h)
  | some a => cases b with
    | none => cases (show D.tup (a.map D.int) = D.non from h)
    | some b =>
      have h : D.tup (a.map D.int) = D.tup (b.map D.int) := h
      injection h with h
      rw [mapInj h]
theorem tup_asg {ta : TA} {i : Nat} {De : Ends} {σ : L2.St} {H : Hp} (h : ta σ H fun vs H1 => vs.length ≤ sizeLine ∧ ∀ p, H1 p = none → De.nx (σ.set i (some (.ref p))) (upd H1 p (.tup vs))) : tAsg (tTup ta) (gName i) De σ H := h
theorem ifF {c : Bool} {a b : Prop} (hc : c = false) (h : b) : if c = true then a else b := by rw [hc, if_neg Bool.false_ne_true]; exact h
theorem ifT {c : Bool} {a b : Prop} (hc : c = true) (h : a) : if c = true then a else b := by rw [hc, if_pos rfl]; exact h
def spNet (K : PySem.W.Frag) : Sp := fun vs H Q _ => ∃ B chs vch T, vs = [vch] ∧ Ex B H ∧ Rp K B vch (.lst (List.map encCh chs)) ∧ chs.length ≤ 1000 ∧ (∀ c ∈ chs, chOk T c) ∧
  ∀ a kvs B' H', Stp [] B H B' H' → Ex B' H' → H' a = some (.dT kvs) → B' a = none → H a = none → RT K B' kvs (netN chs) → Q (.ref a) H'
/-- a change's own key -/
theorem ev_keyC {T : List Tab} {c : Ch} (hc : chOk T c) {ss : List Sl} (h3 : ss[3]? = some (.dat (optD c.old))) (h4 : ss[4]? = some (.dat (optD c.new))) : Ev K [] ss [] (tIf (tTest (tOp rIsN (tVar 3) (tC .non))) (tOp (rIx K) (tVar 4) (tC (.int 0))) (tOp (rIx K) (tVar 3) (tC (.int 0)))) (.dat (.int (keyOf c.old c.new))) [] := by
  obtain ⟨cols, _, ho, hn, _⟩ := hc
  have row : ∀ {r : Row} {i : Nat}, r.length = cols.length + 1 → ss[i]? = some (.dat (rowD r)) → Ev K [] ss [] (tOp (rIx K) (tVar i) (tC (.int 0))) (.dat (.int (r.headD 0))) [] := fun {r i} hl hi => by
    cases r with
    | nil => simp at hl
    | cons a r => exact ev_op (ev_var (r := .dat (.tup (D.int a :: r.map D.int))) hi) (ev_int (i := 0)) (od_ixT (d := .int a) (atI_nat (xs := D.int a :: r.map D.int) (j := 0) rfl))
  cases c with
  | ins n r => exact ev_if (b := D.isN .non) (et_test (ev_op (ev_var h3) ev_non od_isN)) (fun _ => row (hn r rfl) h4) (fun z => by cases z)
  | del n r => exact ev_if (b := D.isN (rowD r)) (et_test (ev_op (ev_var h3) ev_non od_isN)) (fun z => by cases z) (fun _ => row (ho r rfl) h3)
  | set n o r => exact ev_if (b := D.isN (rowD o)) (et_test (ev_op (ev_var h3) ev_non od_isN)) (fun z => by cases z) (fun _ => row (ho o rfl) h3)
end SP
namespace T3
open PySem L2 DV PM SP LK NV
abbrev s_net : Stmt := topS 8
abbrev N_net : List Str := ["changes", "told", "change", "old", "new", "key", "first", "pair"]
theorem sc_net : FnScope N_net ["changes"] (defScope s_net) := ⟨rfl, rfl, rfl, by decide +kernel, rfl, by decide +kernel, by decide +kernel⟩

section
variable {P : Program} {w : World} {K : PySem.W.Frag} {mg : Str → Option Value} {base : Heap}
theorem ok_net {f fO : Addr} {fd fdO : FuncData} (F : Fun K "net" "net" s_net f fd) (G_old_and_new : Def P w K mg base 1 "old_and_new" fO fdO ["change"] (spM K preOAN)) :
    FnOk P w K mg base CX0 2 f fd ["changes"] (spNet K) := by
  refine F.ok sc_net (fun vs H Q E h => ?_) (fun cdv A outer s H vs Q E hr h => ?_)
  · obtain ⟨B, chs, vch, T, rfl, _⟩ := h
    rfl
  have nd := sc_net.nd
  refine ⟨_, (pss_cons (ps_set (i := 1) nd rfl (.inl rfl) pe_dnewT)
      (pss_cons (ps_for PassesOwn.never rfl (pi_list (pv 0)) (pg_name (i := 2) nd (by rfl) (by first | exact .inl rfl | exact .inr rfl)) (pss_cons (ps_asg (pe_def G_old_and_new hr (by decide) (by rfl) (pa_cons (pv 2) pa_nil)) (pg_tup (by rfl) (by exact (pgs_cons (by exact (pg_name (i := 3) nd (by rfl) (by first | exact .inl rfl | exact .inr rfl))) (by exact (pgs_cons (by exact (pg_name (i := 4) nd (by rfl) (by first | exact .inl rfl | exact .inr rfl))) (by exact pgs_nil)))))))
      (pss_cons (ps_set (i := 5) nd rfl (.inl rfl) (pe_tup (pa_cons (pe_ix ix_seq (pv 2) pe_int (fun _ _ => rfl)) (pa_cons (pe_ifExp (pt_cmpR op_isN' (pv 3) pe_non (nomark _)) (pe_ix ix_seq (pv 4) pe_int (fun _ _ => rfl)) (pe_ix ix_seq (pv 3) pe_int (fun _ _ => rfl))) pa_nil))))
      (pss_cons (ps_set (i := 6) nd rfl (.inl rfl) (pe_ifExp (pt_cmp (pc_din (hu_of hr) (pv 5) (pv 1)) (by rfl)) (pe_ix ix_seq (pe_dget (hu_of hr) (pv 1) (pv 5) (fun _ _ => rfl)) pe_int (fun _ _ => rfl)) (pv 3)))
      (pss_one (ps_dput (hu_of hr) (pv 1) (pv 5) (pe_tup (pa_cons (pv 6) (pa_cons (pv 4) pa_nil))) rfl))))))
      (pss_one (ps_ret (DT2.pe_dcT (own := [("key", 5), ("pair", 7)]) (g := (gTup K 2 (gCons (gName 5) (gCons (gName 7) gNil)))) (tt := (tTest (tOp (neA K) (tOp (rIx K) (tVar 7) (tC (.int 0))) (tOp (rIx K) (tVar 7) (tC (.int 1)))))) (tk := (tVar 5)) (tv := (tVar 7)) rfl nd (hu_of hr) (DT2.pi_itemsT (FZ.pe_frz (pv 1))) (blkOk_by (N := N_net) (sc := defScope s_net) (by decide +kernel)) (by intro _ _ _ _ _; exact (pg_tup (by rfl) (by exact (pgs_cons (by exact (pg_name (i := 5) nd (by rfl) (by first | exact .inl rfl | exact .inr rfl))) (by exact (pgs_cons (by exact (pg_name (i := 7) nd (by rfl) (by first | exact .inl rfl | exact .inr rfl))) (by exact pgs_nil))))))) (by intro _ _ _ _ _; exact (pts_one (pt_cmpR (op_neA hr.units) (pe_ix ix_seq (pv 7) pe_int (fun _ _ => rfl)) (pe_ix ix_seq (pv 7) pe_int (fun _ _ => rfl)) (nomark _)))) (by intro _ _ _ _ _; exact (pv 5)) (by intro _ _ _ _ _; exact (pv 7))))))), ?_⟩
  obtain ⟨B, chs, vch, T, rfl, e0, rch, hl, hch, q⟩ := h
  have st := sta_start (vs := [vch]) (N := N_net) (K := K) (P := []) (cs := []) (rs := [.dat (.lst (chs.map encCh))]) e0 ⟨rch, True.intro⟩ True.intro
  generalize L2.start N_net [vch] = σ at st ⊢
  have st : Sta K [] B H [.dat (.lst (chs.map encCh)), .any, .any, .any, .any, .any, .any, .any] [] σ H := st
  obtain ⟨B1, s1, o1⟩ := st
  refine st_seq (fun d0 hd0 => ?_)
  refine gname_go ?_
  dsimp only []
  have hd00 : H d0 = none := by
    cases e : H d0 with
    | none => rfl
    | some u => obtain ⟨u', h'⟩ := s1.dm d0 u e; rw [hd0] at h'; cases h'
  have s2 : Stp [] B H B1 (upd H d0 (.dT [])) := stp_upd s1 hd0
  have o2 : Okk K [] [.dat (.lst (chs.map encCh)), .val (.ref d0), .any, .any, .any, .any, .any, .any] [] B1 (upd H d0 (.dT [])) (σ.set 1 (some (.ref d0))) := ⟨ex_upd o1.ex (o1.ex.free hd0), o1.sl.set (i := 1) (v := .ref d0) (r := .val (.ref d0)) rfl, True.intro⟩
  have hB1 : B1 d0 = none := o1.ex.free hd0
  have hH2 : upd H d0 (.dT []) d0 = some (.dT []) := upd_same
  generalize upd H d0 (.dT []) = H2 at s2 o2 hH2
  generalize σ.set 1 (some (.ref d0)) = σ2 at o2
  refine st_seq (t := tFor _ _ _) ?_
  refine st_forX (α := Ns) (PS := [d0]) (P := []) (cs1 := []) (fun x hx => by cases hx) (Stp.refl [d0] B1 H2) o2 (wd_lst (ev_var (i := 0) rfl))
    (fun i S => S = toldN (chs.take i) ∧ S.length ≤ i) (fun _ _ => [.dat (.lst (chs.map encCh)), .val (.ref d0), .any, .any, .any, .any, .any, .any]) (fun _ _ => []) (fun _ S B H => ∃ kvs, H d0 = some (.dT kvs) ∧ B d0 = none ∧ RT K B kvs S) []
    ⟨rfl, Nat.le_refl _⟩ ⟨.rfl _, .rfl _, .any _, .any _, .any _, .any _, .any _, .any _, True.intro⟩ rfl (fun B3 H3 s3 => ⟨[], s3.fr _ _ (by simp) hH2, by rw [s3.nb _ _ hH2]; exact hB1, .nil⟩) (fun i S B H B' H' x s => ?_) (fun B3 H3 s23 i d S hd' jS => ?_) (fun S B4 σ4 H4 jS s24 o4 x4 => ?_)
  · obtain ⟨kvs, h1, h2, h3⟩ := x
    exact ⟨kvs, s.fr _ _ (by simp) h1, by rw [s.nb _ _ h1]; exact h2, h3.mono s.ex⟩
  · obtain ⟨c, hc, rfl⟩ := map_get hd'
    obtain ⟨rfl, hSl⟩ := jS
    have hcm := List.mem_of_getElem? hc
    have hil : i < chs.length := (List.getElem?_eq_some_iff.mp hc).1
    have hnext : stepN (toldN (chs.take i)) c = toldN (chs.take (i + 1)) := by
      unfold toldN
      rw [List.take_add_one, hc, List.foldl_append]
      rfl
    generalize toldN (chs.take i) = S at hSl hnext
    refine ⟨_, _, g_name (i := 2), fun B5 σ5 H5 s35 o5 x5 => ?_⟩
    have o5 : Okk K [] [.dat (.lst (chs.map encCh)), .val (.ref d0), .dat (encCh c), .any, .any, .any, .any, .any] [] B5 H5 σ5 := o5
    -- old, new
    refine st_seq ?_
    refine (ev_call0 (ea_cons (ev_var (i := 2) rfl) ea_nil) ⟨c, rfl, rfl, rfl, rfl, rfl⟩ : Ev K [] _ [] _ (.dat (.tup [optD c.old, optD c.new])) []) B5 H5 σ5 o5 _ fun v6 B6 H6 s56 o6 r6 => ?_
    refine (g_tup (g_cons (g_name (i := 3)) (g_cons (g_name (i := 4)) g_nil)) : GR K _ _ (.tup [optD c.old, optD c.new]) _ _) B6 H6 σ5 v6 o6.ex o6.sl r6 _ fun σ7 sl7 _ => ?_
    dsimp only []
    have o7 : Okk K [] [.dat (.lst (chs.map encCh)), .val (.ref d0), .dat (encCh c), .dat (optD c.old), .dat (optD c.new), .any, .any, .any] [] B6 H6 σ7 := ⟨o6.ex, sl7, True.intro⟩
    -- key
    refine st_seq (tup_asg ?_)
    refine (ea_cons (ev_op (ev_var (i := 2) (r := .dat (.tup (.str (wordOf c) :: .str c.tab :: rowD (rowOf c) :: tailOf c))) (by rw [← encCh_eq]; rfl)) (ev_int (i := 1)) (od_ixT (d := .str c.tab) (atI_nat (j := 1) rfl))) (ea_cons (ev_keyC (hch c hcm) rfl rfl) ea_nil) : EvA K [] _ [] _ [.dat (.str c.tab), .dat (.int (keyOf c.old c.new))] []) B6 H6 σ7 o7 _ fun vs B8 H8 s68 o8 r8 => ?_
    obtain ⟨u1, u2, rfl, ru1, ru2⟩ := rs2 r8
    cases (show Rp K B8 u1 (.str c.tab) from ru1)
    cases (show Rp K B8 u2 (.int (keyOf c.old c.new)) from ru2)
    refine ⟨le_line (by simp), fun qa hqa => ?_⟩
    dsimp only []
    have s89 := stp_new (o := .tup [.str c.tab, .int (keyOf c.old c.new)]) o8.ex hqa
    have o9 := o8.step0 s89 o8.ex.updB
    have o10 : Okk K [] [.dat (.lst (chs.map encCh)), .val (.ref d0), .dat (encCh c), .dat (optD c.old), .dat (optD c.new), .val (.ref qa), .any, .any] [] (upd B8 qa (.tup [.str c.tab, .int (keyOf c.old c.new)])) (upd H8 qa (.tup [.str c.tab, .int (keyOf c.old c.new)])) (σ7.set 5 (some (.ref qa))) := ⟨o9.ex, o9.sl.set (i := 5) (v := .ref qa) (r := .val (.ref qa)) rfl, True.intro⟩
    have hqB : upd B8 qa (.tup [.str c.tab, .int (keyOf c.old c.new)]) qa = some (.tup ((keyL (keyC c)).map kV)) := upd_same
    generalize upd B8 qa (.tup [.str c.tab, .int (keyOf c.old c.new)]) = B10 at s89 o9 o10 hqB
    generalize upd H8 qa (.tup [.str c.tab, .int (keyOf c.old c.new)]) = H10 at s89 o9 o10
    generalize σ7.set 5 (some (.ref qa)) = σ10 at o10
    have s510 : Stp [] B5 H5 B10 H10 := s56.trans (s68.trans s89)
    obtain ⟨kvs, hd5, hb5, rt5⟩ := x5
    have hd10 : H10 d0 = some (.dT kvs) := s510.fr _ _ (by simp) hd5
    have hb10 : B10 d0 = none := by rw [s510.nb _ _ hd5]; exact hb5
    have rt10 := rt5.mono s510.ex
    have hq10 := o10.ex _ _ hqB
    obtain ⟨w1, k1, ew1⟩ := o10.sl.get 1 (.val (.ref d0)) rfl (by intro z; cases z)
    cases (show w1 = .ref d0 from ew1)
    obtain ⟨w5, k5, ew5⟩ := o10.sl.get 5 (.val (.ref qa)) rfl (by intro z; cases z)
    cases (show w5 = .ref qa from ew5)
    obtain ⟨w3, k3, rw3⟩ := o10.sl.get 3 (.dat (optD c.old)) rfl (by intro z; cases z)
    have rw3 : Rp K B10 w3 (optD c.old) := rw3
    -- first
    have fst : ∀ Q' : VK, (∀ v B' H', Stp [] B10 H10 B' H' → Ex B' H' → Rp K B' v (optD (firstN S c)) → Q' v H') → tIf (tB (tDIn (tVar 5) (tVar 1))) (tOp (rIx K) (tDGet (tVar 1) (tVar 5)) (tC (.int 0))) (tVar 3) σ10 H10 Q' := fun Q' hq => by
      refine ⟨.ref qa, k5, .ref d0, k1, d0, valV kvs (keyL (keyC c)), rfl, DGet.t hd10 hq10, _, rfl, ?_⟩
      have hv := rt10.val (k := keyC c)
      unfold firstN at hq
      cases e : S.lookup (keyC c) with
      | none =>
        rw [e] at hv hq
        have hv : valV kvs (keyL (keyC c)) = none := hv
        rw [hv]
        exact ifF rfl ⟨w3, k3, hq w3 B10 H10 (Stp.refl _ _ _) o10.ex rw3⟩
      | some p =>
        rw [e] at hv hq
        obtain ⟨v, h1, h2⟩ := hv
        rw [h1]
        refine ifT rfl ?_
        refine ⟨.ref d0, k1, .ref qa, k5, d0, v, rfl, by rw [← h1]; exact DGet.t hd10 hq10, ?_⟩
        exact (od_ixT (K := K) (d := optD p.1) (ds := [optD p.1, optD p.2]) (i := 0) rfl) B10 H10 v (.int 0) o10.ex h2 (.int 0) _ fun v' B' H' s' e' r' => hq v' B' H' s' e' r'
    refine st_seq (fst _ fun v11 B11 H11 s11 e11 r11 => ?_)
    refine gname_go ?_
    dsimp only []
    have o11 := o10.step0 s11 e11
    have o12 : Okk K [] [.dat (.lst (chs.map encCh)), .val (.ref d0), .dat (encCh c), .dat (optD c.old), .dat (optD c.new), .val (.ref qa), .dat (optD (firstN S c)), .any] [] B11 H11 (σ10.set 6 (some v11)) := ⟨e11, o11.sl.set (i := 6) (r := .dat (optD (firstN S c))) r11, True.intro⟩
    generalize σ10.set 6 (some v11) = σ12 at o12
    obtain ⟨w1, j1, ew1⟩ := o12.sl.get 1 (.val (.ref d0)) rfl (by intro z; cases z)
    cases (show w1 = .ref d0 from ew1)
    obtain ⟨w5, j5, ew5⟩ := o12.sl.get 5 (.val (.ref qa)) rfl (by intro z; cases z)
    cases (show w5 = .ref qa from ew5)
    obtain ⟨w6, j6, rw6⟩ := o12.sl.get 6 (.dat (optD (firstN S c))) rfl (by intro z; cases z)
    obtain ⟨w4, j4, rw4⟩ := o12.sl.get 4 (.dat (optD c.new)) rfl (by intro z; cases z)
    have rw6 : Rp K B11 w6 (optD (firstN S c)) := rw6
    have rw4 : Rp K B11 w4 (optD c.new) := rw4
    -- told[key] = (first, new)
    refine ⟨w6, j6, w4, j4, le_line (by simp), fun pa hpa => ?_⟩
    have s13 := stp_new (o := .tup [w6, w4]) e11 hpa
    have e13 : Ex (upd B11 pa (.tup [w6, w4])) (upd H11 pa (.tup [w6, w4])) := e11.updB
    have rp : Rp K (upd B11 pa (.tup [w6, w4])) (.ref pa) (pairD (firstN S c, c.new)) := .tup (.inl upd_same) (.cons (Rp.mono s13.ex rw6) (.cons (Rp.mono s13.ex rw4) .nil))
    generalize upd B11 pa (.tup [w6, w4]) = B13 at s13 e13 rp
    generalize upd H11 pa (.tup [w6, w4]) = H13 at s13 e13
    have s1013 : Stp [] B10 H10 B13 H13 := s11.trans s13
    have hd13 : H13 d0 = some (.dT kvs) := s1013.fr _ _ (by simp) hd10
    have hb13 : B13 d0 = none := by rw [s1013.nb _ _ hd10]; exact hb10
    have hq13 : H13 qa = some (.tup ((keyL (keyC c)).map kV)) := s1013.fr _ _ (by simp) hq10
    have hkl : kvs.length ≤ 1000 := by rw [rt5.len]; omega
    refine ⟨.ref d0, j1, .ref qa, j5, d0, _, rfl, DPut.t (v := .ref pa) hd13 hq13 (lt_line (by omega)), ?_⟩
    have sW : Stp [d0] B13 H13 B13 (upd H13 d0 (.dT (putK kvs (keyL (keyC c)) (.ref pa)))) := stp_write hd13
    have eW : Ex B13 (upd H13 d0 (.dT (putK kvs (keyL (keyC c)) (.ref pa)))) := fun b u z => by
      rw [upd_ne fun y => by rw [y, hb13] at z; cases z]
      exact e13 b u z
    exact ⟨stepN S c, ⟨hnext, by have := stepN_len S c; omega⟩, B13, s35.trans ((s510.ofNil.trans s1013.ofNil).trans sW), ⟨eW, (o12.step0 s13 e13).sl.le ⟨.rfl _, .rfl _, .any _, .any _, .any _, .any _, .any _, .any _, True.intro⟩, True.intro⟩, _, upd_same, hb13, (rt10.mono s1013.ex).put rp⟩
  · rw [List.length_map, List.take_length] at jS
    obtain ⟨rfl, hSl⟩ := jS
    obtain ⟨kvs, hd4, hb4, rt4⟩ := x4
    have hnd := told_nd chs
    have hnet : netN chs = (toldN chs).filter fun q => !decide (q.2.1 = q.2.2) := rfl
    generalize toldN chs = S at hSl rt4 hnd hnet
    have hkl : kvs.length = S.length := rt4.len
    dsimp only []
    obtain ⟨w1, k1, ew1⟩ := o4.sl.get 1 (.val (.ref d0)) rfl (by intro z; cases z)
    cases (show w1 = .ref d0 from ew1)
    have len4 : σ4.length = 8 := o4.sl.len
    refine ⟨.ref d0, k1, d0, .dT kvs, rfl, hd4, True.intro, fun od => ⟨d0, od, kvs, rfl, upd_same, fun Dp hDp => ?_⟩⟩
    have e5 : Ex B4 (upd H4 d0 (.frz od (.dT kvs))) := fun b u z => by
      rw [upd_ne fun y => by rw [y, hb4] at z; cases z]
      exact o4.ex b u z
    have hF5 : upd H4 d0 (.frz od (.dT kvs)) d0 = some (.frz od (.dT kvs)) := upd_same
    have s45 : Stp [d0] B4 H4 B4 (upd H4 d0 (.frz od (.dT kvs))) := stp_write hd4
    generalize upd H4 d0 (.frz od (.dT kvs)) = H5 at hDp e5 hF5 s45 ⊢
    have sAll : Stp [d0] B H B4 H5 := (s2.ofNil.trans s24).trans s45
    have s0 : Stp [] B H B4 H5 := ⟨sAll.ex, fun b u _ z => sAll.fr b u (fun y => by rw [List.mem_singleton.mp y, hd00] at z; cases z) z, sAll.nb, sAll.dm⟩
    have hDH : H Dp = none := by
      cases e : H Dp with
      | none => rfl
      | some u => obtain ⟨u', h'⟩ := s0.dm Dp u e; rw [hDp] at h'; cases h'
    refine ⟨fun i m H' => m = kvs.length - i ∧ i ≤ kvs.length ∧ ∃ B' kv2, Stp [] B4 H5 B' H' ∧ Ex B' H' ∧ H' Dp = some (.dT kv2) ∧ B' Dp = none ∧ RT K B' kv2 ((S.take i).filter fun q => !decide (q.2.1 = q.2.2)), ⟨kvs.length, by simp, Nat.zero_le _, B4, [], stp_upd (Stp.refl _ _ _) hDp, ex_upd e5 (e5.free hDp), upd_same, e5.free hDp, .nil⟩, ?_⟩
    rintro i m H6 ⟨rfl, hi, B6, kv2, s56, e6, hD6, hb6, rt6⟩
    have hF6 : H6 d0 = some (.frz od (.dT kvs)) := s56.fr _ _ (by simp) hF5
    by_cases hlt : i < kvs.length
    · refine .inr ⟨⟨hF6, hlt⟩, fun H' => ∃ B' kv2, Stp [] B4 H5 B' H' ∧ Ex B' H' ∧ H' Dp = some (.dT kv2) ∧ B' Dp = none ∧ RT K B' kv2 ((S.take (i + 1)).filter fun q => !decide (q.2.1 = q.2.2)), fun H' z => ⟨kvs.length - (i + 1), by omega, rfl, hlt, z⟩, fun x H7 hy => ?_⟩
      obtain ⟨Tt, k, v, qk, hkv, rfl, hTn, hqk, rfl⟩ := hy
      obtain ⟨sq, hsq, rfl, rv⟩ := rt4.get hkv
      have htake : S.take (i + 1) = S.take i ++ [sq] := by rw [List.take_add_one, hsq]; rfl
      have s67 : Stp [] B6 H6 B6 (upd H6 Tt (.tup [.ref qk, v])) := stp_upd (Stp.refl _ _ _) hTn
      have e7 : Ex B6 (upd H6 Tt (.tup [.ref qk, v])) := ex_upd e6 (e6.free hTn)
      have rv7 : Rp K B6 v (pairD sq.2) := Rp.mono s56.ex rv
      refine ⟨Tt, [.ref qk, v], rfl, .inl (.inl upd_same), rfl, .ref qk, [v], rfl, v, [], rfl, rfl, ?_⟩
      generalize upd H6 Tt (.tup [.ref qk, v]) = H7 at s67 e7 ⊢
      have lenw : (wipe σ4 [5, 7]).length = 8 := by rw [wipe_length]; exact len4
      refine ⟨?_, ?_⟩
      · show wipe (((wipe σ4 [5, 7]).set 5 (some (.ref qk))).set 7 (some v)) [5, 7] = wipe σ4 [5, 7]
        apply List.ext_getElem?
        intro j
        rw [wipe_get, wipe_get]
        by_cases hj : j ∈ [5, 7]
        · rw [if_pos hj, if_pos hj, List.length_set, List.length_set, lenw, len4]
        · rw [if_neg hj, if_neg hj]
          have h5 : 5 ≠ j := fun z => hj (by simp [← z])
          have h7 : 7 ≠ j := fun z => hj (by simp [← z])
          rw [List.getElem?_set_ne h7, List.getElem?_set_ne h5, wipe_get, if_neg hj]
      have j5 : (((wipe σ4 [5, 7]).set 5 (some (.ref qk))).set 7 (some v))[5]? = some (some (.ref qk)) := by
        rw [List.getElem?_set_ne (by decide), List.getElem?_set, if_pos rfl, if_pos (by rw [lenw]; decide)]
      have j7 : (((wipe σ4 [5, 7]).set 5 (some (.ref qk))).set 7 (some v))[7]? = some (some v) := by
        rw [List.getElem?_set, if_pos rfl, if_pos (by rw [List.length_set, lenw]; decide)]
      have sh : ∀ r : Option Row, D.sh 1 (optD r) = true := fun r => by
        cases r with
        | none => rfl
        | some r => exact D.shA_all fun d hd => by obtain ⟨i, _, rfl⟩ := List.mem_map.mp hd; rfl
      have nb : ∀ r : Option Row, D.nb (optD r) = true := fun r => by
        cases r with
        | none => rfl
        | some r => exact D.nbA_all fun d hd => by obtain ⟨i, _, rfl⟩ := List.mem_map.mp hd; rfl
      have inj : decide (sq.2.1 = sq.2.2) = true ↔ optD sq.2.1 = optD sq.2.2 := ⟨fun z => by rw [of_decide_eq_true z], fun z => decide_eq_true (optD_inj z)⟩
      refine ⟨v, j7, (od_ixT (K := K) (d := optD sq.2.1) (ds := [optD sq.2.1, optD sq.2.2]) (i := 0) rfl) B6 H7 v (.int 0) e7 rv7 (.int 0) _ fun u0 B8 H8 s8 e8 r0 => ?_⟩
      refine ⟨v, j7, (od_ixT (K := K) (d := optD sq.2.2) (ds := [optD sq.2.1, optD sq.2.2]) (i := 1) rfl) B8 H8 v (.int 1) e8 (Rp.mono s8.ex rv7) (.int 1) _ fun u1 B9 H9 s9 e9 r1 => ?_⟩
      refine (od_r (od_ne (b := decide (sq.2.1 = sq.2.2)) 1 1 (sh _) (sh _) (nb _) (nb _) inj) : OpD K (neA K) (.dat (optD sq.2.1)) (.dat (optD sq.2.2)) _) B9 H9 u0 u1 e9 (Rp.mono s9.ex r0) r1 _ fun w B10 H10 s10 e10 r10 => ?_
      have r10 : Rp K B10 w (.bl (!decide (sq.2.1 = sq.2.2))) := r10
      cases r10
      refine ⟨_, rfl, ?_⟩
      have s610 : Stp [] B6 H6 B10 H10 := s67.trans (s8.trans (s9.trans s10))
      have s510 := s56.trans s610
      have hD10 : H10 Dp = some (.dT kv2) := s610.fr _ _ (by simp) hD6
      have hb10 : B10 Dp = none := by rw [s610.nb _ _ hD6]; exact hb6
      by_cases hp : sq.2.1 = sq.2.2
      · refine ifF (by rw [decide_eq_true hp]; rfl) ⟨B10, kv2, s510, e10, hD10, hb10, ?_⟩
        rw [htake, List.filter_append]
        have e : ([sq] : Ns).filter (fun q => !decide (q.2.1 = q.2.2)) = [] := by simp [hp]
        rw [e, List.append_nil]
        exact rt6.mono s610.ex
      · refine ifT (by rw [decide_eq_false hp]; rfl) ?_
        have hq10 : H10 qk = some (.tup ((keyL sq.1).map kV)) := s610.fr _ _ (by simp) hqk
        have hk2 : kv2.length ≤ 1000 := by
          rw [rt6.len]
          have := List.length_filter_le (fun q : (Str × Int) × (Option Row × Option Row) => !decide (q.2.1 = q.2.2)) (S.take i)
          rw [List.length_take] at this
          omega
        have hput : putN ((S.take i).filter fun q => !decide (q.2.1 = q.2.2)) sq.1 sq.2 = (S.take (i + 1)).filter fun q => !decide (q.2.1 = q.2.2) := by
          have hnew : ((S.take i).filter fun q => !decide (q.2.1 = q.2.2)).any (fun q => decide (q.1 = sq.1)) = false := by
            cases z : ((S.take i).filter fun q => !decide (q.2.1 = q.2.2)).any (fun q => decide (q.1 = sq.1)) with
            | false => rfl
            | true =>
              obtain ⟨q, hq, e⟩ := List.any_eq_true.mp z
              have hq := (List.mem_filter.mp hq).1
              have hnd2 : ((S.take (i + 1)).map (·.1)).Nodup := by
                rw [List.map_take]
                exact hnd.sublist (List.take_sublist _ _)
              rw [htake, List.map_append] at hnd2
              exact absurd (of_decide_eq_true e) fun y => (List.nodup_append.mp hnd2).2.2 _ (List.mem_map.mpr ⟨q, hq, rfl⟩) sq.1 (by simp) y
          unfold putN
          rw [hnew, if_neg Bool.false_ne_true, htake, List.filter_append]
          have e : ([sq] : Ns).filter (fun q => !decide (q.2.1 = q.2.2)) = [sq] := by simp [hp]
          rw [e]
        refine ⟨.ref qk, j5, v, j7, kv2, keyL sq.1, qk, rfl, hq10, hD10, lt_line (by omega), B10, putK kv2 (keyL sq.1) v, ⟨s510.ex, fun b u n z => ?_, s510.nb, fun b u z => ?_⟩, fun b u z => ?_, upd_same, hb10, ?_⟩
        · rw [upd_ne fun y => by rw [y, hDp] at z; cases z]
          exact s510.fr b u n z
        · rw [upd_ne fun y => by rw [y, hDp] at z; cases z]
          exact s510.dm b u z
        · rw [upd_ne fun y => by rw [y, hb10] at z; cases z]
          exact e10 b u z
        · rw [← hput]
          exact (rt6.mono s610.ex).put (Rp.mono s610.ex rv7)
    · have e : i = kvs.length := by omega
      refine .inl ⟨⟨hF6, by omega⟩, q Dp kv2 B6 H6 (s0.trans s56) e6 hD6 hb6 hDH ?_⟩
      rw [hnet]
      rw [e, hkl, List.take_length] at rt6
      exact rt6
end
end T3
/-! BT: the laws' own drawing of an allowed batch. -/
namespace SP
open PySem L2 DV PM LK NV QD
variable {K : PySem.W.Frag}
/-- an allowed batch, and the rows behind it -/
structure BatchOk (T : List Tab) (R : Rs) (m most : Nat) (chs : List Ch) (R' : Rs) : Prop where
  len : chs.length ≤ most
  ok : ∀ c ∈ chs, chOk T c
  adv : ∀ i, advF T chs R i = (none, R')
  gd : Gd T R' (m + chs.length)
  bd : ∀ b, 100 ≤ b → bdR b R → bdR b R' ∧ ∀ c ∈ chs, chB b c
theorem adv_snoc {T : List Tab} {c : Ch} {R1 : Rs} (h : okCh T R1 c = true) : ∀ {chs : List Ch} {R : Rs} {i : Nat}, (∀ i, advF T chs R i = (none, R1)) → advF T (chs ++ [c]) R i = (none, stepCh R1 c)
  | [], R, i, e => by
    have e0 := e 0
    have e1 : R = R1 := congrArg Prod.snd e0
    subst e1
    show (if okCh T R c = true then advF T [] (stepCh R c) (i + 1) else (some i, R)) = _
    rw [if_pos h]
    rfl
  | x :: xs, R, i, e => by
    by_cases hx : okCh T R x = true
    · have h2 : ∀ j, advF T xs (stepCh R x) j = (none, R1) := fun j => by
        have := e j
        unfold advF at this
        rw [if_pos hx] at this
        have key : ∀ {l : List Ch} {S : Rs} {a b : Nat}, advF T l S a = (none, R1) → advF T l S b = (none, R1) := by
          intro l
          induction l with
          | nil => intro S a b h; exact h
          | cons y l ih =>
            intro S a b h
            unfold advF at h ⊢
            by_cases hy : okCh T S y = true
            · rw [if_pos hy] at h ⊢
              exact ih h
            · rw [if_neg hy] at h
              have := congrArg Prod.fst h
              cases this
        exact key this
      show (if okCh T R x = true then advF T (xs ++ [c]) (stepCh R x) (i + 1) else (some i, R)) = _
      rw [if_pos hx]
      exact adv_snoc h h2
    · have := e 0
      unfold advF at this
      rw [if_neg hx] at this
      have := congrArg Prod.fst this
      cases this
theorem BatchOk.nil {T : List Tab} {R : Rs} {m most : Nat} (g : Gd T R m) : BatchOk T R m most [] R := ⟨Nat.zero_le _, fun _ h => (by cases h), fun _ => rfl, g, fun b _ h => ⟨h, fun _ z => by cases z⟩⟩
theorem BatchOk.add {T : List Tab} {R R1 : Rs} {m i : Nat} {chs : List Ch} {c : Ch} (h : BatchOk T R m i chs R1) (hT : schOk T) (hm : m + i + 1 ≤ 1000) (hc : chOk T c) (ok : okCh T R1 c = true) (hB : ∀ b, 100 ≤ b → bdR b R1 → chB b c) : BatchOk T R m (i + 1) (chs ++ [c]) (stepCh R1 c) := by
  have hl := h.len
  refine ⟨by rw [List.length_append, List.length_singleton]; omega, fun x hx => ?_, fun j => adv_snoc ok h.adv, ?_, fun b hb hR => ?_⟩
  · rcases List.mem_append.mp hx with hx | hx
    · exact h.ok x hx
    · rw [List.mem_singleton.mp hx]; exact hc
  · have := h.gd.step (by omega) hT hc ok
    rw [List.length_append, List.length_singleton]
    exact this
  · obtain ⟨b1, b2⟩ := h.bd b hb hR
    refine ⟨b1.step (by omega) (hB b hb b1), fun x hx => ?_⟩
    rcases List.mem_append.mp hx with hx | hx
    · exact b2 x hx
    · rw [List.mem_singleton.mp hx]; exact hB b hb b1
theorem BatchOk.more {T : List Tab} {R R1 : Rs} {m i j : Nat} {chs : List Ch} (h : BatchOk T R m i chs R1) (e : i ≤ j) : BatchOk T R m j chs R1 := ⟨Nat.le_trans h.len e, h.ok, h.adv, h.gd, h.bd⟩
def batchW (T : List Tab) (R : Rs) (m most : Nat) : Wh := fun r c => ∃ s' chs R', c = [fdD s'] ∧ r = .dat (.tup [.lst (chs.map encCh), tabD R']) ∧ BatchOk T R m most chs R'
def preBatchN : PreN := fun rs Pl cs W => ∃ p s T R m most, rs = [.val (.ref p), .dat (encTs T), .dat (tabD R), .dat (.int (most : Nat))] ∧ schOk T ∧ refsOk T ∧ T ≠ [] ∧ Gd T R m ∧ 0 < most ∧ most ≤ 20 ∧ m + most < 64 ∧ Pl = [p] ∧ cs = [fdD s] ∧ W = batchW T R m most
theorem isN_ch (c : Ch) : D.isN (encCh c) = false := by cases c <;> rfl
theorem made_one {T : List Tab} {R : Rs} {c : Ch} (h : okCh T R c = true) : madeD (advF T [c] R 0) = tabD (stepCh R c) := by
  unfold advF
  rw [if_pos h]
  rfl
theorem st_parNewV {P : List Addr} {B0 H0 H : Hp} {ss : List Sl} {cs : List (List D)} {σ : L2.St} {De : Ends} {i j l : Nat} {d : D} (hl : ss[l]? = some (.dat d)) (h : Sta K P B0 H0 ss cs σ H) (k : ∀ p σ' H', H0 p = none → p ∉ P → Sta K (p :: P) B0 H0 ((ss.set i (.val (.ref p))).set j (.dat d)) ([] :: cs) σ' H' → De.nx σ' H') : tPar i j (tCons (tLst tNil) (tCons (tVar l) tNil)) De σ H := by
  obtain ⟨B, s, o⟩ := h
  obtain ⟨v, hv, rv⟩ := o.sl.get l (.dat d) hl (by intro z; cases z)
  have rv : Rp K B v d := rv
  refine ⟨Nat.zero_le _, fun p hp => ⟨v, hv, _, _, rfl, ?_⟩⟩
  have hp0 : H0 p = none := by
    cases e : H0 p with
    | none => rfl
    | some u =>
      obtain ⟨u', h'⟩ := s.dm p u e
      rw [hp] at h'; cases h'
  have hpP : p ∉ P := fun z => by
    obtain ⟨u, h1, _⟩ := o.mu.mem z
    rw [hp] at h1; cases h1
  have hpB : B p = none := o.ex.free hp
  refine k p _ _ hp0 hpP ⟨B, ⟨s.ex, fun b u n e => ?_, s.nb, fun b u e => ?_⟩, ⟨fun b u e => Ex.new hp b u (o.ex b u e), (o.sl.set (i := i) (v := .ref p) (r := .val (.ref p)) rfl).set (i := j) (r := .dat d) rv, ⟨⟨[], upd_same, .nil⟩, hpB, hpP, o.mu.keep (Ex.refl _) (fun x hx => upd_ne fun z => hpP (z ▸ hx)) fun x hx => ?_⟩⟩⟩
  · rw [upd_ne (fun (z : b = p) => n (z ▸ List.mem_cons_self))]
    exact s.fr b u (fun z => n (List.mem_cons_of_mem _ z)) e
  · obtain ⟨u', h'⟩ := s.dm b u e
    exact ⟨u', Ex.new hp b u' h'⟩
  · exact (o.mu.mem hx).choose_spec.2
abbrev Bz := Rs × List Ch × Fd
end SP
namespace T3
open PySem L2 DV PM SP LK NV
section
variable {P : Program} {w : World} {K : PySem.W.Frag} {mg : Str → Option Value} {base : Heap}
end
end T3
/-! BSY: the laws' own drawing of a batch that tells few rows often. -/
namespace SP
open PySem L2 DV PM LK NV QD
variable {K : PySem.W.Frag} {P : List Addr} {ss : List Sl} {cs cs1 cs2 : List (List D)}
/-- xs != [] of a list that may change -/
theorem ev_neM {i j : Nat} {p : Addr} {ds : List D} {n : Nat} (hi : ss[i]? = some (.val (.ref p))) (hP : P[j]? = some p) (hc : cs[j]? = some ds) (hs : D.sh n (.lst ds) = true) (hb : D.nb (.lst ds) = true) {b : Bool} (he : (!ds.isEmpty) = b) (hn : n ≤ 64 := by decide) :
    Ev K P ss cs (tOp (neA K) (tVar i) (tLst tNil)) (.dat (.bl b)) cs := fun B H σ o Q q => by
  subst he
  obtain ⟨w, hw, ew⟩ := o.sl.get i _ hi (by intro z; cases z)
  cases (show w = .ref p from ew)
  obtain ⟨⟨vs, hv, rv⟩, hB⟩ := o.mu.get hP hc
  refine ⟨.ref p, hw, Nat.zero_le _, fun l hl => .inr ?_⟩
  have hpl : p ≠ l := fun z => by rw [z, hl] at hv; cases hv
  have s1 := stp_new (o := .lst []) o.ex hl
  have e1 : Ex (upd B l (.lst [])) (upd H l (.lst [])) := o.ex.updB
  have o1 := o.step0 s1.ofNil e1
  refine ⟨(D.lst ds).py, (D.lst []).py, ?_, .lst (.inl (.inl upd_same)) .nil, D.shaped hs hn, D.shaped (n := 1) rfl, ?_⟩
  · have hpl2 : D.plA ds = true := by have := D.sh_pl _ _ hs; simpa [D.pl] using this
    exact .lst (.inl (.inl (by rw [upd_ne hpl]; exact hv))) ((rv.mono s1.ex).dp e1 hpl2)
  · have hq : PyData.eqv (D.lst ds).py (D.lst []).py = ds.isEmpty := by
      refine Bool.eq_iff_iff.mpr ((D.eqv_iff _ _ hb rfl).trans ?_)
      cases ds with
      | nil => exact ⟨fun _ => rfl, fun _ => rfl⟩
      | cons a r => exact ⟨fun z => (by injection z with z; cases z), fun z => by cases z⟩
    rw [hq]
    exact q _ _ _ s1.ofNil o1 (.bl _)
theorem et_andN {t u : TT} (h : EvT K P ss cs t false cs1) : EvT K P ss cs (tAnd t u) false cs1 := fun B H σ o Q q => h B H σ o _ fun B1 H1 s1 o1 => by
  show Q false H1
  exact q B1 H1 s1 o1
theorem et_andY {t u : TT} {b : Bool} (h1 : EvT K P ss cs t true cs1) (h2 : EvT K P ss cs1 u b cs2) : EvT K P ss cs (tAnd t u) b cs2 := fun B H σ o Q q => h1 B H σ o _ fun B1 H1 s1 o1 => by
  show u σ H1 Q
  exact h2 B1 H1 σ o1 Q fun B2 H2 s2 o2 => q B2 H2 (s1.trans s2) o2
theorem with_mid {t : TS} {D : Ends} {G : L2.St → Hp → Prop} {σ : L2.St} {H : Hp} (main : (∀ σ H, G σ H → D.nx σ H) → t D σ H) (mid : ∀ σ H, G σ H → D.nx σ H) : t D σ H := main mid
theorem BatchOk.addW {T : List Tab} {R R1 : Rs} {m i : Nat} {chs : List Ch} {c : Ch} (h : BatchOk T R m i chs R1) (hT : schOk T) (hm : m + i + 1 ≤ 1000) (hc : chOk T c) (ok : okCh T R1 c = true) (hB : ∀ b, 100 ≤ b → bdR b R → chB b c) : BatchOk T R m (i + 1) (chs ++ [c]) (stepCh R1 c) := by
  have hl := h.len
  refine ⟨by rw [List.length_append, List.length_singleton]; omega, fun x hx => ?_, fun j => adv_snoc ok h.adv, ?_, fun b hb hR => ?_⟩
  · rcases List.mem_append.mp hx with hx | hx
    · exact h.ok x hx
    · rw [List.mem_singleton.mp hx]; exact hc
  · have := h.gd.step (by omega) hT hc ok
    rw [List.length_append, List.length_singleton]
    exact this
  · obtain ⟨b1, b2⟩ := h.bd b hb hR
    refine ⟨b1.step (by omega) (hB b hb hR), fun x hx => ?_⟩
    rcases List.mem_append.mp hx with hx | hx
    · exact b2 x hx
    · rw [List.mem_singleton.mp hx]; exact hB b hb hR
theorem mem_lookup2 : ∀ {l : List (Int × Row)} {k : Int} {r : Row}, l.lookup k = some r → (k, r) ∈ l
  | [], _, _, h => by cases h
  | (a, x) :: l, k, r, h => by
    by_cases e : k = a
    · subst e
      rw [List.lookup_cons_self] at h
      cases h
      exact List.mem_cons_self
    · have e2 : (k == a) = false := by simpa using e
      simp only [List.lookup, e2] at h
      exact List.mem_cons_of_mem _ (mem_lookup2 h)
/-- the row of a change may stand -/
theorem chOk.row {T : List Tab} {c : Ch} (h : chOk T c) : ∃ cols, T.lookup c.tab = some cols ∧ (rowOf c).length = cols.length + 1 := by
  obtain ⟨cols, h0, h1, h2, _⟩ := h
  refine ⟨cols, h0, ?_⟩
  cases c with
  | ins n r => exact h2 r rfl
  | del n r => exact h1 r rfl
  | set n o r => exact h1 o rfl
theorem chB.rowC {b : Int} {c : Ch} (h : chB b c) : bnd b (rowOf c) := by
  cases c with
  | ins n r => exact h.2 r rfl
  | del n r => exact h.1 r rfl
  | set n o r => exact h.1 o rfl
theorem chOk.ins {T : List Tab} {n : Str} {r : Row} {cols : List Col} (h : T.lookup n = some cols) (hr : r.length = cols.length + 1) : chOk T (.ins n r) := ⟨cols, h, fun _ z => (by cases z), fun _ z => (by cases z; exact hr), fun _ _ z => by cases z⟩
theorem chOk.del {T : List Tab} {n : Str} {r : Row} {cols : List Col} (h : T.lookup n = some cols) (hr : r.length = cols.length + 1) : chOk T (.del n r) := ⟨cols, h, fun _ z => (by cases z; exact hr), fun _ z => (by cases z), fun _ _ _ z => by cases z⟩
theorem chOk.set {T : List Tab} {n : Str} {o r : Row} {cols : List Col} (h : T.lookup n = some cols) (ho : o.length = cols.length + 1) (hr : r.length = cols.length + 1) (e : o.headD 0 = r.headD 0) : chOk T (.set n o r) := ⟨cols, h, fun _ z => (by cases z; exact ho), fun _ z => (by cases z; exact hr), fun _ _ z y => by cases z; cases y; exact e⟩
theorem sh_chs {T : List Tab} (hT : schOk T) {chs : List Ch} (h : ∀ c ∈ chs, chOk T c) : D.sh 3 (.lst (chs.map encCh)) = true ∧ D.nb (.lst (chs.map encCh)) = true := by
  have row : ∀ r : Row, D.sh 1 (rowD r) = true := fun r => D.shA_all fun d hd => by obtain ⟨i, _, rfl⟩ := List.mem_map.mp hd; rfl
  have rnb : ∀ r : Row, D.nb (rowD r) = true := fun r => D.nbA_all fun d hd => by obtain ⟨i, _, rfl⟩ := List.mem_map.mp hd; rfl
  constructor
  · refine D.shA_all (n := 2) fun d hd => ?_
    obtain ⟨c, hc, rfl⟩ := List.mem_map.mp hd
    obtain ⟨cols, h0, _⟩ := h c hc
    have hn : D.sh 1 (.str c.tab) = true := (hT.1.2 _ (mem_lookup h0)).1.2.2.2
    cases c with
    | ins n r =>
      refine D.shA_all (n := 1) fun d hd => ?_
      simp only [List.mem_cons, List.not_mem_nil, or_false] at hd
      rcases hd with rfl | rfl | rfl
      · decide +kernel
      · exact hn
      · exact row _
    | del n r =>
      refine D.shA_all (n := 1) fun d hd => ?_
      simp only [List.mem_cons, List.not_mem_nil, or_false] at hd
      rcases hd with rfl | rfl | rfl
      · decide +kernel
      · exact hn
      · exact row _
    | set n o r =>
      refine D.shA_all (n := 1) fun d hd => ?_
      simp only [List.mem_cons, List.not_mem_nil, or_false] at hd
      rcases hd with rfl | rfl | rfl | rfl
      · decide +kernel
      · exact hn
      · exact row _
      · exact row _
  · refine D.nbA_all fun d hd => ?_
    obtain ⟨c, hc, rfl⟩ := List.mem_map.mp hd
    cases c with
    | ins n r => simp [encCh, D.nb, D.nbA, rnb]
    | del n r => simp [encCh, D.nb, D.nbA, rnb]
    | set n o r => simp [encCh, D.nb, D.nbA, rnb]
/-- what the law's own change may be -/
def goodC (T : List Tab) (R : Rs) (d : D) : Prop := d = .non ∨ ∃ c, d = encCh c ∧ chOk T c ∧ ∀ b, 100 ≤ b → bdR b R → chB b c
def preBusyN : PreN := fun rs Pl cs W => ∃ p s T R m, rs = [.val (.ref p), .dat (encTs T), .dat (tabD R)] ∧ schOk T ∧ refsOk T ∧ T ≠ [] ∧ Gd T R m ∧ m + 8 < 64 ∧ Pl = [p] ∧ cs = [fdD s] ∧ W = batchW T R m 8
end SP
namespace T3
open PySem L2 DV PM SP LK NV
section
variable {P : Program} {w : World} {K : PySem.W.Frag} {mg : Str → Option Value} {base : Heap}
end
end T3
/-! LNT: the law's own net effect. -/
namespace QT
open PySem L2
theorem roomT {k : Nat} {A : PySem.Around} (hr : Room k A) : A.units + 2 < cLine := by have := hr.units; omega
theorem merge_new : ∀ {kvs acc : List (List Key × V)}, ((acc ++ kvs).map (·.1)).Nodup → mergeT acc kvs = acc ++ kvs
  | [], acc, _ => by rw [List.append_nil]; rfl
  | kv :: r, acc, h => by
    have hn : (acc.any fun p => decide (p.1 = kv.1)) = false := by
      cases z : acc.any fun p => decide (p.1 = kv.1) with
      | false => rfl
      | true =>
        obtain ⟨p, hp, e⟩ := List.any_eq_true.mp z
        rw [List.map_append] at h
        exact absurd (of_decide_eq_true e) ((List.nodup_append.mp h).2.2 _ (List.mem_map.mpr ⟨p, hp, rfl⟩) _ (by simp))
    have hp : putK acc kv.1 kv.2 = acc ++ [kv] := by
      unfold putK
      rw [hn, if_neg Bool.false_ne_true]
    show mergeT (putK acc kv.1 kv.2) r = _
    rw [hp, merge_new (by simpa using h), List.append_assoc]
    rfl
end QT
namespace SP
open PySem L2 DV PM LK NV QD
variable {K : PySem.W.Frag} {f : Option Row × Option Row → D}
/-- a dict with such keys, whose values are told by f -/
inductive RU (K : PySem.W.Frag) (B : Hp) (f : Option Row × Option Row → D) : List (List Key × V) → Ns → Prop
  | nil : RU K B f [] []
  | cons {k : Str × Int} {v : V} {p : Option Row × Option Row} {kvs : List (List Key × V)} {S : Ns} : Rp K B v (f p) → RU K B f kvs S → RU K B f ((keyL k, v) :: kvs) ((k, p) :: S)
theorem RU.mono {B B' : Hp} (e : Ex B B') : ∀ {kvs : List (List Key × V)} {S : Ns}, RU K B f kvs S → RU K B' f kvs S
  | _, _, .nil => .nil
  | _, _, .cons h r => .cons (Rp.mono e h) (RU.mono e r)
theorem RU.len {B : Hp} : ∀ {kvs : List (List Key × V)} {S : Ns}, RU K B f kvs S → kvs.length = S.length
  | _, _, .nil => rfl
  | _, _, .cons _ r => by rw [List.length_cons, List.length_cons, RU.len r]
theorem RU.val {B : Hp} {k : Str × Int} : ∀ {kvs : List (List Key × V)} {S : Ns}, RU K B f kvs S → (match S.lookup k with
    | some p => ∃ v, valV kvs (keyL k) = some v ∧ Rp K B v (f p)
    | none => valV kvs (keyL k) = none)
  | _, _, .nil => rfl
  | _ :: ks, (a, p) :: S, .cons (v := v) h r => by
    by_cases e : k = a
    · subst e
      have hl : List.lookup k ((k, p) :: S) = some p := by simp [List.lookup]
      rw [hl]
      exact ⟨v, valV_pos rfl, h⟩
    · have e' : (k == a) = false := by simpa using e
      have ne : ¬ keyL a = keyL k := fun z => e (keyL_inj.mp z).symm
      have ih := RU.val (k := k) r
      have hl : List.lookup k ((a, p) :: S) = S.lookup k := by simp only [List.lookup, e']
      rw [hl, valV_neg (p := (keyL a, v)) ne]
      exact ih
theorem RU.any {B : Hp} {k : Str × Int} : ∀ {kvs : List (List Key × V)} {S : Ns}, RU K B f kvs S → (kvs.any fun kv => decide (kv.1 = keyL k)) = S.any fun q => decide (q.1 = k)
  | _, _, .nil => rfl
  | _ :: ks, (a, p) :: S, .cons (v := v) h r => by
    rw [List.any_cons, List.any_cons, RU.any r]
    congr 1
    by_cases e : a = k
    · rw [decide_eq_true (keyL_inj.mpr e), decide_eq_true e]
    · rw [decide_eq_false fun z => e (keyL_inj.mp z), decide_eq_false e]
theorem RU.snoc {B : Hp} {k : Str × Int} {v : V} {p : Option Row × Option Row} (h : Rp K B v (f p)) : ∀ {kvs : List (List Key × V)} {S : Ns}, RU K B f kvs S → RU K B f (kvs ++ [(keyL k, v)]) (S ++ [(k, p)])
  | _, _, .nil => .cons h .nil
  | _, _, .cons g r => .cons g (RU.snoc h r)
theorem RU.repl {B : Hp} {k : Str × Int} {v : V} {p : Option Row × Option Row} (h : Rp K B v (f p)) : ∀ {kvs : List (List Key × V)} {S : Ns}, RU K B f kvs S → RU K B f (kvs.map fun kv => if kv.1 = keyL k then (kv.1, v) else kv) (S.map fun q => if q.1 = k then (k, p) else q)
  | _, _, .nil => .nil
  | _ :: ks, (a, q) :: S, .cons (v := u) g r => by
    rw [List.map_cons, List.map_cons]
    by_cases e : a = k
    · subst e
      rw [if_pos rfl, if_pos rfl]
      exact .cons h (RU.repl h r)
    · rw [if_neg (show ¬ (keyL a, u).1 = keyL k from fun z => e (keyL_inj.mp z)), if_neg (show ¬ (a, q).1 = k from e)]
      exact .cons g (RU.repl h r)
theorem RU.put {B : Hp} {k : Str × Int} {v : V} {p : Option Row × Option Row} {kvs : List (List Key × V)} {S : Ns} (h : Rp K B v (f p)) (r : RU K B f kvs S) : RU K B f (putK kvs (keyL k) v) (putN S k p) := by
  unfold putK putN
  rw [r.any]
  split
  · exact r.repl h
  · exact r.snoc h
theorem RU.get {B : Hp} : ∀ {kvs : List (List Key × V)} {S : Ns} {i : Nat} {k : List Key} {v : V}, RU K B f kvs S → kvs[i]? = some (k, v) → ∃ q, S[i]? = some q ∧ k = keyL q.1 ∧ Rp K B v (f q.2)
  | _, _, _, _, _, .nil, e => by simp at e
  | _ :: _, (a, p) :: S, 0, k, v, .cons (v := u) h r, e => by
    have e : (keyL a, u) = (k, v) := by simpa using e
    injection e with e1 e2
    subst e1 e2
    exact ⟨(a, p), rfl, rfl, h⟩
  | _ :: _, (a, p) :: S, i + 1, k, v, .cons h r, e => by
    obtain ⟨q, h1, h2, h3⟩ := RU.get (i := i) r (by simpa using e)
    exact ⟨q, by simpa using h1, h2, h3⟩
theorem RT.keys {B : Hp} : ∀ {kvs : List (List Key × V)} {S : Ns}, RT K B kvs S → kvs.map (·.1) = S.map fun q => keyL q.1
  | _, _, .nil => rfl
  | _, _, .cons _ r => by rw [List.map_cons, List.map_cons, RT.keys r]
abbrev nfD (p : Option Row × Option Row) : D := .lst [optD p.1]
abbrev nsD (p : Option Row × Option Row) : D := optD p.2
theorem look_nd {S : Ns} (h : (S.map (·.1)).Nodup) {q : (Str × Int) × (Option Row × Option Row)} (hq : q ∈ S) : S.lookup q.1 = some q.2 := by
  induction S with
  | nil => cases hq
  | cons a r ih =>
    rw [List.map_cons, List.nodup_cons] at h
    rcases List.mem_cons.mp hq with rfl | hq
    · exact List.lookup_cons_self
    · have e : (q.1 == a.1) = false := by
        have : ¬ q.1 = a.1 := fun z => h.1 (List.mem_map.mpr ⟨q, hq, z⟩)
        simpa using this
      have h2 : List.lookup q.1 (a :: r) = r.lookup q.1 := by
        obtain ⟨a1, a2⟩ := a
        simp only [List.lookup, e]
      rw [h2]
      exact ih h.2 hq
theorem paired_snoc {α β : Type} {F : α → β → Prop} {x : α} {y : β} (h : F x y) : ∀ {l : List α} {m : List β}, Paired F l m → Paired F (l ++ [x]) (m ++ [y])
  | _, _, .nil => .cons h .nil
  | _, _, .cons g r => .cons g (paired_snoc h r)
theorem keyOf_row (c : Ch) : keyOf c.old c.new = (rowOf c).headD 0 := by cases c <;> rfl
theorem row_cons {T : List Tab} {c : Ch} (h : chOk T c) : ∃ a tl, rowOf c = a :: tl := by
  obtain ⟨cols, _, hl⟩ := h.row
  cases hr : rowOf c with
  | nil => rw [hr] at hl; simp at hl
  | cons a t => exact ⟨a, t, rfl⟩
/-- the end of a change -/
theorem at_last (c : Ch) (h : ¬ wordOf c = "delete") : atI (.str (wordOf c) :: .str c.tab :: rowD (rowOf c) :: tailOf c) (-1) = some (optD c.new) := by
  cases c with
  | ins n r => rfl
  | del n r => exact absurd rfl h
  | set n o r => rfl
theorem old_word (c : Ch) : c.old = if wordOf c = "insert" then none else some (rowOf c) := by
  cases c with
  | ins n r => rfl
  | del n r => rw [if_neg (show ¬ wordOf (Ch.del n r) = "insert" from (by decide +kernel : ¬ ("delete" : Str) = "insert"))]; rfl
  | set n o r => rw [if_neg (show ¬ wordOf (Ch.set n o r) = "insert" from (by decide +kernel : ¬ ("set" : Str) = "insert"))]; rfl
theorem new_word (c : Ch) (h : wordOf c = "delete") : c.new = none := by
  cases c with
  | ins n r => exact absurd h (show ¬ ("insert" : Str) = "delete" by decide +kernel)
  | del n r => rfl
  | set n o r => exact absurd h (show ¬ ("set" : Str) = "delete" by decide +kernel)
end SP
namespace T3
open PySem L2 DV PM SP LK NV
section
variable {P : Program} {w : World} {K : PySem.W.Frag} {mg : Str → Option Value} {base : Heap}
end
end T3
/-! OB: a batch and its opposite. -/
namespace SP
open PySem L2 DV PM LK NV
theorem adv_app {T : List Tab} : ∀ {l1 l2 : List Ch} {R R1 : Rs} {i : Nat}, advF T l1 R i = (none, R1) → advF T (l1 ++ l2) R i = advF T l2 R1 (i + l1.length)
  | [], l2, R, R1, i, h => by
    have e : R = R1 := congrArg Prod.snd h
    subst e
    rfl
  | c :: l1, l2, R, R1, i, h => by
    have h : (if okCh T R c = true then advF T l1 (stepCh R c) (i + 1) else (some i, R)) = (none, R1) := h
    show (if okCh T R c = true then advF T (l1 ++ l2) (stepCh R c) (i + 1) else (some i, R)) = _
    by_cases e : okCh T R c = true
    · rw [if_pos e] at h ⊢
      rw [adv_app h, List.length_cons]
      congr 1
      omega
    · rw [if_neg e] at h
      cases congrArg Prod.fst h
theorem adv_at {T : List Tab} : ∀ {l : List Ch} {R R1 : Rs} {i : Nat} (j : Nat), advF T l R i = (none, R1) → advF T l R j = (none, R1)
  | [], R, R1, i, j, h => h
  | c :: l, R, R1, i, j, h => by
    have h : (if okCh T R c = true then advF T l (stepCh R c) (i + 1) else (some i, R)) = (none, R1) := h
    show (if okCh T R c = true then advF T l (stepCh R c) (j + 1) else (some j, R)) = _
    by_cases e : okCh T R c = true
    · rw [if_pos e] at h ⊢
      exact adv_at (j + 1) h
    · rw [if_neg e] at h
      cases congrArg Prod.fst h
/-- a part of a batch, and the rest -/
theorem adv_cut {T : List Tab} {l : List Ch} {R R1 : Rs} (h : advF T l R 0 = (none, R1)) (k : Nat) : ∃ Rk, advF T (l.take k) R 0 = (none, Rk) ∧ advF T (l.drop k) Rk 0 = (none, R1) := by
  have gen : ∀ (l1 l2 : List Ch) (R : Rs) (i : Nat), advF T (l1 ++ l2) R i = (none, R1) → ∃ Rk, advF T l1 R i = (none, Rk) ∧ advF T l2 Rk 0 = (none, R1) := by
    intro l1
    induction l1 with
    | nil => intro l2 R i h; exact ⟨R, rfl, adv_at 0 h⟩
    | cons c l1 ih =>
      intro l2 R i h
      have h : (if okCh T R c = true then advF T (l1 ++ l2) (stepCh R c) (i + 1) else (some i, R)) = (none, R1) := h
      by_cases e : okCh T R c = true
      · rw [if_pos e] at h
        obtain ⟨Rk, h1, h2⟩ := ih l2 _ _ h
        refine ⟨Rk, ?_, h2⟩
        show (if okCh T R c = true then advF T l1 (stepCh R c) (i + 1) else (some i, R)) = _
        rw [if_pos e]; exact h1
      · rw [if_neg e] at h
        cases congrArg Prod.fst h
  rw [← List.take_append_drop k l] at h
  exact gen _ _ _ _ h
def opp : Ch → Ch
  | .ins n r => .del n r
  | .del n r => .ins n r
  | .set n o r => .set n r o
theorem opp_ok {T : List Tab} {c : Ch} (h : chOk T c) : chOk T (opp c) := by
  obtain ⟨cols, h0, ho, hn, hk⟩ := h
  cases c with
  | ins n r => exact chOk_del h0 (hn r rfl)
  | del n r => exact chOk_ins h0 (ho r rfl)
  | set n o r => exact chOk_set h0 (hn r rfl) (ho o rfl) (hk o r rfl rfl).symm
theorem opp_tab (c : Ch) : (opp c).tab = c.tab := by cases c <;> rfl
theorem opp_old (c : Ch) : (opp c).old = c.new := by cases c <;> rfl
theorem opp_new (c : Ch) : (opp c).new = c.old := by cases c <;> rfl
theorem opp_key {T : List Tab} {c : Ch} (h : chOk T c) : keyOf (opp c).old (opp c).new = keyOf c.old c.new := by
  obtain ⟨cols, h0, ho, hn, hk⟩ := h
  cases c with
  | ins n r => rfl
  | del n r => rfl
  | set n o r => exact (hk o r rfl rfl).symm
theorem there {T : List Tab} {R : Rs} {c : Ch} (ok : okCh T R c = true) : getR R c.tab (keyOf c.old c.new) = c.old := by
  unfold okCh allowsB at ok
  rw [Bool.and_eq_true] at ok
  exact of_decide_eq_true ok.1
/-- what stands under each key behind a change -/
theorem get_step {T : List Tab} {R : Rs} {c : Ch} (hT : (T.map (·.1)).Nodup) (hR : rowsOk T R) (hc : chOk T c) (t : Str) (k : Int) : getR (stepCh R c) t k = if t = c.tab ∧ k = keyOf c.old c.new then c.new else getR R t k := by
  rw [getR_step (some_look hT hR hc)]
  obtain ⟨cols, h0, ho, hn, hk⟩ := hc
  cases c with
  | ins n r => rfl
  | del n r => rfl
  | set n o r =>
    have e : o.headD 0 = r.headD 0 := hk o r rfl rfl
    show (if t = n ∧ k = r.headD 0 then some r else getR R t k) = if t = n ∧ k = o.headD 0 then some r else getR R t k
    rw [e]
/-- nothing refers to a row that is not there -/
theorem no_led {T : List Tab} {R : Rs} {n : Str} {k : Int} (hT : schOk T) (hR : rowsOk T R) (rf : refsIn T R) (h : getR R n k = none) : isLed T R n k = false := by
  cases z : isLed T R n k with
  | false => rfl
  | true =>
    rw [← isRefL_led] at z
    unfold isRefL at z
    obtain ⟨tab, htab, z⟩ := List.any_eq_true.mp z
    obtain ⟨p, hp, z⟩ := List.any_eq_true.mp z
    unfold refB at z
    obtain ⟨q, hq, z⟩ := List.any_eq_true.mp z
    rw [Bool.and_eq_true] at z
    have z1 : q.1.2 = some n := of_decide_eq_true z.1
    have z2 : p.2.getD (q.2 + 1) 0 = k := of_decide_eq_true z.2
    cases hl : R.lookup tab.1 with
    | none => rw [hl] at hp; cases hp
    | some l =>
      rw [hl] at hp
      have hh := rf (tab.1, l) (mem_lookT hl) tab.2 (lookup_nodup hT.2 htab) p hp
      rw [hasT_okA, List.all_eq_true] at hh
      have h1 := hh q hq
      obtain ⟨⟨nm, t⟩, j⟩ := q
      have z1 : t = some n := z1
      subst z1
      rw [okA_getR] at h1
      have z2 : p.2.getD (j + 1) 0 = k := z2
      rw [z2, h] at h1
      cases h1
/-- no column leads to its own table -/
theorem early_not {T : List Tab} {n : Str} {cols : List Col} {cl : Col} (hT : schOk T) (hE : tgtsEarly T) (h : T.lookup n = some cols) (hc : cl ∈ cols) (e : cl.2 = some n) : False := by
  obtain ⟨i, hi, ei⟩ := List.getElem_of_mem (mem_lookup h)
  have hti : T[i]? = some (n, cols) := by rw [List.getElem?_eq_getElem hi, ei]
  have := hE i (n, cols) hti cl hc n e
  obtain ⟨t, ht, et⟩ := List.mem_map.mp this
  obtain ⟨j, hj, ej⟩ := List.getElem_of_mem ht
  rw [List.length_take] at hj
  rw [List.getElem_take] at ej
  have hnd := hT.2
  have hji : j < i := by omega
  have a1 : (T.map (·.1))[j]'(by rw [List.length_map]; omega) = n := by rw [List.getElem_map, ej]; exact et
  have a2 : (T.map (·.1))[i]'(by rw [List.length_map]; exact hi) = n := by rw [List.getElem_map, ei]
  exact List.pairwise_iff_getElem.mp hnd j i (by rw [List.length_map]; omega) (by rw [List.length_map]; exact hi) hji (a1.trans a2.symm)
/-- a change that is allowed can be taken back -/
theorem opp_back {T : List Tab} {R : Rs} {m : Nat} {c : Ch} (hT : schOk T) (hE : tgtsEarly T) (g : Gd T R m) (hm : m + 1 ≤ 1000) (hc : chOk T c) (ok : okCh T R c = true) : okCh T (stepCh R c) (opp c) = true ∧ sim (stepCh (stepCh R c) (opp c)) R := by
  have g1 := g.step hm hT hc ok
  have hco := opp_ok hc
  have hth := there ok
  have back : sim (stepCh (stepCh R c) (opp c)) R := fun t k => by
    rw [get_step hT.2 g1.ok hco, get_step hT.2 g.ok hc, opp_tab, opp_key hc, opp_new]
    by_cases z : t = c.tab ∧ k = keyOf c.old c.new
    · rw [if_pos z, z.1, z.2, hth]
    · rw [if_neg z, if_neg z]
  refine ⟨?_, back⟩
  obtain ⟨cols, h0, ho, hn, hk⟩ := id hc
  have h1 : getR (stepCh R c) (opp c).tab (keyOf (opp c).old (opp c).new) = (opp c).old := by
    rw [get_step hT.2 g.ok hc, opp_tab, opp_key hc, if_pos ⟨rfl, rfl⟩, opp_old]
  unfold okCh allowsB
  rw [decide_eq_true h1, Bool.true_and, opp_tab, h0, Option.getD_some, opp_new]
  have up : ∀ {row : Row}, row.length = cols.length + 1 → hasT (stepCh R c) cols row = true → tailB T (stepCh R c) c.tab cols (keyOf (opp c).old c.old) (some row) = true := fun {row} hl hh => by
    rw [hasT_led hl] at hh
    exact hh
  have row_in : ∀ {o : Row}, c.old = some o → hasT R cols o = true := fun {o} he => by
    have h2 : getR R c.tab (keyOf c.old c.new) = some o := by rw [hth, he]
    obtain ⟨l, hl1, hl2⟩ := (getR_mem g.ok hT.2).mp h2
    exact g.rf (c.tab, l) hl1 cols h0 _ hl2
  cases c with
  | ins n r =>
    show (!isLed T (stepCh R (.ins n r)) n (r.headD 0)) = true
    have h2 : getR R n (r.headD 0) = none := hth
    have : isLed T (stepCh R (.ins n r)) n (r.headD 0) = false := by
      cases z : isLed T (stepCh R (.ins n r)) n (r.headD 0) with
      | false => rfl
      | true =>
        rw [← isRefL_led] at z
        unfold isRefL at z
        obtain ⟨tab, htab, z⟩ := List.any_eq_true.mp z
        obtain ⟨p, hp, z⟩ := List.any_eq_true.mp z
        unfold refB at z
        obtain ⟨⟨⟨nm, t⟩, j⟩, hq, z⟩ := List.any_eq_true.mp z
        rw [Bool.and_eq_true] at z
        have z1 : t = some n := of_decide_eq_true z.1
        have z2 : p.2.getD (j + 1) 0 = r.headD 0 := of_decide_eq_true z.2
        subst z1
        have hcm : (nm, some n) ∈ tab.2 := by
          have := List.mem_zipIdx hq
          simp only [Nat.zero_add, Nat.sub_zero] at this
          rw [this.2.2]; exact List.getElem_mem _
        cases hl : (stepCh R (.ins n r)).lookup tab.1 with
        | none => rw [hl] at hp; cases hp
        | some l =>
          rw [hl] at hp
          have h3 := (getR_mem g1.ok hT.2 (n := tab.1) (k := p.1) (r := p.2)).mpr ⟨l, mem_lookT hl, hp⟩
          rw [get_step hT.2 g.ok hc] at h3
          by_cases y : tab.1 = (Ch.ins n r).tab ∧ p.1 = keyOf (Ch.ins n r).old (Ch.ins n r).new
          · exact (early_not hT hE (n := tab.1) (lookup_nodup hT.2 htab) hcm (by rw [y.1]; rfl)).elim
          · rw [if_neg y] at h3
            obtain ⟨l', h4, h5⟩ := (getR_mem g.ok hT.2).mp h3
            have hh := g.rf (tab.1, l') h4 tab.2 (lookup_nodup hT.2 htab) (p.1, p.2) h5
            rw [hasT_okA, List.all_eq_true] at hh
            have h6 := hh _ hq
            rw [okA_getR] at h6
            rw [show (p.1, p.2).2.getD (j + 1) 0 = r.headD 0 from z2, h2] at h6
            cases h6
    rw [this]; rfl
  | del n r =>
    refine up (ho r rfl) (hasT_mono (fun t k ht hs _ => ?_) (row_in rfl))
    rw [get_step hT.2 g.ok hc]
    rw [if_neg]
    · exact hs
    · rintro ⟨y, _⟩
      obtain ⟨cl, hcl, e⟩ := ht
      exact early_not hT hE h0 hcl (by rw [e, y])
  | set n o r =>
    refine up (ho o rfl) (hasT_mono (fun t k ht hs _ => ?_) (row_in rfl))
    rw [get_step hT.2 g.ok hc]
    by_cases y : t = (Ch.set n o r).tab ∧ k = keyOf (Ch.set n o r).old (Ch.set n o r).new
    · rw [if_pos y]; rfl
    · rw [if_neg y]; exact hs
/-- an allowed batch is taken back by the opposite changes in the opposite order -/
theorem back_adv {T : List Tab} (hT : schOk T) (hE : tgtsEarly T) : ∀ {chs : List Ch} {R R1 : Rs} {m i : Nat}, Gd T R m → m + 2 * chs.length ≤ 1000 → (∀ c ∈ chs, chOk T c) → advF T chs R i = (none, R1) → ∀ {A : Rs}, Gd T A (m + chs.length) → sim A R1 →
    ∃ A2, advF T (chs.reverse.map opp) A 0 = (none, A2) ∧ sim A2 R ∧ Gd T A2 (m + 2 * chs.length)
  | [], R, R1, m, i, g, hm, hc, h, A, gA, s => by
    have e : R = R1 := congrArg Prod.snd h
    subst e
    exact ⟨A, rfl, s, gA⟩
  | c :: cs, R, R1, m, i, g, hm, hc, h, A, gA, s => by
    rw [List.length_cons] at hm gA
    have h : (if okCh T R c = true then advF T cs (stepCh R c) (i + 1) else (some i, R)) = (none, R1) := h
    by_cases e : okCh T R c = true
    · rw [if_pos e] at h
      have hc0 := hc c List.mem_cons_self
      have g1 := g.step (by omega) hT hc0 e
      obtain ⟨A2, h1, h2, h3⟩ := back_adv hT hE (m := m + 1) g1 (by omega) (fun x hx => hc x (List.mem_cons_of_mem _ hx)) h (gA.mono (by omega)) s
      obtain ⟨o1, o2⟩ := opp_back hT hE g (by omega) hc0 e
      have o3 : okCh T A2 (opp c) = true := by rw [h2.ok hT.2 h3.ok g1.ok]; exact o1
      refine ⟨stepCh A2 (opp c), ?_, (h2.step hT.2 h3.ok g1.ok (opp_ok hc0)).trans o2, (h3.step (by omega) hT (opp_ok hc0) o3).mono (by rw [List.length_cons]; omega)⟩
      rw [List.reverse_cons, List.map_append, adv_app h1]
      show (if okCh T A2 (opp c) = true then _ else _) = _
      rw [if_pos o3]
      rfl
    · rw [if_neg e] at h
      cases congrArg Prod.fst h
end SP
/-! NB: the net effect of a batch and its opposite. -/
namespace SP
open PySem L2 DV PM LK NV
/-- what is told of each key: what stood there first, what stands there now -/
def Told (R0 R : Rs) (S : Ns) : Prop := (∀ q ∈ S, q.2.1 = getR R0 q.1.1 q.1.2 ∧ q.2.2 = getR R q.1.1 q.1.2) ∧ ∀ k : Str × Int, k ∉ S.map (·.1) → getR R k.1 k.2 = getR R0 k.1 k.2
theorem look_mem {S : Ns} {k : Str × Int} {p : Option Row × Option Row} (h : S.lookup k = some p) : (k, p) ∈ S := by
  induction S with
  | nil => cases h
  | cons t S ih =>
    obtain ⟨a, b⟩ := t
    by_cases e : k = a
    · subst e
      have : b = p := by simpa [List.lookup] using h
      subst this
      exact List.mem_cons_self
    · have e' : (k == a) = false := by simpa using e
      simp only [List.lookup, e'] at h
      exact List.mem_cons_of_mem _ (ih h)
theorem look_not {S : Ns} {k : Str × Int} (h : S.lookup k = none) : k ∉ S.map (·.1) := by
  induction S with
  | nil => simp
  | cons t S ih =>
    obtain ⟨a, b⟩ := t
    by_cases e : k = a
    · subst e; simp [List.lookup] at h
    · have e' : (k == a) = false := by simpa using e
      simp only [List.lookup, e'] at h
      rw [List.map_cons]
      intro z
      rcases List.mem_cons.mp z with z | z
      · exact e z
      · exact ih h z
theorem putN_mem {S : Ns} {k : Str × Int} {p : Option Row × Option Row} {q : (Str × Int) × (Option Row × Option Row)} (h : q ∈ putN S k p) : (q ∈ S ∧ q.1 ≠ k) ∨ q = (k, p) := by
  unfold putN at h
  split at h
  · obtain ⟨x, hx, rfl⟩ := List.mem_map.mp h
    by_cases e : x.1 = k
    · rw [if_pos e]; exact .inr rfl
    · rw [if_neg e]; exact .inl ⟨hx, e⟩
  · rename_i hn
    rcases List.mem_append.mp h with h | h
    · exact .inl ⟨h, fun e => hn (List.any_eq_true.mpr ⟨q, h, decide_eq_true e⟩)⟩
    · exact .inr (List.mem_singleton.mp h)
theorem putN_key {S : Ns} {k k' : Str × Int} {p : Option Row × Option Row} (h : k' ∉ (putN S k p).map (·.1)) : k' ∉ S.map (·.1) ∧ k' ≠ k := by
  unfold putN at h
  split at h
  · rename_i hy
    have e : (S.map fun q => if q.1 = k then (k, p) else q).map (·.1) = S.map (·.1) := by
      rw [List.map_map]
      apply List.map_congr_left
      intro q _
      show (if q.1 = k then (k, p) else q).1 = q.1
      split
      · rename_i e; exact e.symm
      · rfl
    rw [e] at h
    obtain ⟨q, hq, e2⟩ := List.any_eq_true.mp hy
    exact ⟨h, fun z => h (List.mem_map.mpr ⟨q, hq, by rw [z]; exact of_decide_eq_true e2⟩)⟩
  · rw [List.map_append] at h
    exact ⟨fun z => h (List.mem_append_left _ z), fun z => h (List.mem_append_right _ (by simp [z]))⟩
theorem Told.step {T : List Tab} {R0 R : Rs} {S : Ns} {c : Ch} (hT : (T.map (·.1)).Nodup) (hR : rowsOk T R) (hc : chOk T c) (ok : okCh T R c = true) (h : Told R0 R S) : Told R0 (stepCh R c) (stepN S c) := by
  obtain ⟨h1, h2⟩ := h
  have hg : ∀ k : Str × Int, k ≠ keyC c → getR (stepCh R c) k.1 k.2 = getR R k.1 k.2 := fun k hk => by
    rw [get_step hT hR hc, if_neg]
    rintro ⟨a, b⟩
    exact hk (Prod.ext a b)
  have hc1 : getR (stepCh R c) (keyC c).1 (keyC c).2 = c.new := by
    rw [get_step hT hR hc]
    exact if_pos ⟨rfl, rfl⟩
  refine ⟨fun q hq => ?_, fun k hk => ?_⟩
  · rcases putN_mem hq with ⟨hq, hne⟩ | rfl
    · obtain ⟨a, b⟩ := h1 q hq
      exact ⟨a, by rw [hg _ hne]; exact b⟩
    · refine ⟨?_, hc1.symm⟩
      show firstN S c = getR R0 (keyC c).1 (keyC c).2
      unfold firstN
      cases e : S.lookup (keyC c) with
      | some p => exact (h1 _ (look_mem e)).1
      | none =>
        rw [← h2 _ (look_not e)]
        exact (there ok).symm
  · obtain ⟨a, b⟩ := putN_key hk
    rw [hg _ b]
    exact h2 k a
theorem Told.all {T : List Tab} {R0 : Rs} (hT : schOk T) : ∀ {chs : List Ch} {R R1 : Rs} {S : Ns} {i : Nat}, rowsOk T R → room chs.length R → (∀ c ∈ chs, chOk T c) → advF T chs R i = (none, R1) → Told R0 R S → Told R0 R1 (chs.foldl stepN S)
  | [], R, R1, S, i, _, _, _, h, t => by
    have e : R = R1 := congrArg Prod.snd h
    subst e
    exact t
  | c :: cs, R, R1, S, i, hR, hr, hc, h, t => by
    have h : (if okCh T R c = true then advF T cs (stepCh R c) (i + 1) else (some i, R)) = (none, R1) := h
    by_cases e : okCh T R c = true
    · rw [if_pos e] at h
      have h0 := hc c List.mem_cons_self
      have a := step_ok (k := cs.length) hR h0 hr
      exact Told.all hT (chs := cs) a.1 a.2 (fun x hx => hc x (List.mem_cons_of_mem _ hx)) h (t.step hT.2 hR h0 e)
    · rw [if_neg e] at h
      cases congrArg Prod.fst h
/-- a batch that leads back has no net effect -/
theorem net_none {T : List Tab} {R A : Rs} {chs : List Ch} (hT : schOk T) (hR : rowsOk T R) (hr : room chs.length R) (hc : ∀ c ∈ chs, chOk T c) (h : advF T chs R 0 = (none, A)) (s : sim A R) : netN chs = [] := by
  have t := Told.all (R0 := R) hT hR hr hc h (S := []) ⟨fun q hq => (by cases hq), fun _ _ => rfl⟩
  unfold netN
  rw [List.filter_eq_nil_iff]
  intro q hq
  obtain ⟨a, b⟩ := t.1 q hq
  rw [s] at b
  rw [a, b]
  simp
end SP
/-! NQ: dicts of net effects that hold the same; what differs between the rows ahead and behind; list(d). -/
namespace SP
open PySem L2 DV PM LK NV
variable {K : PySem.W.Frag}
theorem nodup_sub {α : Type} [DecidableEq α] : ∀ {l m : List α}, l.Nodup → (∀ x ∈ l, x ∈ m) → l.length ≤ m.length
  | [], _, _, _ => Nat.zero_le _
  | a :: l, m, h, s => by
    rw [List.nodup_cons] at h
    have hm : a ∈ m := s a List.mem_cons_self
    have h1 := nodup_sub (m := m.erase a) h.2 fun x hx => by
      have ne : x ≠ a := fun z => h.1 (z ▸ hx)
      exact (List.mem_erase_of_ne ne).mpr (s x (List.mem_cons_of_mem _ hx))
    rw [List.length_erase_of_mem hm] at h1
    have h2 := List.length_pos_of_mem hm
    rw [List.length_cons]
    omega
theorem sh_pair (p : Option Row × Option Row) (n : Nat) : D.sh (n + 2) (pairD p) = true := by
  refine D.shA_all (n := n + 1) fun d hd => ?_
  have one : ∀ r : Option Row, D.sh (n + 1) (optD r) = true := fun r => by
    cases r with
    | none => rfl
    | some r => exact D.shA_all fun d hd => by obtain ⟨i, _, rfl⟩ := List.mem_map.mp hd; cases n <;> rfl
  simp only [List.mem_cons, List.not_mem_nil, or_false] at hd
  rcases hd with rfl | rfl
  · exact one _
  · exact one _
theorem nb_pair (p : Option Row × Option Row) : D.nb (pairD p) = true := by
  have one : ∀ r : Option Row, D.nb (optD r) = true := fun r => by
    cases r with
    | none => rfl
    | some r => exact D.nbA_all fun d hd => by obtain ⟨i, _, rfl⟩ := List.mem_map.mp hd; rfl
  simp [pairD, D.nb, D.nbA, one]
theorem RT.mem {B : Hp} {kvs : List (List Key × V)} {S : Ns} {k : List Key} {v : V} (r : RT K B kvs S) (h : (k, v) ∈ kvs) : ∃ q, q ∈ S ∧ k = keyL q.1 ∧ Rp K B v (pairD q.2) := by
  obtain ⟨i, hi⟩ := List.mem_iff_getElem?.mp h
  obtain ⟨q, h1, h2, h3⟩ := r.get hi
  exact ⟨q, List.mem_of_getElem? h1, h2, h3⟩
/-- the two lists tell the same -/
structure SameN (S1 S2 : Ns) : Prop where
  n1 : (S1.map (·.1)).Nodup
  n2 : (S2.map (·.1)).Nodup
  s12 : ∀ q ∈ S1, q ∈ S2
  s21 : ∀ q ∈ S2, q ∈ S1
theorem SameN.refl {S : Ns} (h : (S.map (·.1)).Nodup) : SameN S S := ⟨h, h, fun _ h => h, fun _ h => h⟩
theorem SameN.val {S1 S2 : Ns} (h : SameN S1 S2) {q p : (Str × Int) × (Option Row × Option Row)} (hq : q ∈ S1) (hp : p ∈ S2) (e : q.1 = p.1) : q.2 = p.2 := by
  have a := look_nd h.n2 (h.s12 q hq)
  have b := look_nd h.n2 hp
  rw [e, b] at a
  exact (Option.some.inj a).symm
theorem SameN.len {S1 S2 : Ns} (h : SameN S1 S2) : S1.length = S2.length := by
  have a := nodup_sub h.n1 (m := S2.map (·.1)) fun x hx => by
    obtain ⟨q, hq, rfl⟩ := List.mem_map.mp hx
    exact List.mem_map.mpr ⟨q, h.s12 q hq, rfl⟩
  have b := nodup_sub h.n2 (m := S1.map (·.1)) fun x hx => by
    obtain ⟨q, hq, rfl⟩ := List.mem_map.mp hx
    exact List.mem_map.mpr ⟨q, h.s21 q hq, rfl⟩
  rw [List.length_map, List.length_map] at a b
  omega
theorem rt_ents {B H : Hp} {ks ls : List (List Key × V)} {S1 S2 : Ns} (e : Ex B H) (r1 : RT K B ks S1) (r2 : RT K B ls S2) (h : SameN S1 S2) : QT.Ents K H ks ls (fun _ => true) := by
  intro k v u hv hu
  obtain ⟨q, q1, q2, q3⟩ := r1.mem hv
  obtain ⟨p, p1, p2, p3⟩ := r2.mem hu
  have e1 : q.1 = p.1 := keyL_inj.mp (q2.symm.trans p2)
  have e2 := h.val q1 p1 e1
  rw [← e2] at p3
  refine ⟨(pairD q.2).py, (pairD q.2).py, q3.dp e (D.sh_pl 2 _ (sh_pair _ 0)), p3.dp e (D.sh_pl 2 _ (sh_pair _ 0)), D.shaped (n := 2) (sh_pair _ 0), D.shaped (n := 2) (sh_pair _ 0), ?_⟩
  exact ((D.eqv_iff _ _ (nb_pair _) (nb_pair _)).mpr rfl).symm
theorem rt_same {B : Hp} {ks ls : List (List Key × V)} {S1 S2 : Ns} (r1 : RT K B ks S1) (r2 : RT K B ls S2) (h : SameN S1 S2) : QT.sameB ks ls (fun _ => true) = true := by
  unfold QT.sameB
  rw [Bool.and_eq_true]
  refine ⟨by rw [r1.len, r2.len, h.len]; exact beq_self_eq_true _, List.all_eq_true.mpr fun kv hkv => ?_⟩
  obtain ⟨k, v⟩ := kv
  obtain ⟨q, q1, q2, q3⟩ := r1.mem hkv
  have hv := r2.val (k := q.1)
  rw [look_nd h.n2 (h.s12 q q1)] at hv
  obtain ⟨w, hw, _⟩ := hv
  show ((valV ls k).isSome && true) = true
  rw [q2, hw]
  rfl
/-- d1 != d2 of two that tell the same -/
theorem ne_same {B H : Hp} {a b : Addr} {ks ls : List (List Key × V)} {S1 S2 : Ns} {Q : VK} (e : Ex B H) (h1 : H a = some (.dT ks)) (h2 : H b = some (.dT ls)) (r1 : RT K B ks S1) (r2 : RT K B ls S2) (h : SameN S1 S2) (q : Q (.bl false) H) : QT.rNeT K (.ref a) (.ref b) H Q :=
  ⟨a, b, ks, ls, _, rfl, rfl, .inl h1, .inl h2, rt_ents e r1 r2 h, by rw [rt_same r1 r2 h]; exact q⟩
/-! list(d) -/
def rListDD (K : PySem.W.Frag) : List V → Hp → VK → Prop := fun xs H Q => ∃ (a : Addr) (kvs : List (Key × V)), xs = [.ref a] ∧ Rd H a (.dK kvs) ∧ ∀ p, H p = none → Q (.ref p) (upd H p (.lst (kvs.map fun kv => kV kv.1)))
theorem call_listD1 {X : Cx} (hc : X.calm = true) : CallR X (.type "list") (rListDD X.K) := call_listD hc
theorem cb_listD {l : List (Int × Row)} : CbD K (rListDD K) [.dat (inD l)] (.dat (.lst ((l.map (·.1)).map D.int))) := fun B H vs e h Q q => by
  obtain ⟨v, rfl, h1⟩ := rs1 h
  obtain ⟨a, kvi, rfl, ha, rk⟩ := in_open (show Rp K B v (inD l) from h1)
  refine ⟨a, kvi, rfl, .inl (e _ _ ha), fun p hp => ?_⟩
  have ek : (kvi.map fun kv => kV kv.1) = (l.map (·.1)).map V.int := by
    have gen : ∀ {kvi : List (Key × V)} {ks : List (Key × D)}, RpK K B kvi ks → kvi.map (·.1) = ks.map (·.1) := fun {kvi ks} r => by
      induction kvi generalizing ks with
      | nil => cases r; rfl
      | cons x xs ih =>
        cases r with
        | cons _ r => rw [List.map_cons, List.map_cons, ih r]
    have g := gen rk
    have g2 : (kvi.map fun kv => kV kv.1) = (kvi.map (·.1)).map kV := by rw [List.map_map]; rfl
    rw [g2, g]
    unfold inKs
    rw [List.map_map, List.map_map, List.map_map]
    rfl
  rw [ek]
  have s1 := stp_new (o := .lst ((l.map (·.1)).map V.int)) e hp
  exact q _ _ _ s1 e.updB (.lst upd_same .ofInts)
/-! what differs -/
def pairR (R R' : Rs) (k : Str × Int) : Option Row × Option Row := (getR R k.1 k.2, getR R' k.1 k.2)
/-- the pairs that were put are right, each once -/
structure DifOk (R R' : Rs) (S : Ns) : Prop where
  nd : (S.map (·.1)).Nodup
  ok : ∀ q ∈ S, q.2 = pairR R R' q.1 ∧ q.2.1 ≠ q.2.2
theorem DifOk.nil {R R' : Rs} : DifOk R R' [] := ⟨List.nodup_nil, fun _ h => by cases h⟩
theorem DifOk.put {R R' : Rs} {S : Ns} {k : Str × Int} (h : DifOk R R' S) (hk : (pairR R R' k).1 ≠ (pairR R R' k).2) : DifOk R R' (putN S k (pairR R R' k)) := by
  refine ⟨putN_keys h.nd, fun q hq => ?_⟩
  rcases putN_mem hq with ⟨hq, _⟩ | rfl
  · exact h.ok q hq
  · exact ⟨rfl, hk⟩
theorem putN_has {S : Ns} {k k' : Str × Int} {p : Option Row × Option Row} (h : k' ∈ S.map (·.1) ∨ k' = k) : k' ∈ (putN S k p).map (·.1) := by
  refine Decidable.byContradiction fun z => ?_
  obtain ⟨a, b⟩ := putN_key z
  exact h.elim a b
/-- the net effect is what differs -/
theorem net_dif {T : List Tab} {R R' : Rs} {chs : List Ch} {S : Ns} (hT : schOk T) (hR : rowsOk T R) (hr : room chs.length R) (hc : ∀ c ∈ chs, chOk T c) (h : advF T chs R 0 = (none, R')) (d : DifOk R R' S) (all : ∀ k : Str × Int, (pairR R R' k).1 ≠ (pairR R R' k).2 → k ∈ S.map (·.1)) : SameN (netN chs) S := by
  have t := Told.all (R0 := R) hT hR hr hc h (S := []) ⟨fun q hq => (by cases hq), fun _ _ => rfl⟩
  have t : Told R R' (toldN chs) := t
  have nd : ((netN chs).map (·.1)).Nodup := (told_nd chs).sublist (List.Sublist.map _ List.filter_sublist)
  have right : ∀ q ∈ netN chs, q.2 = pairR R R' q.1 ∧ q.2.1 ≠ q.2.2 := fun q hq => by
    obtain ⟨h1, h2⟩ := List.mem_filter.mp hq
    obtain ⟨a, b⟩ := t.1 q h1
    exact ⟨Prod.ext a b, by simpa using h2⟩
  refine ⟨nd, d.nd, fun q hq => ?_, fun q hq => ?_⟩
  · obtain ⟨a, b⟩ := right q hq
    obtain ⟨p, hp, e⟩ := List.mem_map.mp (all q.1 (by rw [← a]; exact b))
    have : p = q := Prod.ext e (by rw [(d.ok p hp).1, a, e])
    exact this ▸ hp
  · obtain ⟨a, b⟩ := d.ok q hq
    have hk : q.1 ∈ (toldN chs).map (·.1) := Decidable.byContradiction fun z => by
      have := t.2 q.1 z
      rw [a] at b
      exact b this.symm
    obtain ⟨p, hp, e⟩ := List.mem_map.mp hk
    obtain ⟨c1, c2⟩ := t.1 p hp
    have : p = q := Prod.ext e (by rw [a, ← e]; exact Prod.ext c1 c2)
    subst this
    exact List.mem_filter.mpr ⟨hp, by simpa using b⟩
/-- where a row differs, its id stands in one of the two -/
theorem dif_key {R R' : Rs} {n : Str} {k : Int} {l l' : List (Int × Row)} (h : R.lookup n = some l) (h' : R'.lookup n = some l') (hk : getR R n k ≠ getR R' n k) : k ∈ l.map (·.1) ++ l'.map (·.1) := by
  have none' : ∀ {l : List (Int × Row)}, k ∉ l.map (·.1) → l.lookup k = none := fun {l} h => by
    cases e : l.lookup k with
    | none => rfl
    | some r => exact absurd (List.mem_map.mpr ⟨_, mem_lookup2 e, rfl⟩) h
  refine Decidable.byContradiction fun z => hk ?_
  rw [List.mem_append, not_or] at z
  unfold getR
  rw [h, h', Option.getD_some, Option.getD_some, none' z.1, none' z.2]
end SP
/-! MK0: make, of a batch that is allowed. -/
namespace SP
open PySem L2 DV PM LK NV QD
variable {K : PySem.W.Frag}
def spMake0 (K : PySem.W.Frag) (CB C : Addr) : Sp := fun vs H Q _ => ∃ B s dx0 v0 vt T R chs vch R', vs = [.ref s, vch] ∧ Ex B H ∧ BObj K B H s dx0 CB C v0 vt T R ∧ Rp K B vch (.lst (List.map encCh chs)) ∧ schOk T ∧ refsOk T ∧ rowsOk T R ∧ (∀ c ∈ chs, chOk T c) ∧ room chs.length R ∧ (pairsOf R).length ≤ 900 ∧ advF T chs R 0 = (none, R') ∧
  ∀ vt' B' H', Stp [s] B H B' H' → Ex B' H' → BObj K B' H' s dx0 CB C v0 vt' T R' → Q .non H'
end SP
namespace T3
open PySem L2 DV PM SP LK NV
section
variable {P : Program} {w : World} {K : PySem.W.Frag} {mg : Str → Option Value} {base : Heap} {C CB : Addr}
theorem ok_bmake0 {f fF fA : Addr} {fd fdF fdA : FuncData} (F : Fun K "make" "Base.make" s_Base_make f fd) (c : BaseCls K CB) (cls_B : Cls K CB) (M_fork : Meth K CB "fork" fF) (G_fork : FnOk P w K mg base CX0 3 fF fdF ["self"] (spFork K CB C)) (B_fork : Binds K fdF ["self"] [])
    (M__advance : Meth K CB "_advance" fA) (G__advance : FnOk P w K mg base CX0 4 fA fdA ["self", "changes"] (spAdv K CB C)) (B__advance : Binds K fdA ["self", "changes"] []) : FnOk P w K mg base CX0 5 f fd ["self", "changes"] (spMake0 K CB C) := by
  refine F.ok sc_Base_make (fun vs H Q E h => ?_) (fun cdv A outer s H vs Q E hr h => ?_)
  · obtain ⟨B, s, dx0, v0, vt, T, R, chs, vch, R', rfl, _⟩ := h
    rfl
  have nd := sc_Base_make.nd
  refine ⟨_, (pss_cons (ps_set (i := 2) nd rfl (.inl rfl) (pe_meth0 (pv 0) cls_B M_fork G_fork (hr.mono (by decide)) B_fork .nil pass0))
      (pss_cons (ps_set (i := 3) nd rfl (.inl rfl) (pe_meth (pv 2) cls_B M__advance G__advance (hr.mono (by decide)) B__advance .nil pass0 (pa_cons (pv 1) pa_nil)))
      (pss_cons (ps_if (pt_cmpR op_notN' (pv 3) pe_non (nomark _)) (pss_one ps_never) pss_nil)
      (pss_one (ps_fld (pv 0) (pe_fld (pv 2) rfl) rfl))))), ?_⟩
  obtain ⟨B, s, dx0, v0, vt, T, R, chs, vch, R', rfl, e0, bo, rch, hT, hX, hR, hch, hrm, hz, hadv, qQ⟩ := h
  have h0 : (L2.start N_Base_make [V.ref s, vch])[0]? = some (some (.ref s)) := rfl
  have h1 : (L2.start N_Base_make [V.ref s, vch])[1]? = some (some vch) := rfl
  have hlen : (L2.start N_Base_make [V.ref s, vch]).length = 4 := rfl
  generalize L2.start N_Base_make [V.ref s, vch] = σ at h0 h1 hlen ⊢
  have nf : List.lookup ("fork" : Str) [(("schema" : Str), v0), ("_tables", vt)] = none := by
    have a1 : (("fork" : Str) == "schema") = false := by decide +kernel
    have a2 : (("fork" : Str) == "_tables") = false := by decide +kernel
    simp only [List.lookup, a1, a2]
  refine st_seq ⟨.ref s, h0, s, dx0, _, rfl, bo.obj, nf, B, s, dx0, v0, vt, T, R, rfl, e0, bo, hT, hR, hz, fun p dx t as B2 H2 s2 e2 ba fr => ?_⟩
  refine gname_go ?_
  dsimp only []
  have g0 : (σ.set 2 (some (.ref p)))[0]? = some (some (.ref s)) := by rw [List.getElem?_set, if_neg (by decide)]; exact h0
  have g1 : (σ.set 2 (some (.ref p)))[1]? = some (some vch) := by rw [List.getElem?_set, if_neg (by decide)]; exact h1
  have g2 : (σ.set 2 (some (.ref p)))[2]? = some (some (.ref p)) := by rw [List.getElem?_set, if_pos rfl, if_pos (by rw [hlen]; decide)]
  have gl : (σ.set 2 (some (.ref p))).length = 4 := by rw [List.length_set]; exact hlen
  generalize σ.set 2 (some (.ref p)) = σ1 at g0 g1 g2 gl
  have na : List.lookup ("_advance" : Str) [(("schema" : Str), v0), ("_tables", .ref t)] = none := by
    have a1 : (("_advance" : Str) == "schema") = false := by decide +kernel
    have a2 : (("_advance" : Str) == "_tables") = false := by decide +kernel
    simp only [List.lookup, a1, a2]
  refine st_seq ⟨.ref p, g2, p, dx, _, rfl, ba.obj, na, vch, g1, B2, p, dx, t, as, v0, T, R, chs, vch, rfl, e2, ba, rch.mono s2.ex, hT, hX, hR, hch, hrm, fun v B3 H3 s3 e3 ba3 rv => ?_⟩
  refine gname_go ?_
  dsimp only []
  have s03 : Stp [] B H B3 H3 := stp_fresh s2 s3 fun a ha => fr a (List.mem_cons_of_mem _ (List.mem_cons_of_mem _ ha))
  have bo3 := bo.step s03 (by simp)
  have k0 : (σ1.set 3 (some v))[0]? = some (some (.ref s)) := by rw [List.getElem?_set, if_neg (by decide)]; exact g0
  have k2 : (σ1.set 3 (some v))[2]? = some (some (.ref p)) := by rw [List.getElem?_set, if_neg (by decide)]; exact g2
  have o3 : Okk K [] [.any, .any, .any, .dat (optN (advF T chs R 0).1)] [] B3 H3 (σ1.set 3 (some v)) := ⟨e3, ⟨by rw [List.length_set]; exact gl, fun i r hi hn => by
    match i, hi with
    | 0, hi => cases hi; exact absurd rfl hn
    | 1, hi => cases hi; exact absurd rfl hn
    | 2, hi => cases hi; exact absurd rfl hn
    | 3, hi => cases hi; exact ⟨v, by rw [List.getElem?_set, if_pos rfl, if_pos (by rw [gl]; decide)], rv⟩⟩, True.intro⟩
  generalize σ1.set 3 (some v) = σ2 at k0 k2 o3
  refine st_seq ((et_test (ev_op (ev_var (i := 3) rfl) ev_non od_notN) : EvT K [] _ [] _ _ []) B3 H3 σ2 o3 _ fun B4 H4 s4 o4 => ?_)
  have s04 := s03.trans s4
  rw [hadv] at o4
  · rw [if_neg (show ¬ (!D.isN (optN (advF T chs R 0).1)) = true by rw [hadv]; exact Bool.false_ne_true)]
    refine st_next ?_
    rw [hadv] at ba3
    have ba4 := ba3.step s4 (fun a _ h => by cases h)
    have bo4 := bo3.step s4 (by simp)
    have nsp : s ≠ p := fun z => by
      have h := fr p List.mem_cons_self
      rw [← z, bo.obj] at h; cases h
    refine ⟨.ref p, k2, p, CB, dx, _, .ref t, rfl, ba4.obj, c.cl, c.n2, rfl, .ref s, k0, s, CB, dx0, _, rfl, bo4.obj, c.cl, c.n2, by simp, ?_⟩
    have hpf : putF "_tables" (.ref t) [("schema", v0), ("_tables", vt)] = ([("schema", v0), ("_tables", .ref t)] : List (Str × V)) := by
      have a1 : ¬ ("schema" : Str) = "_tables" := by decide +kernel
      simp only [putF, if_neg a1, if_pos]
    rw [hpf]
    obtain ⟨B5, s5, e5, eB5, bq⟩ := ba4.publ (PS := as) (B0 := B) (H0 := H) ((s2.mono (fun x hx => by cases hx) : Stp as B H B2 H2).trans (s3.trans s4.ofNil)) o4.ex (fun a ha => fr a (List.mem_cons_of_mem _ ha)) (fun q hq => hq)
    have hB5 : B5 s = none := by rw [s5.nb _ _ bo.obj]; exact bo.nop
    have hs4 : H4 s = some (.ins CB dx0 [("schema", v0), ("_tables", vt)]) := bo4.obj
    refine qQ (.ref t) B5 _ ((s5.ofNil : Stp [s] B H B5 H4).trans (stp_write hs4)) (fun b u e => ?_) ⟨upd_same, hB5, bq.sch, bq.tab⟩
    rw [upd_ne fun z => by rw [z, hB5] at e; cases e]
    exact e5 b u e
end
end T3
/-! K1: the law's def, called by nobody: no repr is under way there. -/
namespace LG
open PySem PySem.Spec PyProof.Rows L2

/-- what the law's def promises, at the caller's place alone -/
def LawAt (P : Program) (w : World) (K : PySem.W.Frag) (mg : Str → Option Value) (base : Heap) (f : Addr) (fd : FuncData) (x : Str) (sp : Sp) : Prop :=
  ∀ (s : Shared) (H : Hp) (a : Addr) (Q : VK), Env0 P w K mg base callerA [] s H → BindsTo s fd ⟨[.ref a], []⟩ [(x, .ref a)] → sp [.ref a] H Q E0 →
    codeAny (model P w) callerA (.call (.ref f) ⟨[.ref a], []⟩) (CR CX0 [] P w H s Q E0) s

theorem LawAt.body {P : Program} {w : World} {K : PySem.W.Frag} {mg : Str → Option Value} {base : Heap} {k : Nat} {f : Addr} {x y qual : Str} {st : Stmt} {fd : FuncData} {N : List Str} {sp : Sp}
    (F : Fun K y qual st f fd) (S : FnScope N [x] (defScope st)) (room : Room (k + 1) callerA)
    (hb : ∀ (cdv : Value) (s : Shared) (H : Hp) (a : Addr) (Q : VK), Room k (callerA.deeper (envOfC qual (defScope st) s.heap.objs.size f cdv)) → (callerA.deeper (envOfC qual (defScope st) s.heap.objs.size f cdv)).guards = some [] → sp [.ref a] H Q E0 →
      ∃ t, PSs (cxOf CX0 P w K mg base N qual (defScope st) f cdv callerA [] s H E0).nox (defBody st) t ∧ t { nx := fun _ H' => Q .non H', rt := Q } (start N [.ref a]) H) :
    LawAt P w K mg base f fd x sp := by
  obtain ⟨oc, od, kV, doc, pm, an, cdv, ct, osl, rfl, lk, hcd⟩ := F.ex
  intro s H a Q env bind hsp
  have inK : K.In s.heap := env.mod.kin.keeps fun b o q => (env.bs b o q).1
  have one : ∀ z ∈ ([(x, Value.ref a)] : List (Str × Value)), (defScope st).names.lookup z.1 = some .local ∨ ((defScope st).names.lookup z.1 = some .cell ∧ ((cellsFrom (s.heap.objs.size + 1) (defScope st).names []).lookup z.1).isSome = true) := by
    intro z hz
    have e : z = (x, Value.ref a) := by simpa using hz
    rw [e]
    rcases S.par x (by simp) with q | q
    · exact Or.inl q
    · exact Or.inr ⟨q, PySem.W.cellsFrom_some _ _ _ (Or.inl q)⟩
  obtain ⟨t, good, reads⟩ := hb cdv s H a Q (room.deeper _) rfl hsp
  apply codeAny_call_function (Room.depth room) (inK _ _ lk) rfl S.co S.gen rfl (PySem.W.codeRec_of inK hcd)
  apply bind
  apply wpAny_newFunctionEnv_cells S.kind one
  intro env1 eenv s1 entered
  subst eenv
  refine ⟨(env.mod.nolimit.keeps fun b o q => (env.bs b o q).1).keeps entered.toInCall.keep, codeAny_func ?_⟩
  have inv := inv_start (CX := CX0) (N := N) (ps := [x]) (E := E0) (vs := [V.ref a]) (us := [Value.ref a]) S room.hd env rfl (.cons rfl .nil) entered
  have ran := (good.nox).run [] s1 (start N [.ref a]) H _ inv reads
  refine wpAny_mono ran ?_ ?_
  · intro flow s2 got
    match flow, got with
    | .ret u, ⟨v, _, H2, J, rel, q⟩ => exact ⟨v, H2, J.os, J.bare, J.base, J.hok, rel, q⟩
    | .next, ⟨_, H2, J, q⟩ => exact ⟨V.non, H2, J.os, J.bare, J.base, J.hok, rfl, q⟩
    | .brk, ⟨_, _, _, q⟩ => exact q.elim
    | .cont, ⟨_, _, _, q⟩ => exact q.elim
  · intro _ _ got
    exact got

/-- the script alone is known, as an object that stays -/
def scriptH (K : PySem.W.Frag) (a : Addr) (vs : List Value) (ns : List Int) : Hp := fun b =>
  if b = a ∧ (K.lookup a).isNone = true then some (.frz { cls := .type "list", data := .seq vs.toArray } (.lst (ns.map V.int))) else none
section
variable {K : PySem.W.Frag} {a b : Addr} {vs : List Value} {ns : List Int}
theorem scriptH_not (h : b ≠ a) : scriptH K a vs ns b = none := if_neg fun z => h z.1
theorem scriptH_is {u : HO} (h : scriptH K a vs ns b = some u) : b = a ∧ K.lookup a = none ∧ u = .frz { cls := .type "list", data := .seq vs.toArray } (.lst (ns.map V.int)) := by
  unfold scriptH at h
  split at h
  · rename_i c
    exact ⟨c.1, Option.isNone_iff_eq_none.mp c.2, (Option.some.inj h).symm⟩
  · cases h
theorem scriptH_only : Only (scriptH K a vs ns) := fun b => by
  cases e : scriptH K a vs ns b with
  | none => exact Or.inl rfl
  | some u => exact Or.inr ⟨_, _, congrArg some (scriptH_is e).2.2⟩
end

theorem top_runs {P : Program} {w : World} {K : PySem.W.Frag} {mg mb : Str → Option Value} {fa a : Addr} {fd : FuncData} {x : Str} {sp : Sp} {s : Shared} {vs : List Value} {ns : List Int}
    (inK : K.In s.heap) (glob : s.heap.Ns mainGlobals mg) (blt : s.heap.Ns builtinsNs mb) (boot : ∀ y : Str, y ≠ "__name__" → mb y = bootBuiltins y) (lim : s.heap.NoLimit) (gens : s.gens = #[])
    (script : s.heap.get? a = some { cls := .type "list", data := .seq vs.toArray }) (nums : IntsAre vs ns) (short : ns.length ≤ sizeLine)
    (law : ∀ base : Heap, K.In base → base.Ns mainGlobals mg → LawAt P w K mg base fa fd x sp) (bind : ∀ (s : Shared) (u : Value), BindsTo s fd ⟨[u], []⟩ [(x, u)])
    (asked : ∀ H : Hp, Only H → SqL K H a (ns.map V.int) → sp [.ref a] H (fun v _ => v = .bl true) E0) :
    codeAny (model P w) callerA (.call (.ref fa) ⟨[.ref a], []⟩) (fun r s' => r = .ok (.ret (.bool true)) ∧ OldK s.heap s'.heap ∧ s'.os = s.os ∧ AllBare s'.gens) s := by
  have rel := vals_ints nums
  have size := nums.length
  have notDict : ∀ {b : Addr} {o : Obj} {es : Array DictEntry} {ep : Nat}, s.heap.get? b = some o → o.data = .dict es ep → scriptH K a vs ns b = none := by
    intro b o es ep ho hd
    refine scriptH_not fun e => ?_
    subst e
    cases ho.symm.trans script
    cases (hd : Data.seq vs.toArray _ = Data.dict es ep)
  have stays : ∀ {b : Addr} {o : Obj}, s.heap.get? b = some o → scriptH K a vs ns b = none → (hidT s.heap (scriptH K a vs ns)).get? b = some o := fun p q => hidT_get p q
  have names : ∀ {b : Addr} {m : Str → Option Value}, s.heap.Ns b m → (hidT s.heap (scriptH K a vs ns)).Ns b m := by
    rintro b m ⟨o, es, ep, p, d, r⟩
    exact ⟨o, es, ep, stays p (notDict p d), d, r⟩
  have inBase : K.In (hidT s.heap (scriptH K a vs ns)) := by
    intro b o p
    refine stays (inK b o p) ?_
    cases e : scriptH K a vs ns b with
    | none => rfl
    | some u =>
      obtain ⟨e1, e2, _⟩ := scriptH_is e
      rw [e1, e2] at p
      cases p
  have known : SqL K (scriptH K a vs ns) a (ns.map V.int) := by
    cases own : K.lookup a with
    | none => exact Or.inl (Or.inr ⟨_, if_pos ⟨rfl, by rw [own]; rfl⟩⟩)
    | some o =>
      cases (inK a o own).symm.trans script
      exact Or.inr ⟨_, vs.toArray, _, own, rfl, rfl, rfl, by rw [List.size_toArray, size]; exact short, by simpa using rel⟩
  have held : HOk P w (scriptH K a vs ns) s.heap := by
    intro b u e
    obtain ⟨e1, _, e3⟩ := scriptH_is e
    subst e1
    subst e3
    exact ⟨script, by rw [List.length_map]; exact short, vs, _, rel, script⟩
  obtain ⟨mc, l1, l2⟩ := lim
  have env : Env0 P w K mg (hidT s.heap (scriptH K a vs ns)) callerA [] s (scriptH K a vs ns) :=
    { frames := rfl, mod := ⟨inBase, names glob, ⟨mb, names blt, boot⟩, ⟨mc, names l1, l2⟩⟩, bs := fun _ _ p => of_hidT p, bsz := Nat.le_of_eq (hidT_size _ _), funs := True.intro, frf := (fun b z => List.not_mem_nil (show b ∈ ([] : List Addr) from z) |>.elim), hok := held, bare := .of_eq gens }
  have run := law _ inBase (names glob) s (scriptH K a vs ns) a _ env (bind s (.ref a)) (asked _ scriptH_only known)
  refine codeAny_mono run fun r s2 got => ?_
  match r, got with
  | .error _, got => exact (got : False).elim
  | .ok .next, got => exact (got : False).elim
  | .ok .brk, got => exact (got : False).elim
  | .ok .cont, got => exact (got : False).elim
  | .ok (.ret u), ⟨v, H2, os, bare, un, ok2, same, truth⟩ =>
    cases (truth : v = .bl true)
    cases (same : u = Value.bool true)
    refine ⟨rfl, OldK.of_keep ?_, os, bare⟩
    intro b o p
    cases e : scriptH K a vs ns b with
    | none => exact un.keep b o p e (fun z => List.not_mem_nil (show b ∈ ([] : List Addr) from z) |>.elim) (List.not_mem_nil)
    | some v2 =>
      obtain ⟨_, _, e3⟩ := scriptH_is e
      subst e3
      have before := (held b _ e).1
      have after := (ok2 b _ (un.frzs b _ _ e)).1
      cases p.symm.trans before
      exact after

/-- the whole row, by the law's promise at the caller's place -/
theorem walkAt {l : PySem.W.OpenLaw} {n : Nat} {q : Program} {loose : List Str} {XP : (Str → Option Value) → Heap → Prop} {YP : World → Heap → Prop} {d : DefRec} {K : Params → PySem.W.Frag} {sp : PySem.W.Frag → Sp} {x : Str}
    (most : l.most = some n) (short : n ≤ sizeLine) (plain : d.params.defaults = [])
    (written : ∀ (w : World) (h : Heap), YP w h → (K w.params).In h)
    (law : ∀ (w : World) (mg : Str → Option Value) (fa : Addr) (h : Heap), (K w.params).In h → h.Ns mainGlobals mg → mg d.name = some (.ref fa) →
      ∃ fd : FuncData, (∀ (s : Shared) (u : Value), BindsTo s fd ⟨[u], []⟩ [(x, u)]) ∧ ∀ base : Heap, (K w.params).In base → base.Ns mainGlobals mg → LawAt l.prog w (K w.params) mg base fa fd x (sp (K w.params)))
    (asked : ∀ (K : PySem.W.Frag) (H : Hp) (a : Addr) (ns : List Int), ns.length ≤ n → Only H → SqL K H a (ns.map V.int) → sp K [.ref a] H (fun v _ => v = .bl true) E0) :
    PySem.W.WalkO q loose XP YP l.row.toRowW d [] (fun f vs => PySem.call f vs) := by
  apply Att.attach_call most plain
  intro w s₀ s₁ mg mb fa o pm cd doc a vs ns G Y _ _ _ hmg script nums len gens
  obtain ⟨fd, bind, prom⟩ := law w mg fa _ (written w _ Y) G.T.g hmg
  exact top_runs (written w _ Y) G.T.g G.T.b G.T.builtins G.T.nolimit gens script nums (Nat.le_trans len short) prom bind fun H => asked _ H a ns len
end LG
/-! R14: the law of known bases. -/
namespace SP
open PySem L2 DV PM LK NV QD
variable {K : PySem.W.Frag} {P : List Addr} {ss : List Sl} {cs : List (List D)}
def preLaw1 : Pre := fun rs Pl cs r cs' => ∃ ns : List Int, rs = [.dat (.fro (ns.map D.int))] ∧ ns.length ≤ 63 ∧ Pl = [] ∧ cs = [] ∧ r = .dat (.bl true) ∧ cs' = []
theorem pe_def0 {X : Cx} {k j : Nat} {x : Str} {f : Addr} {fd : FuncData} {ps : List Str} {sp : Sp} {p pos : Pos} (d : Def X.prog X.w X.K X.mg X.base k x f fd ps sp) (hr : Room j X.A) (hk : k ≤ j) (hg : Gl X x) (hdb : (x == ("__debug__" : Str)) = false := by decide) :
    PE X (.Call (.Name x p) [] [] pos) (tCall sp [] E0 tNil) := pe_call0 d.ok (hr.mono hk) hg d.g d.kp d.b .nil pass0 hdb
theorem tnil_go {σ : L2.St} {H : Hp} {R : List V → Hp → Prop} (h : R [] H) : tNil σ H R := h
theorem andT_go {r : R2} {sp : Sp} {E : XK} {t1 t2 t3 : TE} {De : Ends} {σ : L2.St} {H : Hp} (h : t1 σ H fun v H1 => sp [v] H1 (fun x H2 => t2 σ H2 fun y H3 => r x y H3 fun z H4 => ∃ c, z = .bl c ∧ if c = true then t3 σ H4 De.rt else De.rt (.bl false) H4) E) : tRet (tAndV (tOp r (tCall sp [] E (tCons t1 tNil)) t2) t3) De σ H := h
theorem opT_go {r : R2} {sp : Sp} {E : XK} {t1 t2 : TE} {Q : VK} {σ : L2.St} {H : Hp} (h : t1 σ H fun v H1 => sp [v] H1 (fun x H2 => t2 σ H2 fun y H3 => r x y H3 Q) E) : tOp r (tCall sp [] E (tCons t1 tNil)) t2 σ H Q := h
/-! displays -/
inductive PEv (K : PySem.W.Frag) (P : List Addr) (ss : List Sl) (cs : List (List D)) : List (TE × TE) → List (Key × D) → Prop
  | nil : PEv K P ss cs [] []
  | cons {tk tv : TE} {dk d : D} {k : Key} {trs : List (TE × TE)} {kds : List (Key × D)} : Ev K P ss cs tk (.dat dk) cs → KeyD dk k → Ev K P ss cs tv (.dat d) cs → PEv K P ss cs trs kds → PEv K P ss cs ((tk, tv) :: trs) ((k, d) :: kds)
theorem PEv.go {trs : List (TE × TE)} {kds : List (Key × D)} (h : PEv K P ss cs trs kds) : ∀ B H σ, Okk K P ss cs B H σ → ∀ Q : List (V × V) → Hp → Prop, (∀ kvs B' H', Stp P B H B' H' → Okk K P ss cs B' H' σ → RpK K B' kvs kds → Q (kvs.map fun kv => (kV kv.1, kv.2)) H') → tPairs trs σ H Q := by
  induction h with
  | nil => intro B H σ o Q q; exact q [] B H (Stp.refl _ _ _) o .nil
  | cons hk hd hv _ ih =>
    intro B H σ o Q q
    refine hk B H σ o _ fun u B1 H1 s1 o1 r1 => ?_
    have e := hd.val (show Rp K B1 u _ from r1)
    subst e
    refine hv B1 H1 σ o1 _ fun v B2 H2 s2 o2 r2 => ?_
    refine ih B2 H2 σ o2 _ fun kvs B3 H3 s3 o3 r3 => ?_
    exact q ((_, v) :: kvs) B3 H3 ((s1.trans s2).trans s3) o3 (.cons (Rp.mono s3.ex r2) r3)
theorem mergeK_new : ∀ {kvs acc : List (Key × V)}, ((acc ++ kvs).map (·.1)).Nodup → mergeK acc kvs = acc ++ kvs
  | [], acc, _ => by rw [List.append_nil]; rfl
  | kv :: r, acc, h => by
    have hn : (acc.any fun p => decide (p.1 = kv.1)) = false := by
      cases z : acc.any fun p => decide (p.1 = kv.1) with
      | false => rfl
      | true =>
        obtain ⟨p, hp, e⟩ := List.any_eq_true.mp z
        rw [List.map_append] at h
        exact absurd (of_decide_eq_true e) ((List.nodup_append.mp h).2.2 _ (List.mem_map.mpr ⟨p, hp, rfl⟩) _ (by simp))
    have hp : putK acc kv.1 kv.2 = acc ++ [kv] := by
      unfold putK
      rw [hn, if_neg Bool.false_ne_true]
    show mergeK (putK acc kv.1 kv.2) r = _
    rw [hp, mergeK_new (by simpa using h), List.append_assoc]
    rfl
theorem RpK.keysE {B : Hp} : ∀ {vs : List (Key × V)} {ds : List (Key × D)}, RpK K B vs ds → vs.map (·.1) = ds.map (·.1)
  | _, _, .nil => rfl
  | _, _, .cons _ r => by rw [List.map_cons, List.map_cons, RpK.keysE r]
theorem ev_disp {trs : List (TE × TE)} {kds : List (Key × D)} (h : PEv K P ss cs trs kds) (nd : (kds.map (·.1)).Nodup) (hl : kds.length ≤ 15) : Ev K P ss cs (tDisp trs) (.dat (.dic kds)) cs := fun B H σ o Q q => fun p hp => by
  have hpB := o.ex.free hp
  have hpP : p ∉ P := fun z => by
    obtain ⟨u, h1, _⟩ := o.mu.mem z
    rw [hp] at h1; cases h1
  have s1 : Stp [] B H B (upd H p (.dK [])) := stp_upd (Stp.refl _ _ _) hp
  have o1 := o.step0 s1 (ex_upd o.ex hpB)
  refine h.go B _ σ o1 _ fun kvs B2 H2 s2 o2 r2 => ?_
  have hp2 : H2 p = some (.dK []) := s2.fr _ _ hpP upd_same
  have hb2 : B2 p = none := by rw [s2.nb _ _ upd_same]; exact hpB
  refine ⟨hp2, kvs, rfl, by rw [RpK.lenE r2]; exact hl, ?_⟩
  rw [mergeK_new (acc := []) (by rw [List.nil_append, RpK.keysE r2]; exact nd), List.nil_append]
  have eB : Ex B2 (upd B2 p (.dK kvs)) := Ex.new hb2
  have sA : Stp P B H B2 H2 := s1.ofNil.trans s2
  have far : ∀ {b u}, H b = some u → b ≠ p := fun h z => by rw [z, hp] at h; cases h
  refine q (.ref p) (upd B2 p (.dK kvs)) _ ⟨sA.ex.trans eB, fun b u n z => ?_, fun b u z => ?_, fun b u z => ?_⟩ ⟨o2.ex.updB, o2.sl.mono eB, o2.mu.keep eB (fun x hx => ?_) fun x hx => ?_⟩ (.dic upd_same (RpK.mono eB r2))
  · rw [upd_ne (far z)]; exact sA.fr b u n z
  · rw [upd_ne (far z)]; exact sA.nb b u z
  · rw [upd_ne (far z)]; exact sA.dm b u z
  · rw [upd_ne fun (z : x = p) => hpP (by rw [← z]; exact hx)]
  · rw [upd_ne fun (z : x = p) => hpP (by rw [← z]; exact hx)]; exact (o2.mu.mem hx).choose_spec.2
/-- {(t, k): pair} -/
theorem dispT_go {B H : Hp} {σ : L2.St} {tv : TE} {t : Str} {i : Int} {tki : TE} {pr : Option Row × Option Row} {Q : VK} (o : Okk K [] ss [] B H σ) (hi : Ev K [] ss [] tki (.dat (.int i)) []) (hv : Ev K [] ss [] tv (.dat (pairD pr)) [])
    (k : ∀ p kvs B' H', Stp [] B H B' H' → Okk K [] ss [] B' H' σ → H' p = some (.dT kvs) → B' p = none → RT K B' kvs [((t, i), pr)] → Q (.ref p) H') : QT.tDispT [(tTup (tCons (tC (.str t)) (tCons tki tNil)), tv)] σ H Q := fun p hp => by
  have hpB := o.ex.free hp
  have s1 : Stp [] B H B (upd H p (.dT [])) := stp_upd (Stp.refl _ _ _) hp
  have o1 := o.step0 s1 (ex_upd o.ex hpB)
  refine hi B _ σ o1 _ fun u B2 H2 s2 o2 r2 => ?_
  cases (show Rp K B2 u (.int i) from r2)
  refine ⟨le_line (by simp), fun qa hqa => ?_⟩
  have s3 : Stp [] B2 H2 B2 (upd H2 qa (.tup [.str t, .int i])) := stp_upd (Stp.refl _ _ _) hqa
  have o3 := o2.step0 s3 (ex_upd o2.ex (o2.ex.free hqa))
  refine hv B2 _ σ o3 _ fun v B4 H4 s4 o4 r4 => ?_
  have s14 : Stp [] B (upd H p (.dT [])) B4 H4 := s2.trans (s3.trans s4)
  have hp4 : H4 p = some (.dT []) := s14.fr _ _ (by simp) upd_same
  have hb4 : B4 p = none := by rw [s14.nb _ _ upd_same]; exact hpB
  have hq4 : H4 qa = some (.tup ((keyL (t, i)).map kV)) := s4.fr _ _ (by simp) upd_same
  refine ⟨hp4, [(keyL (t, i), v)], .cons ⟨qa, rfl, hq4⟩ .nil, by simp, ?_⟩
  have sA : Stp [] B H B4 H4 := s1.trans s14
  have far : ∀ {b u}, H b = some u → b ≠ p := fun h z => by rw [z, hp] at h; cases h
  refine k p [(keyL (t, i), v)] B4 _ ⟨sA.ex, fun b u n z => ?_, sA.nb, fun b u z => ?_⟩ ⟨ex_upd o4.ex hb4, o4.sl, True.intro⟩ upd_same hb4 (.cons r4 .nil)
  · rw [upd_ne (far z)]; exact sA.fr b u n z
  · rw [upd_ne (far z)]; exact sA.dm b u z
/-- d1 == d2 of two that tell the same -/
theorem eq_same {B H : Hp} {a b : Addr} {ks ls : List (List Key × V)} {S1 S2 : Ns} {Q : VK} (e : Ex B H) (h1 : H a = some (.dT ks)) (h2 : H b = some (.dT ls)) (r1 : RT K B ks S1) (r2 : RT K B ls S2) (h : SameN S1 S2) (q : Q (.bl true) H) : QT.rEqT K (.ref a) (.ref b) H Q :=
  ⟨a, b, ks, ls, _, rfl, rfl, .inl h1, .inl h2, rt_ents e r1 r2 h, by rw [rt_same r1 r2 h]; exact q⟩
theorem neq_go2 {CB C : Addr} {B H : Hp} {s dx s' dx' : Addr} {v0 v0' vt vt' : V} {T : List Tab} {R R' : Rs} {Q : VK} (e : Ex B H) (b1 : BObj K B H s dx CB C v0 vt T R) (b2 : BObj K B H s' dx' CB C v0' vt' T R') (hT : schOk T) (hR : rowsOk T R) (hR' : rowsOk T R') (hs : sim R R')
    (k : ∀ B' H', Stp [] B H B' H' → Ex B' H' → Q (.bl false) H') : OWN.rEqOwn K CB (spBEqB K CB C) true (.ref s) (.ref s') H Q := by
  refine ⟨s, dx, _, rfl, b1.obj, ⟨s', dx', _, rfl, b2.obj⟩, B, s, dx, v0, vt, T, R, s', dx', v0', vt', T, R', rfl, e, b1, b2, hT.1, hT.1, by rw [hR.1]; exact hT.2, fun t ht => (hR.2.1 t ht).1, fun v B' H' s' e' r' => ?_⟩
  rw [decide_eq_true (rfl : rowsOf T = rowsOf T), Bool.true_and, Bool.true_and, (eqTab_sim hT.2 hR hR').mpr hs] at r'
  have r' : Rp K B' v (.bl true) := r'
  cases r'
  exact ⟨true, rfl, k B' H' s' e'⟩
theorem look_no {m : Str} {v0 vt : V} (h1 : (m == ("schema" : Str)) = false) (h2 : (m == ("_tables" : Str)) = false) : List.lookup m [(("schema" : Str), v0), ("_tables", vt)] = none := by
  simp only [List.lookup, h1, h2]
theorem stp_less {P P' : List Addr} {B H B' H' : Hp} (s : Stp P B H B' H') (h : ∀ x ∈ P, x ∈ P' ∨ H x = none) : Stp P' B H B' H' := ⟨s.ex, fun b o n e => s.fr b o (fun z => by
  rcases h b z with h | h
  · exact n h
  · rw [h] at e; cases e) e, s.nb, s.dm⟩
/-! what the typed cases say -/
def chOkB (T : List Tab) (c : Ch) : Bool := match T.lookup c.tab with
  | none => false
  | some cols => (c.old.all fun r => r.length == cols.length + 1) && (c.new.all fun r => r.length == cols.length + 1) && (match c.old, c.new with | some o, some n => o.headD 0 == n.headD 0 | _, _ => true)
theorem chOk_of {T : List Tab} {c : Ch} (h : chOkB T c = true) : chOk T c := by
  unfold chOkB at h
  cases e : T.lookup c.tab with
  | none => rw [e] at h; cases h
  | some cols =>
    rw [e] at h
    simp only [Bool.and_eq_true] at h
    obtain ⟨⟨h1, h2⟩, h3⟩ := h
    refine ⟨cols, e, fun r hr => ?_, fun r hr => ?_, fun o n ho hn => ?_⟩
    · rw [hr] at h1; simpa using h1
    · rw [hr] at h2; simpa using h2
    · rw [ho, hn] at h3; simpa using h3
theorem cases_ok : ∀ c ∈ CASES, (∀ x ∈ c.1, chOkB T13 x = true) ∧ c.1.length ≤ 8 ∧ (advF T13 c.1 R13 0).1 = c.2 ∧ (c.2.all fun i => decide (i ≤ 8)) = true := by decide +kernel
theorem rows13 : rowsOk T13 R13 := by
  have h := fill_rows (T := T13) (pairs := P13) (R0 := emptyF T13) (empty_rows T13) ch13 (fun t ht => by
    obtain ⟨y, _, e⟩ := List.mem_map.mp ht
    rw [← e]
    show 0 + 3 ≤ 1000
    decide)
  have e : P13.foldl (fun R q => stepCh R (.ins q.1 q.2)) (emptyF T13) = R13 := fill13
  rw [e] at h
  exact h
theorem room13 {n : Nat} (h : n ≤ 100) : room n R13 := fun t ht => by
  have : t.2.length ≤ 2 := (by decide +kernel : ∀ t ∈ R13, t.2.length ≤ 2) t ht
  omega
theorem refs13 : refsOk T13 := by
  have : ∀ t ∈ T13, ∀ c ∈ t.2, (c.2.all fun m => decide (m ∈ T13.map Prod.fst)) = true := by decide +kernel
  intro t ht c hc m hm
  have := this t ht c hc
  rw [hm] at this
  simpa using this
def B13a : List Ch := [.del "region" [4, -2], .ins "region" [4, 7], .set "region" [4, 7] [4, 8]]
def B13b : List Ch := [.ins "region" [1, 1], .del "region" [1, 1]]
def R13b : Rs := [("region", [(3, [3, 12]), (4, [4, 8])]), ("shop", [(5, [5, 1, 3, 3])])]
def N13a : Ns := [((("region" : Str), (4 : Int)), (some [4, -2], some [4, 8]))]
def N13b : Ns := [((("region" : Str), (4 : Int)), (some [4, -2], none))]
theorem b13_ok : (∀ x ∈ B13a ++ B13b, chOkB T13 x = true) ∧ advF T13 (B13a ++ B13b) R13 0 = (none, R13b) ∧ netN B13a = N13a ∧ netN (B13a.take 1) = N13b ∧ netN B13b = [] := by refine ⟨?_, ?_, ?_, ?_, ?_⟩ <;> first | decide +kernel | rfl
end SP
namespace T3
open PySem L2 DV PM SP LK NV IX
abbrev s_law : Stmt := topS 29
abbrev N_law : List Str := ["script", "batch", "due", "base"]
theorem sc_law : FnScope N_law ["script"] (defScope s_law) := ⟨rfl, rfl, rfl, by decide +kernel, rfl, by decide +kernel, by decide +kernel⟩

section
variable {P : Program} {w : World} {K : PySem.W.Frag} {mg : Str → Option Value} {base : Heap} {C CB : Addr} {mc : Value}
theorem ok_law13 {f fBs fBt fRf fNt fE fMk fIA fR : Addr} {fd fdBs fdBt fdRf fdNt fdE fdMk fdIA fdR : FuncData} (F : Fun K "law" "law" s_law f fd)
    (G_l_base : Def P w K mg base 6 "_law_base" fBs fdBs [] (spBase13 K CB C)) (G_l_batches : Def P w K mg base 1 "_law_batches" fBt fdBt [] (spM K preCases)) (G_l_refused : Def P w K mg base 6 "_law_refused" fRf fdRf ["base", "batch"] (spRefused K CB C)) (G_net : Def P w K mg base 2 "net" fNt fdNt ["changes"] (spNet K))
    (cls_B : Cls K CB) (M_make : Meth K CB "make" fMk) (G_make : FnOk P w K mg base CX0 5 fMk fdMk ["self", "changes"] (spMake0 K CB C)) (B_make : Binds K fdMk ["self", "changes"] [])
    (M_is_allowed : Meth K CB "is_allowed" fIA) (G_is_allowed : FnOk P w K mg base CX0 5 fIA fdIA ["self", "changes"] (spIsAllowed K CB C)) (B_is_allowed : Binds K fdIA ["self", "changes"] [])
    (M_rows : Meth K CB "rows" fR) (G_rows : FnOk P w K mg base CX0 1 fR fdR ["self", "table"] (spBRowsF K CB C)) (B_rows : Binds K fdR ["self", "table"] [])
    (G_beq : FnOk P w K mg base CX0 4 fE fdE ["self", "other"] (spBEqB K CB C)) (B_beq : Binds K fdE ["self", "other"] []) (S_beq : PySem.W.findIn K (.ref CB) "__eq__" = some (some (.ref fE))) (Fn_beq : PySem.W.isFn K (.ref fE) = true)
    (S_bne : PySem.W.findIn K (.ref CB) "__ne__" = some (some (.builtin "object.__ne__"))) (M_bobj : PySem.W.mroIn K CB (.type "object") = some true) (b_repr : mg "repr" = none) :
    LG.LawAt P w K mg base f fd "script" (spM K preLaw1) := by
  refine LG.LawAt.body (k := 7) F sc_law ⟨rfl, by decide, by decide⟩ (fun cdv s H a Q hr hG hsp => ?_)
  have hr : Room 7 (cxOf CX0 P w K mg base N_law "law" (defScope s_law) f cdv callerA [] s H E0).nox.A := hr
  have hG : (cxOf CX0 P w K mg base N_law "law" (defScope s_law) f cdv callerA [] s H E0).nox.A.guards = some [] := hG
  have nd := sc_law.nd
  refine ⟨_, (pss_cons (ps_for PassesOwn.never rfl (pi_list (pe_def0 G_l_batches hr (by decide) (by rfl))) (pg_tup (by rfl) (by exact (pgs_cons (by exact (pg_name (i := 1) nd (by rfl) (by first | exact .inl rfl | exact .inr rfl))) (by exact (pgs_cons (by exact (pg_name (i := 2) nd (by rfl) (by first | exact .inl rfl | exact .inr rfl))) (by exact pgs_nil)))))) (pss_cons (ps_set (i := 3) nd rfl (.inl rfl) (pe_def0 G_l_base hr (by decide) (by rfl)))
      (pss_cons (ps_if (PW.pt (pw_or (pt_cmpR (op_neA hr.units) (pe_meth (pv 3) cls_B M_is_allowed G_is_allowed (hr.mono (by decide)) B_is_allowed .nil pass0 (pa_cons (pv 1) pa_nil)) (pe_cmpR op_isN' (pv 2) pe_non (nomark _)) (nomark _)) (pw_or1 (pt_cmpR (op_neA hr.units) (pe_callB (call_reprD hr hG) (by rfl) b_repr (by decide +kernel) (pa_cons (pe_def G_l_refused hr (by decide) (by rfl) (pa_cons (pv 3) (pa_cons (pv 1) pa_nil))) pa_nil)) (pe_callB (call_reprD hr hG) (by rfl) b_repr (by decide +kernel) (pa_cons (pv 2) pa_nil)) (nomark _))))) (pss_one (ps_ret pe_bl)) pss_nil)
      (pss_one (ps_if (PW.pt (pw_and (pt_cmpR op_notN' (pv 2) pe_non (nomark _)) (pw_and1 (pt_cmpR (OWN.op_neOwn G_beq B_beq S_beq Fn_beq S_bne M_bobj (hr.mono (by decide))) (pv 3) (pe_def0 G_l_base hr (by decide) (by rfl)) (nomark _))))) (pss_one (ps_ret pe_bl)) pss_nil)))))
      (pss_cons (ps_set (i := 3) nd rfl (.inl rfl) (pe_def0 G_l_base hr (by decide) (by rfl)))
      (pss_cons (ps_set (i := 1) nd rfl (.inl rfl) (pe_lst (pa_cons (pe_tup (pa_cons pe_str (pa_cons pe_str (pa_cons (pe_tup (pa_cons pe_int (pa_cons (pe_un un_neg pe_int) pa_nil))) pa_nil)))) (pa_cons (pe_tup (pa_cons pe_str (pa_cons pe_str (pa_cons (pe_tup (pa_cons pe_int (pa_cons pe_int pa_nil))) pa_nil)))) (pa_cons (pe_tup (pa_cons pe_str (pa_cons pe_str (pa_cons (pe_tup (pa_cons pe_int (pa_cons pe_int pa_nil))) (pa_cons (pe_tup (pa_cons pe_int (pa_cons pe_int pa_nil))) pa_nil))))) pa_nil)))))
      (pss_cons (ps_expr (pe_meth (pv 3) cls_B M_make G_make (hr.mono (by decide)) B_make .nil pass0 (pa_cons (pe_op op_addA (pv 1) (pe_lst (pa_cons (pe_tup (pa_cons pe_str (pa_cons pe_str (pa_cons (pe_tup (pa_cons pe_int (pa_cons pe_int pa_nil))) pa_nil)))) (pa_cons (pe_tup (pa_cons pe_str (pa_cons pe_str (pa_cons (pe_tup (pa_cons pe_int (pa_cons pe_int pa_nil))) pa_nil)))) pa_nil)))) pa_nil)))
      (pss_cons (ps_if (PW.pt (pw_or (pt_cmpR (QD.op_neDD (room1 hr)) (pe_meth (pv 3) cls_B M_rows G_rows (hr.mono (by decide)) B_rows .nil pass0 (pa_cons pe_str pa_nil)) (pe_disp (pps_cons pe_int (pe_tup (pa_cons pe_int (pa_cons pe_int pa_nil))) (pps_cons pe_int (pe_tup (pa_cons pe_int (pa_cons pe_int pa_nil))) pps_nil)) rfl rfl (by simp) (by decide)) (nomark _)) (pw_or1 (pt_cmpR (QD.op_neDD (room1 hr)) (pe_meth (pv 3) cls_B M_rows G_rows (hr.mono (by decide)) B_rows .nil pass0 (pa_cons pe_str pa_nil)) (pe_disp (pps_cons pe_int (pe_tup (pa_cons pe_int (pa_cons pe_int (pa_cons pe_int (pa_cons pe_int pa_nil))))) pps_nil) rfl rfl (by simp) (by decide)) (nomark _))))) (pss_one (ps_ret pe_bl)) pss_nil)
      (pss_cons (ps_if (PW.pt (pw_or (pt_cmpR (QT.op_neT (room1 hr)) (pe_def G_net hr (by decide) (by rfl) (pa_cons (pv 1) pa_nil)) (QT.pe_dispT (QT.roomD hr) (pps_cons (pe_tup (pa_cons pe_str (pa_cons pe_int pa_nil))) (pe_tup (pa_cons (pe_tup (pa_cons pe_int (pa_cons (pe_un un_neg pe_int) pa_nil))) (pa_cons (pe_tup (pa_cons pe_int (pa_cons pe_int pa_nil))) pa_nil))) pps_nil) rfl rfl (by simp) (by decide)) (nomark _)) (pw_or1 (pt_cmpR (QT.op_neT (room1 hr)) (pe_def G_net hr (by decide) (by rfl) (pa_cons (pe_slice sl_3 (pv 1) po_none (po_some pe_int)) pa_nil)) (QT.pe_dispT (QT.roomD hr) (pps_cons (pe_tup (pa_cons pe_str (pa_cons pe_int pa_nil))) (pe_tup (pa_cons (pe_tup (pa_cons pe_int (pa_cons (pe_un un_neg pe_int) pa_nil))) (pa_cons pe_non pa_nil))) pps_nil) rfl rfl (by simp) (by decide)) (nomark _))))) (pss_one (ps_ret pe_bl)) pss_nil)
      (pss_one (ps_ret (pe_and (pe_cmpR (QT.op_eqT (room1 hr)) (pe_def G_net hr (by decide) (by rfl) (pa_cons (pe_lst (pa_cons (pe_tup (pa_cons pe_str (pa_cons pe_str (pa_cons (pe_tup (pa_cons pe_int (pa_cons pe_int pa_nil))) pa_nil)))) (pa_cons (pe_tup (pa_cons pe_str (pa_cons pe_str (pa_cons (pe_tup (pa_cons pe_int (pa_cons pe_int pa_nil))) pa_nil)))) pa_nil))) pa_nil)) pe_dnewT (nomark _)) (pe_one (pe_cmpR (QT.op_eqT (room1 hr)) (pe_def G_net hr (by decide) (by rfl) (pa_cons (pe_lst pa_nil) pa_nil)) pe_dnewT (nomark _)))))))))))), ?_⟩
  obtain ⟨B0, rs, Pl, cs, r, cs', ⟨ns, rfl, hl, rfl, rfl, rfl, rfl⟩, ex0, hrs, _, q0⟩ := hsp
  have hd : Done K [] B0 H (.dat (.bl true)) [] Q := fun v B' H' s e m x => q0 v B' H' s e m x
  have st := sta_start (N := N_law) (K := K) (P := []) (cs := []) ex0 hrs True.intro
  generalize L2.start N_law [V.ref a] = σ at st ⊢
  generalize H = H0 at *
  have st : Sta K [] B0 H0 [.dat (.fro (ns.map D.int)), .any, .any, .any] [] σ H0 := st
  have hT := ok_sch ok13
  have hX := refs13
  have hpl : (pairsOf R13).length ≤ 900 := by decide +kernel
  -- a base
  have base_go : ∀ {ss : List Sl} {B H : Hp} {σ : L2.St} {Q : VK}, Okk K [] ss [] B H σ → (∀ s dx v0 vt B' H', Stp [] B H B' H' → Okk K [] ss [] B' H' σ → BObj K B' H' s dx CB C v0 vt T13 R13 → H s = none → Q (.ref s) H') → tCall (spBase13 K CB C) [] E0 tNil σ H Q := fun {ss B H σ Q} o k =>
    ⟨B, rfl, o.ex, fun s dx v0 vt B' H' s' e' bo hs => k s dx v0 vt B' H' s' (o.step0 s' e') bo hs⟩
  refine st_seq (t := tFor _ _ _) ?_
  refine st_for (α := Unit) (cs1 := []) st (wd_lst (ev_call0 ea_nil ⟨rfl, rfl, rfl, rfl, rfl⟩)) (fun _ _ => True) (fun _ _ => [.dat (.fro (ns.map D.int)), .any, .any, .any]) (fun _ _ => []) () True.intro ⟨.rfl _, .any _, .any _, .any _, True.intro⟩ rfl (fun B1 H1 s1 i d z hd' _ => ?_) (fun z σ' H' _ st' => ?_)
  · obtain ⟨c, hc, rfl⟩ := map_get hd'
    obtain ⟨hch, hlen, hadv, hsm⟩ := cases_ok c (List.mem_of_getElem? hc)
    obtain ⟨chs, due⟩ := c
    have hch : ∀ x ∈ chs, chOk T13 x := fun x hx => chOk_of (hch x hx)
    have hlen : chs.length ≤ 8 := hlen
    have hadv : (advF T13 chs R13 0).1 = due := hadv
    have hsho : Sho (optN due) := sho_opt fun i hi => by
      subst hi
      have : i ≤ 8 := by simpa using hsm
      omega
    refine ⟨_, _, (g_tup (g_cons (g_name (i := 1)) (g_cons (g_name (i := 2)) g_nil)) : GR K _ _ (.tup [.lst (chs.map encCh), optN due]) _ _), fun σ2 H2 st2 => ?_⟩
    obtain ⟨B2, s2, o2⟩ := st2
    have o2 : Okk K [] [.dat (.fro (ns.map D.int)), .dat (.lst (chs.map encCh)), .dat (optN due), .any] [] B2 H2 σ2 := o2
    -- base
    refine st_seq ?_
    refine base_go o2 fun s dx v0 vt B3 H3 s3 o3 bo3 hs3 => ?_
    refine gname_go ?_
    dsimp only []
    have o4 : Okk K [] [.dat (.fro (ns.map D.int)), .dat (.lst (chs.map encCh)), .dat (optN due), .val (.ref s)] [] B3 H3 (σ2.set 3 (some (.ref s))) := ⟨o3.ex, o3.sl.set (i := 3) (v := .ref s) (r := .val (.ref s)) rfl, True.intro⟩
    generalize σ2.set 3 (some (V.ref s)) = σ4 at o4
    obtain ⟨w3, k3, ew3⟩ := o4.sl.get 3 (.val (.ref s)) rfl (by intro z; cases z)
    cases (show w3 = .ref s from ew3)
    obtain ⟨w1, k1, rw1⟩ := o4.sl.get 1 (.dat (.lst (chs.map encCh))) rfl (by intro z; cases z)
    have rw1 : Rp K B3 w1 (.lst (chs.map encCh)) := rw1
    -- is_allowed
    refine st_seq ?_
    refine ⟨.ref s, k3, s, dx, _, rfl, bo3.obj, look_no (by decide +kernel) (by decide +kernel), w1, k1, B3, s, dx, v0, vt, T13, R13, chs, w1, rfl, o4.ex, bo3, rw1, hT, hX, rows13, hch, room13 (by omega), hpl, fun v B5 H5 s5 e5 r5 => ?_⟩
    have o5 := o4.step0 s5 e5
    rw [hadv] at r5
    have r5 : Rp K B5 v (.bl (optN due).isN) := r5
    refine (ev_op (ev_var (i := 2) rfl) ev_non od_isN : Ev K [] _ [] _ (.dat (.bl (optN due).isN)) []) B5 H5 σ4 o5 _ fun u B6 H6 s6 o6 r6 => ?_
    refine (od_neB (K := K) (i := (optN due).isN) (j := (optN due).isN)) B6 H6 v u o6.ex (Rp.mono s6.ex r5) r6 _ fun x B7 H7 s7 e7 r7 => ?_
    have r7 : Rp K B7 x (.bl (!decide ((optN due).isN = (optN due).isN))) := r7
    rw [decide_eq_true rfl] at r7
    cases r7
    refine ⟨false, rfl, ifF rfl ?_⟩
    have o7 := o6.step0 s7 e7
    have s37 : Stp [] B3 H3 B7 H7 := s5.trans (s6.trans s7)
    have bo7 := bo3.step s37 (by simp)
    -- repr(_law_refused(base, batch)) != repr(due)
    refine ⟨.ref s, k3, w1, k1, B7, s, dx, v0, vt, T13, R13, chs, w1, rfl, e7, bo7, Rp.mono s37.ex rw1, hT, hX, rows13, hch, room13 (by omega), hpl, fun v8 vt8 B8 H8 s8 e8 bo8 r8 => ?_⟩
    rw [hadv] at r8
    refine tnil_go ?_
    dsimp only []
    refine cb_reprD hsho B8 H8 [v8] e8 ⟨r8, True.intro⟩ _ fun v9 B9 H9 s9 e9 r9 => ?_
    have s89 : Stp [s] B7 H7 B9 H9 := s8.trans (s9.mono (by simp))
    have o9 : Okk K [] [.dat (.fro (ns.map D.int)), .dat (.lst (chs.map encCh)), .dat (optN due), .val (.ref s)] [] B9 H9 σ4 := ⟨e9, o7.sl.mono s89.ex, True.intro⟩
    refine (ev_cb (ea_cons (ev_var (i := 2) rfl) ea_nil) (cb_reprD hsho) : Ev K [] _ [] _ _ []) B9 H9 σ4 o9 _ fun v10 B10 H10 s10 o10 r10 => ?_
    generalize (D.pyR (optN due)).shown = SH at r9 r10
    refine (od_neS (K := K) (i := SH) (j := SH)) B10 H10 v9 v10 o10.ex (Rp.mono s10.ex r9) r10 _ fun x B11 H11 s11 e11 r11 => ?_
    have r11 : Rp K B11 x (.bl (!decide (SH = SH))) := r11
    rw [decide_eq_true rfl] at r11
    cases r11
    refine ⟨false, rfl, ifF rfl ?_⟩
    refine st_next ?_
    dsimp only []
    have o11 := o10.step0 s11 e11
    have s811 : Stp [] B8 H8 B11 H11 := s9.trans (s10.trans s11)
    have bo11 := bo8.step s811 (by simp)
    have hs1 : H1 s = none := by
      cases e : H1 s with
      | none => rfl
      | some u => obtain ⟨u', h'⟩ := s2.dm s u e; rw [hs3] at h'; cases h'
    have sAll : Stp [] B1 H1 B11 H11 := stp_less (P := [s]) (((s2.mono (by simp)).trans (s3.mono (by simp))).trans ((s37.mono (by simp)).trans (s8.trans (s811.mono (by simp))))) fun x hx => .inr (by rw [List.mem_singleton.mp hx]; exact hs1)
    -- due is not None and base != _law_base()
    have fin : ∀ {B12 H12 : Hp}, Stp [] B11 H11 B12 H12 → Ex B12 H12 → Turn' K [] B1 H1 (fun (_ : Nat) (_ : Unit) => True) (fun _ _ => [.dat (.fro (ns.map D.int)), .any, .any, .any]) (fun _ _ => []) (i + 1) σ4 H12 := fun s12 e12 =>
      ⟨(), True.intro, _, sAll.trans s12, e12, (o11.step0 s12 e12).sl.le ⟨.rfl _, .any _, .any _, .any _, True.intro⟩, True.intro⟩
    cases due with
    | none =>
      refine (et_andN (et_test (ev_op (ev_var (i := 2) (r := .dat .non) rfl) ev_non od_notN)) : EvT K [] _ [] _ false []) B11 H11 σ4 o11 _ fun B12 H12 s12 o12 => ?_
      refine ifF rfl (st_next (fin s12 o12.ex))
    | some n =>
      refine (et_test (ev_op (ev_var (i := 2) (r := .dat (.int (n : Nat))) rfl) ev_non od_notN) : EvT K [] _ [] _ true []) B11 H11 σ4 o11 _ fun B12 H12 s12 o12 => ?_
      refine ifT rfl ?_
      have bo12 := bo11.step s12 (by simp)
      rw [hadv] at bo12
      have bo12 : BObj K B12 H12 s dx CB C v0 vt8 T13 R13 := bo12
      refine ⟨.ref s, k3, ?_⟩
      refine base_go o12 fun s2 dx2 v02 vt2 B13 H13 s13 o13 bo13 _ => ?_
      refine neq_go2 o13.ex (bo12.step s13 (by simp)) bo13 hT rows13 rows13 (sim.refl R13) fun B14 H14 s14 e14 => ?_
      refine ⟨false, rfl, ifF rfl ?_⟩
      exact st_next (fin (s12.trans (s13.trans s14)) e14)
  · dsimp only []
    have hab : ∀ x ∈ B13a ++ B13b, chOk T13 x := fun x hx => chOk_of (b13_ok.1 x hx)
    obtain ⟨_, badv, bn1, bn2, bn3⟩ := b13_ok
    obtain ⟨B1, s1, o1⟩ := st'
    refine st_seq ?_
    refine base_go o1 fun s dx v0 vt B2 H2 s2 o2 bo2 hs2 => ?_
    refine gname_go ?_
    dsimp only []
    have o3 : Okk K [] [.dat (.fro (ns.map D.int)), .any, .any, .val (.ref s)] [] B2 H2 (σ'.set 3 (some (.ref s))) := ⟨o2.ex, o2.sl.set (i := 3) (v := .ref s) (r := .val (.ref s)) rfl, True.intro⟩
    generalize σ'.set 3 (some (V.ref s)) = σ3 at o3
    -- batch
    have st3 : Sta K [] B2 H2 [.dat (.fro (ns.map D.int)), .any, .any, .val (.ref s)] [] σ3 H2 := ⟨B2, Stp.refl _ _ _, o3⟩
    refine st_seq (st_asg (i := 1) (r := .dat (.lst (B13a.map encCh))) (cs1 := []) st3 (by (repeat (first | exact ev_int | exact ev_str | exact ev_non | exact el_nil | exact ev_npow6 | exact ev_pow6 | exact ev_negK | exact ev_var rfl | refine el_cons ?_ ?_ | refine ev_tupL ?_ (by decide) | refine ev_lstL ?_ (by decide)))) (fun σ4 H4 st4 => ?_))
    dsimp only []
    have st4 : Sta K [] B2 H2 [.dat (.fro (ns.map D.int)), .dat (.lst (B13a.map encCh)), .any, .val (.ref s)] [] σ4 H4 := st4
    obtain ⟨B4, s4, o4⟩ := st4
    have bo4 := bo2.step s4 (by simp)
    obtain ⟨w3, k3, ew3⟩ := o4.sl.get 3 (.val (.ref s)) rfl (by intro z; cases z)
    cases (show w3 = .ref s from ew3)
    obtain ⟨w1, k1, rw1⟩ := o4.sl.get 1 (.dat (.lst (B13a.map encCh))) rfl (by intro z; cases z)
    have rw1 : Rp K B4 w1 (.lst (B13a.map encCh)) := rw1
    -- base.make(batch + [..])
    refine st_seq ?_
    refine ⟨.ref s, k3, s, dx, _, rfl, bo4.obj, look_no (by decide +kernel) (by decide +kernel), ?_⟩
    refine (Ev.eq (d' := .lst ((B13a ++ B13b).map encCh)) (ev_op (r2 := .dat (.lst (B13b.map encCh))) (ev_var (i := 1) rfl) ?ev (od_addL (by decide))) (by rw [List.map_append]) : Ev K [] _ [] _ _ []) B4 H4 σ4 o4 _ fun v B5 H5 s5 o5 r5 => ?_
    case ev => (repeat (first | exact ev_int | exact ev_str | exact ev_non | exact el_nil | exact ev_npow6 | exact ev_pow6 | exact ev_negK | exact ev_var rfl | refine el_cons ?_ ?_ | refine ev_tupL ?_ (by decide) | refine ev_lstL ?_ (by decide)))
    have r5 : Rp K B5 v (.lst ((B13a ++ B13b).map encCh)) := r5
    have bo5 := bo4.step s5 (by simp)
    refine ⟨B5, s, dx, v0, vt, T13, R13, B13a ++ B13b, v, R13b, rfl, o5.ex, bo5, r5, hT, hX, rows13, hab, room13 (by decide), hpl, badv, fun vt6 B6 H6 s6 e6 bo6 => ?_⟩
    dsimp only []
    have o6 : Okk K [] [.dat (.fro (ns.map D.int)), .dat (.lst (B13a.map encCh)), .any, .val (.ref s)] [] B6 H6 σ4 := ⟨e6, o5.sl.mono s6.ex, True.intro⟩
    -- base.rows
    have rows_go : ∀ {B H : Hp} {n : Str} {l : List (Int × Row)} {te : TE} {Q : VK}, Okk K [] [.dat (.fro (ns.map D.int)), .dat (.lst (B13a.map encCh)), .any, .val (.ref s)] [] B H σ4 → BObj K B H s dx CB C v0 vt6 T13 R13b → R13b.lookup n = some l → (l.map (·.1)).Nodup → l.length ≤ 1000 → eqIn l l = true → Ev K [] [.dat (.fro (ns.map D.int)), .dat (.lst (B13a.map encCh)), .any, .val (.ref s)] [] te (.dat (inD l)) [] →
        (∀ B' H', Stp [] B H B' H' → Okk K [] [.dat (.fro (ns.map D.int)), .dat (.lst (B13a.map encCh)), .any, .val (.ref s)] [] B' H' σ4 → Q (.bl false) H') → tOp (QD.rEqDD K true) (tMeth CB "rows" (spBRowsF K CB C) [] E0 (tVar 3) (tCons (tC (.str n)) tNil)) te σ4 H Q := fun {B H n l te Q} o bo hlk hnd hln heq ev k => by
      refine ⟨.ref s, k3, s, dx, _, rfl, bo.obj, look_no (by decide +kernel) (by decide +kernel), B, s, dx, v0, vt6, T13, R13b, n, l, rfl, o.ex, bo, hlk, hnd, hln, fun a kvs B7 H7 s7 e7 ha hb rk hn => ?_⟩
      obtain ⟨e8, eB, ra⟩ := in_publ e7 ha hb rk
      have s8 : Stp [] B H (upd B7 a (.dK kvs)) H7 := stp_pub s7 hb hn
      have o8 := o.step0 s8 e8
      refine ev _ H7 σ4 o8 _ fun v9 B9 H9 s9 o9 r9 => ?_
      refine (od_eqIn (K := K) (l := l) (l' := l) (neg := true) hnd) B9 H9 _ v9 o9.ex (ra.mono s9.ex) r9 _ fun v10 B10 H10 s10 e10 r10 => ?_
      rw [if_pos rfl, heq] at r10
      have r10 : Rp K B10 v10 (.bl false) := r10
      cases r10
      exact k B10 H10 ((s8.trans s9).trans s10) (o9.step0 s10 e10)
    refine st_seq ?_
    refine rows_go (l := [(3, [3, 12]), (4, [4, 8])]) o6 bo6 (by decide +kernel) (by decide) (by decide) (by decide +kernel) ?_ fun B7 H7 s7 o7 => ?_
    · refine ev_disp (.cons (dk := .int 3) (d := rowD [3, 12]) (by (repeat (first | exact ev_int | exact ev_str | exact ev_non | exact el_nil | exact ev_npow6 | exact ev_pow6 | exact ev_negK | exact ev_var rfl | refine el_cons ?_ ?_ | refine ev_tupL ?_ (by decide) | refine ev_lstL ?_ (by decide)))) (.int 3) (by (repeat (first | exact ev_int | exact ev_str | exact ev_non | exact el_nil | exact ev_npow6 | exact ev_pow6 | exact ev_negK | exact ev_var rfl | refine el_cons ?_ ?_ | refine ev_tupL ?_ (by decide) | refine ev_lstL ?_ (by decide)))) (.cons (dk := .int 4) (d := rowD [4, 8]) (by (repeat (first | exact ev_int | exact ev_str | exact ev_non | exact el_nil | exact ev_npow6 | exact ev_pow6 | exact ev_negK | exact ev_var rfl | refine el_cons ?_ ?_ | refine ev_tupL ?_ (by decide) | refine ev_lstL ?_ (by decide)))) (.int 4) (by (repeat (first | exact ev_int | exact ev_str | exact ev_non | exact el_nil | exact ev_npow6 | exact ev_pow6 | exact ev_negK | exact ev_var rfl | refine el_cons ?_ ?_ | refine ev_tupL ?_ (by decide) | refine ev_lstL ?_ (by decide)))) .nil)) (by decide) (by decide)
    refine ⟨false, rfl, ifF rfl ?_⟩
    refine rows_go (l := [(5, [5, 1, 3, 3])]) o7 (bo6.step s7 (by simp)) (by decide +kernel) (by decide) (by decide) (by decide +kernel) ?_ fun B8 H8 s8 o8 => ?_
    · refine ev_disp (.cons (dk := .int 5) (d := rowD [5, 1, 3, 3]) (by (repeat (first | exact ev_int | exact ev_str | exact ev_non | exact el_nil | exact ev_npow6 | exact ev_pow6 | exact ev_negK | exact ev_var rfl | refine el_cons ?_ ?_ | refine ev_tupL ?_ (by decide) | refine ev_lstL ?_ (by decide)))) (.int 5) (by (repeat (first | exact ev_int | exact ev_str | exact ev_non | exact el_nil | exact ev_npow6 | exact ev_pow6 | exact ev_negK | exact ev_var rfl | refine el_cons ?_ ?_ | refine ev_tupL ?_ (by decide) | refine ev_lstL ?_ (by decide)))) .nil) (by decide) (by decide)
    refine ⟨false, rfl, ifF rfl ?_⟩
    refine st_ns ?_
    have ha : ∀ x ∈ B13a, chOk T13 x := fun x hx => hab x (List.mem_append_left _ hx)
    have hb : ∀ x ∈ B13b, chOk T13 x := fun x hx => hab x (List.mem_append_right _ hx)
    have s68 : Stp [] B6 H6 B8 H8 := s7.trans s8
    have rw8 : Rp K B8 w1 (.lst (B13a.map encCh)) := ((rw1.mono s5.ex).mono s6.ex).mono s68.ex
    -- net(batch)
    refine ⟨w1, k1, B8, B13a, w1, T13, rfl, o8.ex, rw8, by decide, ha, fun na kva B9 H9 s9 e9 hna hnaB hnaH rta => ?_⟩
    rw [bn1] at rta
    refine dispT_go (pr := (some [4, -2], some [4, 8])) (o8.step0 s9 e9) (by (repeat (first | exact ev_int | exact ev_str | exact ev_non | exact el_nil | exact ev_npow6 | exact ev_pow6 | exact ev_negK | exact ev_var rfl | refine el_cons ?_ ?_ | refine ev_tupL ?_ (by decide) | refine ev_lstL ?_ (by decide)))) (by (repeat (first | exact ev_int | exact ev_str | exact ev_non | exact el_nil | exact ev_npow6 | exact ev_pow6 | exact ev_negK | exact ev_var rfl | refine el_cons ?_ ?_ | refine ev_tupL ?_ (by decide) | refine ev_lstL ?_ (by decide)))) fun p kvp B10 H10 s10 o10 hp hpB rtp => ?_
    refine ne_same o10.ex (s10.fr _ _ (by simp) hna) hp (rta.mono s10.ex) rtp (SameN.refl (by decide)) ?_
    refine ⟨false, rfl, ifF rfl ?_⟩
    -- net(batch[:1])
    refine (Ev.eq (d' := .lst ((B13a.take 1).map encCh)) (ev_sl (ev_var (i := 1) rfl) eo_none (eo_some (ev_int (i := 1))) sd_L) (by rfl) : Ev K [] _ [] _ _ []) B10 H10 σ4 o10 _ fun v11 B11 H11 s11 o11 r11 => ?_
    have r11 : Rp K B11 v11 (.lst ((B13a.take 1).map encCh)) := r11
    refine ⟨B11, B13a.take 1, v11, T13, rfl, o11.ex, r11, by decide, fun x hx => ha x (List.mem_of_mem_take hx), fun nb kvb B12 H12 s12 e12 hnb hnbB hnbH rtb => ?_⟩
    rw [bn2] at rtb
    refine dispT_go (pr := (some [4, -2], none)) (o11.step0 s12 e12) (by (repeat (first | exact ev_int | exact ev_str | exact ev_non | exact el_nil | exact ev_npow6 | exact ev_pow6 | exact ev_negK | exact ev_var rfl | refine el_cons ?_ ?_ | refine ev_tupL ?_ (by decide) | refine ev_lstL ?_ (by decide)))) (by (repeat (first | exact ev_int | exact ev_str | exact ev_non | exact el_nil | exact ev_npow6 | exact ev_pow6 | exact ev_negK | exact ev_var rfl | refine el_cons ?_ ?_ | refine ev_tupL ?_ (by decide) | refine ev_lstL ?_ (by decide)))) fun p2 kvp2 B13 H13 s13 o13 hp2 hpB2 rtp2 => ?_
    refine ne_same o13.ex (s13.fr _ _ (by simp) hnb) hp2 (rtb.mono s13.ex) rtp2 (SameN.refl (by decide)) ?_
    refine ⟨false, rfl, ifF rfl ?_⟩
    refine st_next ?_
    dsimp only []
    -- net([..]) == {} and net([]) == {}
    have evb : Ev K [] [.dat (.fro (ns.map D.int)), .dat (.lst (B13a.map encCh)), .any, .val (.ref s)] [] (tLst (tCons (tTup (tCons (tC (.str "insert")) (tCons (tC (.str "region")) (tCons (tTup (tCons (tC (.int 1)) (tCons (tC (.int 1)) tNil))) tNil)))) (tCons (tTup (tCons (tC (.str "delete")) (tCons (tC (.str "region")) (tCons (tTup (tCons (tC (.int 1)) (tCons (tC (.int 1)) tNil))) tNil)))) tNil))) (.dat (.lst (B13b.map encCh))) [] := by (repeat (first | exact ev_int | exact ev_str | exact ev_non | exact el_nil | exact ev_npow6 | exact ev_pow6 | exact ev_negK | exact ev_var rfl | refine el_cons ?_ ?_ | refine ev_tupL ?_ (by decide) | refine ev_lstL ?_ (by decide)))
    refine andT_go ?_
    refine evb B13 H13 σ4 o13 _ fun v14 B14 H14 s14 o14 r14 => ?_
    have r14 : Rp K B14 v14 (.lst (B13b.map encCh)) := r14
    refine ⟨B14, B13b, v14, T13, rfl, o14.ex, r14, by decide, hb, fun nc kvc B15 H15 s15 e15 hnc hncB hncH rtc => ?_⟩
    rw [bn3] at rtc
    refine fun dz hdz => ?_
    have s16 : Stp [] B15 H15 B15 (upd H15 dz (.dT [])) := stp_upd (Stp.refl _ _ _) hdz
    have e16 : Ex B15 (upd H15 dz (.dT [])) := ex_upd e15 (e15.free hdz)
    refine eq_same e16 (s16.fr _ _ (by simp) hnc) upd_same rtc .nil (SameN.refl List.nodup_nil) ?_
    generalize upd H15 dz (.dT []) = H16 at s16 e16
    refine ⟨true, rfl, ifT rfl ?_⟩
    have o16 := (o14.step0 s15 e15).step0 s16 e16
    have eve : Ev K [] [.dat (.fro (ns.map D.int)), .dat (.lst (B13a.map encCh)), .any, .val (.ref s)] [] (tLst tNil) (.dat (.lst (([] : List Ch).map encCh))) [] := by (repeat (first | exact ev_int | exact ev_str | exact ev_non | exact el_nil | exact ev_npow6 | exact ev_pow6 | exact ev_negK | exact ev_var rfl | refine el_cons ?_ ?_ | refine ev_tupL ?_ (by decide) | refine ev_lstL ?_ (by decide)))
    refine opT_go ?_
    refine eve B15 H16 σ4 o16 _ fun v17 B17 H17 s17 o17 r17 => ?_
    have r17 : Rp K B17 v17 (.lst (([] : List Ch).map encCh)) := r17
    refine ⟨B17, [], v17, T13, rfl, o17.ex, r17, by decide, (fun x hx => by cases hx), fun ne kve B18 H18 s18 e18 hne hneB hneH rte => ?_⟩
    refine fun dy hdy => ?_
    have s19 : Stp [] B18 H18 B18 (upd H18 dy (.dT [])) := stp_upd (Stp.refl _ _ _) hdy
    have e19 : Ex B18 (upd H18 dy (.dT [])) := ex_upd e18 (e18.free hdy)
    refine eq_same e19 (s19.fr _ _ (by simp) hne) upd_same (show RT K B18 kve [] from rte) .nil (SameN.refl List.nodup_nil) ?_
    generalize upd H18 dy (.dT []) = H19 at s19 e19
    have sA : Stp [] B6 H6 B18 H19 := s68.trans (s9.trans (s10.trans (s11.trans (s12.trans (s13.trans (s14.trans (s15.trans (s16.trans (s17.trans (s18.trans s19))))))))))
    have sZ : Stp [] B0 H0 B18 H19 := stp_less (P := [s]) ((s1.mono (by simp)).trans ((s2.mono (by simp)).trans ((s4.mono (by simp)).trans ((s5.mono (by simp)).trans (s6.trans (sA.mono (by simp))))))) fun x hx => .inr (by
      rw [List.mem_singleton.mp hx]
      cases e : H0 s with
      | none => rfl
      | some u => obtain ⟨u', h'⟩ := s1.dm s u e; rw [hs2] at h'; cases h')
    exact hd _ B18 H19 sZ e19 True.intro (.bl true)
end
end T3
namespace T3
open PySem L2 DV PM SP LK NV IX
theorem rpa_ints {K : PySem.W.Frag} {B : Hp} : ∀ ns : List Int, RpA K B (ns.map V.int) (ns.map D.int)
  | [] => .nil
  | n :: r => .cons (.int n) (rpa_ints r)
/-- an error of the class at S is what «except S» names -/
theorem exm_self {K : PySem.W.Frag} {S : Addr} (h1 : PySem.W.subIn K (.ref S) (.type "BaseException") = some true) (h2 : PySem.W.isClsIn K S = true) (h3 : PySem.W.typeIn K (.ref S) = some (.type "type")) (h4 : PySem.W.subIn K (.ref S) (.ref S) = some true) :
    PySem.W.exmOne K (.ref S) (.ref S) = some true := by
  have e1 : (PySem.W.subIn K (.ref S) (.type "BaseException") == some true) = true := by rw [h1] <;> rfl
  have e2 : ((PySem.W.clsIn K S).isSome && PySem.W.typeIn K (.ref S) == some (.type "type")) = true := by
    have h2' : (PySem.W.clsIn K S).isSome = true := h2
    rw [h2', h3] <;> rfl
  show (if (PySem.W.subIn K (.ref S) (.type "BaseException") == some true) = true then (if ((PySem.W.clsIn K S).isSome && PySem.W.typeIn K (.ref S) == some (.type "type")) = true then PySem.W.subIn K (.ref S) (.ref S) else none) else none) = some true
  rw [if_pos e1, if_pos e2]
  exact h4
theorem all_mk {l : PySem.W.OpenLaw} {w : World} {K : PySem.W.Frag} {h : Heap} {mg : Str → Option Value} {fa C CB pC : Addr} {mc : Value} {pRest : List Value} (X : K.In h) (G : h.Ns mainGlobals mg) (hfa : mg "law" = some (.ref fa))
    {fm0 : Addr} {odm0 anm0 : Option Addr} {slm0 : Array (Option Value)} {ocm0 kVm0 dcm0 pmm0 cdm0 ctm0 : Value}
    {fm1 : Addr} {odm1 anm1 : Option Addr} {slm1 : Array (Option Value)} {ocm1 kVm1 dcm1 pmm1 cdm1 ctm1 : Value}
    {fm2 : Addr} {odm2 anm2 : Option Addr} {slm2 : Array (Option Value)} {ocm2 kVm2 dcm2 pmm2 cdm2 ctm2 : Value}
    {fm3 : Addr} {odm3 anm3 : Option Addr} {slm3 : Array (Option Value)} {ocm3 kVm3 dcm3 pmm3 cdm3 ctm3 : Value}
    {fm4 : Addr} {odm4 anm4 : Option Addr} {slm4 : Array (Option Value)} {ocm4 kVm4 dcm4 pmm4 cdm4 ctm4 : Value}
    {fm5 : Addr} {odm5 anm5 : Option Addr} {slm5 : Array (Option Value)} {ocm5 kVm5 dcm5 pmm5 cdm5 ctm5 : Value}
    {fm6 : Addr} {odm6 anm6 : Option Addr} {slm6 : Array (Option Value)} {ocm6 kVm6 dcm6 pmm6 cdm6 ctm6 : Value}
    {fm7 : Addr} {odm7 anm7 : Option Addr} {slm7 : Array (Option Value)} {ocm7 kVm7 dcm7 pmm7 cdm7 ctm7 : Value}
    {fm8 : Addr} {odm8 anm8 : Option Addr} {slm8 : Array (Option Value)} {ocm8 kVm8 dcm8 pmm8 cdm8 ctm8 : Value}
    {fm9 : Addr} {odm9 anm9 : Option Addr} {slm9 : Array (Option Value)} {ocm9 kVm9 dcm9 pmm9 cdm9 ctm9 : Value}
    {fm10 : Addr} {odm10 anm10 : Option Addr} {slm10 : Array (Option Value)} {ocm10 kVm10 dcm10 pmm10 cdm10 ctm10 : Value}
    {fm11 : Addr} {odm11 anm11 : Option Addr} {slm11 : Array (Option Value)} {ocm11 kVm11 dcm11 pmm11 cdm11 ctm11 : Value}
    {fm12 : Addr} {odm12 anm12 : Option Addr} {slm12 : Array (Option Value)} {ocm12 kVm12 dcm12 pmm12 cdm12 ctm12 : Value}
    {fm13 : Addr} {odm13 anm13 : Option Addr} {slm13 : Array (Option Value)} {ocm13 kVm13 dcm13 pmm13 cdm13 ctm13 : Value}
    {fm14 : Addr} {odm14 anm14 : Option Addr} {slm14 : Array (Option Value)} {ocm14 kVm14 dcm14 pmm14 cdm14 ctm14 : Value}
    {fm15 : Addr} {odm15 anm15 : Option Addr} {slm15 : Array (Option Value)} {ocm15 kVm15 dcm15 pmm15 cdm15 ctm15 : Value}
    {fc0 : Addr} {odc0 anc0 : Option Addr} {slc0 : Array (Option Value)} {occ0 kVc0 dcc0 pmc0 cdc0 ctc0 : Value}
    {fc1 : Addr} {odc1 anc1 : Option Addr} {slc1 : Array (Option Value)} {occ1 kVc1 dcc1 pmc1 cdc1 ctc1 : Value}
    {fc2 : Addr} {odc2 anc2 : Option Addr} {slc2 : Array (Option Value)} {occ2 kVc2 dcc2 pmc2 cdc2 ctc2 : Value}
    {fc3 : Addr} {odc3 anc3 : Option Addr} {slc3 : Array (Option Value)} {occ3 kVc3 dcc3 pmc3 cdc3 ctc3 : Value}
    {fb0 : Addr} {odb0 anb0 : Option Addr} {slb0 : Array (Option Value)} {ocb0 kVb0 dcb0 pmb0 cdb0 ctb0 : Value}
    {fb1 : Addr} {odb1 anb1 : Option Addr} {slb1 : Array (Option Value)} {ocb1 kVb1 dcb1 pmb1 cdb1 ctb1 : Value}
    {fb2 : Addr} {odb2 anb2 : Option Addr} {slb2 : Array (Option Value)} {ocb2 kVb2 dcb2 pmb2 cdb2 ctb2 : Value}
    {fb3 : Addr} {odb3 anb3 : Option Addr} {slb3 : Array (Option Value)} {ocb3 kVb3 dcb3 pmb3 cdb3 ctb3 : Value}
    {fb4 : Addr} {odb4 anb4 : Option Addr} {slb4 : Array (Option Value)} {ocb4 kVb4 dcb4 pmb4 cdb4 ctb4 : Value}
    {fb5 : Addr} {odb5 anb5 : Option Addr} {slb5 : Array (Option Value)} {ocb5 kVb5 dcb5 pmb5 cdb5 ctb5 : Value}
    {fb6 : Addr} {odb6 anb6 : Option Addr} {slb6 : Array (Option Value)} {ocb6 kVb6 dcb6 pmb6 cdb6 ctb6 : Value}
    {fb7 : Addr} {odb7 anb7 : Option Addr} {slb7 : Array (Option Value)} {ocb7 kVb7 dcb7 pmb7 cdb7 ctb7 : Value}
    {fb8 : Addr} {odb8 anb8 : Option Addr} {slb8 : Array (Option Value)} {ocb8 kVb8 dcb8 pmb8 cdb8 ctb8 : Value}
    {fb9 : Addr} {odb9 anb9 : Option Addr} {slb9 : Array (Option Value)} {ocb9 kVb9 dcb9 pmb9 cdb9 ctb9 : Value}
    {dT eT : Addr} {tcl : Value} {tdd edd : Option Addr} {tn en : Nat} {tsl esl : Array (Option Value)}
    {CI fI VE : Addr} {nmI qI : Str} {NI : Addr} {bsI : List Value} {snI : List Str} {subI : List Value} {abI : Bool} {colI : Option Bool} {ddI : Option Addr} {mI0 mI1 mI2 mI3 mI5 : Option Value} {odI anI : Option Addr} {slI : Array (Option Value)} {ocI dcI pmI cdI ctI : Value}
    {tk_MOST_LETTERS : Tok}
    {tk_MOST_TABLES : Tok}
    {tk_MOST_PLAIN : Tok}
    {tk_MOST_REFERENCES : Tok}
    {tk_MOST_REFERENCES_IN_ALL : Tok}
    (am0 : PySem.W.nsIn K mainGlobals "old_and_new" = some (some (.ref fm0)))
    (lm0 : K.lookup fm0 = some ⟨ocm0, odm0, .func (PySem.W.fnOf "old_and_new" "old_and_new" (defArgs s_old_and_new) (defBody s_old_and_new) (defScope s_old_and_new) .none kVm0 dcm0 pmm0 anm0 cdm0 ctm0), slm0⟩)
    (cm0 : PySem.W.codeIn K cdm0 "old_and_new" = true)
    (km0 : PySem.W.keepIn K (.ref fm0) = true)
    (am1 : PySem.W.nsIn K mainGlobals "led_to" = some (some (.ref fm1)))
    (lm1 : K.lookup fm1 = some ⟨ocm1, odm1, .func (PySem.W.fnOf "led_to" "led_to" (defArgs s_led_to) (defBody s_led_to) (defScope s_led_to) .none kVm1 dcm1 pmm1 anm1 cdm1 ctm1), slm1⟩)
    (cm1 : PySem.W.codeIn K cdm1 "led_to" = true)
    (km1 : PySem.W.keepIn K (.ref fm1) = true)
    (am2 : PySem.W.nsIn K mainGlobals "net" = some (some (.ref fm2)))
    (lm2 : K.lookup fm2 = some ⟨ocm2, odm2, .func (PySem.W.fnOf "net" "net" (defArgs s_net) (defBody s_net) (defScope s_net) .none kVm2 dcm2 pmm2 anm2 cdm2 ctm2), slm2⟩)
    (cm2 : PySem.W.codeIn K cdm2 "net" = true)
    (km2 : PySem.W.keepIn K (.ref fm2) = true)
    (am3 : PySem.W.nsIn K mainGlobals "is_name" = some (some (.ref fm3)))
    (lm3 : K.lookup fm3 = some ⟨ocm3, odm3, .func (PySem.W.fnOf "is_name" "is_name" (defArgs s_is_name) (defBody s_is_name) (defScope s_is_name) .none kVm3 dcm3 pmm3 anm3 cdm3 ctm3), slm3⟩)
    (cm3 : PySem.W.codeIn K cdm3 "is_name" = true)
    (km3 : PySem.W.keepIn K (.ref fm3) = true)
    (am4 : PySem.W.nsIn K mainGlobals "is_new_name" = some (some (.ref fm4)))
    (lm4 : K.lookup fm4 = some ⟨ocm4, odm4, .func (PySem.W.fnOf "is_new_name" "is_new_name" (defArgs s_is_new_name) (defBody s_is_new_name) (defScope s_is_new_name) .none kVm4 dcm4 pmm4 anm4 cdm4 ctm4), slm4⟩)
    (cm4 : PySem.W.codeIn K cdm4 "is_new_name" = true)
    (km4 : PySem.W.keepIn K (.ref fm4) = true)
    (am5 : PySem.W.nsIn K mainGlobals "text_rows" = some (some (.ref fm5)))
    (lm5 : K.lookup fm5 = some ⟨ocm5, odm5, .func (PySem.W.fnOf "text_rows" "text_rows" (defArgs s_text_rows) (defBody s_text_rows) (defScope s_text_rows) .none kVm5 dcm5 pmm5 anm5 cdm5 ctm5), slm5⟩)
    (cm5 : PySem.W.codeIn K cdm5 "text_rows" = true)
    (km5 : PySem.W.keepIn K (.ref fm5) = true)
    (am6 : PySem.W.nsIn K mainGlobals "column_row" = some (some (.ref fm6)))
    (lm6 : K.lookup fm6 = some ⟨ocm6, odm6, .func (PySem.W.fnOf "column_row" "column_row" (defArgs s_column_row) (defBody s_column_row) (defScope s_column_row) .none kVm6 dcm6 pmm6 anm6 cdm6 ctm6), slm6⟩)
    (cm6 : PySem.W.codeIn K cdm6 "column_row" = true)
    (km6 : PySem.W.keepIn K (.ref fm6) = true)
    (am7 : PySem.W.nsIn K mainGlobals "read_tables" = some (some (.ref fm7)))
    (lm7 : K.lookup fm7 = some ⟨ocm7, odm7, .func (PySem.W.fnOf "read_tables" "read_tables" (defArgs s_read_tables) (defBody s_read_tables) (defScope s_read_tables) .none kVm7 dcm7 pmm7 anm7 cdm7 ctm7), slm7⟩)
    (cm7 : PySem.W.codeIn K cdm7 "read_tables" = true)
    (km7 : PySem.W.keepIn K (.ref fm7) = true)
    (am8 : PySem.W.nsIn K mainGlobals "begins_table" = some (some (.ref fm8)))
    (lm8 : K.lookup fm8 = some ⟨ocm8, odm8, .func (PySem.W.fnOf "begins_table" "begins_table" (defArgs s_begins_table) (defBody s_begins_table) (defScope s_begins_table) .none kVm8 dcm8 pmm8 anm8 cdm8 ctm8), slm8⟩)
    (cm8 : PySem.W.codeIn K cdm8 "begins_table" = true)
    (km8 : PySem.W.keepIn K (.ref fm8) = true)
    (am9 : PySem.W.nsIn K mainGlobals "adds_plain" = some (some (.ref fm9)))
    (lm9 : K.lookup fm9 = some ⟨ocm9, odm9, .func (PySem.W.fnOf "adds_plain" "adds_plain" (defArgs s_adds_plain) (defBody s_adds_plain) (defScope s_adds_plain) .none kVm9 dcm9 pmm9 anm9 cdm9 ctm9), slm9⟩)
    (cm9 : PySem.W.codeIn K cdm9 "adds_plain" = true)
    (km9 : PySem.W.keepIn K (.ref fm9) = true)
    (am10 : PySem.W.nsIn K mainGlobals "adds_reference" = some (some (.ref fm10)))
    (lm10 : K.lookup fm10 = some ⟨ocm10, odm10, .func (PySem.W.fnOf "adds_reference" "adds_reference" (defArgs s_adds_reference) (defBody s_adds_reference) (defScope s_adds_reference) .none kVm10 dcm10 pmm10 anm10 cdm10 ctm10), slm10⟩)
    (cm10 : PySem.W.codeIn K cdm10 "adds_reference" = true)
    (km10 : PySem.W.keepIn K (.ref fm10) = true)
    (am11 : PySem.W.nsIn K mainGlobals "count_references" = some (some (.ref fm11)))
    (lm11 : K.lookup fm11 = some ⟨ocm11, odm11, .func (PySem.W.fnOf "count_references" "count_references" (defArgs s_count_references) (defBody s_count_references) (defScope s_count_references) .none kVm11 dcm11 pmm11 anm11 cdm11 ctm11), slm11⟩)
    (cm11 : PySem.W.codeIn K cdm11 "count_references" = true)
    (km11 : PySem.W.keepIn K (.ref fm11) = true)
    (am12 : PySem.W.nsIn K mainGlobals "_law_base" = some (some (.ref fm12)))
    (lm12 : K.lookup fm12 = some ⟨ocm12, odm12, .func (PySem.W.fnOf "_law_base" "_law_base" (defArgs s_l_base) (defBody s_l_base) (defScope s_l_base) .none kVm12 dcm12 pmm12 anm12 cdm12 ctm12), slm12⟩)
    (cm12 : PySem.W.codeIn K cdm12 "_law_base" = true)
    (km12 : PySem.W.keepIn K (.ref fm12) = true)
    (am13 : PySem.W.nsIn K mainGlobals "_law_refused" = some (some (.ref fm13)))
    (lm13 : K.lookup fm13 = some ⟨ocm13, odm13, .func (PySem.W.fnOf "_law_refused" "_law_refused" (defArgs s_l_refused) (defBody s_l_refused) (defScope s_l_refused) .none kVm13 dcm13 pmm13 anm13 cdm13 ctm13), slm13⟩)
    (cm13 : PySem.W.codeIn K cdm13 "_law_refused" = true)
    (km13 : PySem.W.keepIn K (.ref fm13) = true)
    (am14 : PySem.W.nsIn K mainGlobals "_law_batches" = some (some (.ref fm14)))
    (lm14 : K.lookup fm14 = some ⟨ocm14, odm14, .func (PySem.W.fnOf "_law_batches" "_law_batches" (defArgs s_l_batches) (defBody s_l_batches) (defScope s_l_batches) .none kVm14 dcm14 pmm14 anm14 cdm14 ctm14), slm14⟩)
    (cm14 : PySem.W.codeIn K cdm14 "_law_batches" = true)
    (km14 : PySem.W.keepIn K (.ref fm14) = true)
    (am15 : PySem.W.nsIn K mainGlobals "law" = some (some (.ref fm15)))
    (lm15 : K.lookup fm15 = some ⟨ocm15, odm15, .func (PySem.W.fnOf "law" "law" (defArgs s_law) (defBody s_law) (defScope s_law) .none kVm15 dcm15 pmm15 anm15 cdm15 ctm15), slm15⟩)
    (cm15 : PySem.W.codeIn K cdm15 "law" = true)
    (km15 : PySem.W.keepIn K (.ref fm15) = true)
    (ac0 : PySem.W.findIn K (.ref C) "__init__" = some (some (.ref fc0)))
    (ic0 : PySem.W.isFn K (.ref fc0) = true)
    (kc0 : PySem.W.keepIn K (.ref fc0) = true)
    (lc0 : K.lookup fc0 = some ⟨occ0, odc0, .func (PySem.W.fnOf "__init__" "Schema.__init__" (defArgs s_Schema_init_) (defBody s_Schema_init_) (defScope s_Schema_init_) .none kVc0 dcc0 pmc0 anc0 cdc0 ctc0), slc0⟩)
    (cc0 : PySem.W.codeIn K cdc0 "Schema.__init__" = true)
    (rd : PySem.W.readsIn K C mc = true)
    (ga : PySem.W.specialIn K (.ref C) "__getattribute__" = some (some (.builtin "type.__getattribute__")))
    (pa : PySem.W.findCls K (.ref C) mc "parse" = some (.get (.builtin "classmethod.__get__") (.ref pC) .none (.ref C)))
    (pr : PySem.W.recIn K pC "classmethod" = some (.ref fc1 :: pRest))
    (pf : PySem.W.fnIn K fc1 = true)
    (kc1 : PySem.W.keepIn K (.ref fc1) = true)
    (lc1 : K.lookup fc1 = some ⟨occ1, odc1, .func (PySem.W.fnOf "parse" "Schema.parse" (defArgs s_Schema_parse) (defBody s_Schema_parse) (defScope s_Schema_parse) .none kVc1 dcc1 pmc1 anc1 cdc1 ctc1), slc1⟩)
    (cc1 : PySem.W.codeIn K cdc1 "Schema.parse" = true)
    (ac2 : PySem.W.findIn K (.ref C) "__eq__" = some (some (.ref fc2)))
    (ic2 : PySem.W.isFn K (.ref fc2) = true)
    (kc2 : PySem.W.keepIn K (.ref fc2) = true)
    (lc2 : K.lookup fc2 = some ⟨occ2, odc2, .func (PySem.W.fnOf "__eq__" "Schema.__eq__" (defArgs s_Schema_eq_) (defBody s_Schema_eq_) (defScope s_Schema_eq_) .none kVc2 dcc2 pmc2 anc2 cdc2 ctc2), slc2⟩)
    (cc2 : PySem.W.codeIn K cdc2 "Schema.__eq__" = true)
    (ac3 : PySem.W.findIn K (.ref C) "columns" = some (some (.ref fc3)))
    (ic3 : PySem.W.isFn K (.ref fc3) = true)
    (kc3 : PySem.W.keepIn K (.ref fc3) = true)
    (lc3 : K.lookup fc3 = some ⟨occ3, odc3, .func (PySem.W.fnOf "columns" "Schema.columns" (defArgs s_Schema_columns) (defBody s_Schema_columns) (defScope s_Schema_columns) .none kVc3 dcc3 pmc3 anc3 cdc3 ctc3), slc3⟩)
    (cc3 : PySem.W.codeIn K cdc3 "Schema.columns" = true)
    (ab0 : PySem.W.findIn K (.ref CB) "__init__" = some (some (.ref fb0)))
    (ib0 : PySem.W.isFn K (.ref fb0) = true)
    (kb0 : PySem.W.keepIn K (.ref fb0) = true)
    (lb0 : K.lookup fb0 = some ⟨ocb0, odb0, .func (PySem.W.fnOf "__init__" "Base.__init__" (defArgs s_Base_init_) (defBody s_Base_init_) (defScope s_Base_init_) (.ref dT) kVb0 dcb0 pmb0 anb0 cdb0 ctb0), slb0⟩)
    (cb0 : PySem.W.codeIn K cdb0 "Base.__init__" = true)
    (ab1 : PySem.W.findIn K (.ref CB) "__eq__" = some (some (.ref fb1)))
    (ib1 : PySem.W.isFn K (.ref fb1) = true)
    (kb1 : PySem.W.keepIn K (.ref fb1) = true)
    (lb1 : K.lookup fb1 = some ⟨ocb1, odb1, .func (PySem.W.fnOf "__eq__" "Base.__eq__" (defArgs s_Base_eq_) (defBody s_Base_eq_) (defScope s_Base_eq_) .none kVb1 dcb1 pmb1 anb1 cdb1 ctb1), slb1⟩)
    (cb1 : PySem.W.codeIn K cdb1 "Base.__eq__" = true)
    (ab2 : PySem.W.findIn K (.ref CB) "rows" = some (some (.ref fb2)))
    (ib2 : PySem.W.isFn K (.ref fb2) = true)
    (kb2 : PySem.W.keepIn K (.ref fb2) = true)
    (lb2 : K.lookup fb2 = some ⟨ocb2, odb2, .func (PySem.W.fnOf "rows" "Base.rows" (defArgs s_Base_rows) (defBody s_Base_rows) (defScope s_Base_rows) .none kVb2 dcb2 pmb2 anb2 cdb2 ctb2), slb2⟩)
    (cb2 : PySem.W.codeIn K cdb2 "Base.rows" = true)
    (ab3 : PySem.W.findIn K (.ref CB) "row_at" = some (some (.ref fb3)))
    (ib3 : PySem.W.isFn K (.ref fb3) = true)
    (kb3 : PySem.W.keepIn K (.ref fb3) = true)
    (lb3 : K.lookup fb3 = some ⟨ocb3, odb3, .func (PySem.W.fnOf "row_at" "Base.row_at" (defArgs s_Base_row_at) (defBody s_Base_row_at) (defScope s_Base_row_at) .none kVb3 dcb3 pmb3 anb3 cdb3 ctb3), slb3⟩)
    (cb3 : PySem.W.codeIn K cdb3 "Base.row_at" = true)
    (ab4 : PySem.W.findIn K (.ref CB) "fork" = some (some (.ref fb4)))
    (ib4 : PySem.W.isFn K (.ref fb4) = true)
    (kb4 : PySem.W.keepIn K (.ref fb4) = true)
    (lb4 : K.lookup fb4 = some ⟨ocb4, odb4, .func (PySem.W.fnOf "fork" "Base.fork" (defArgs s_Base_fork) (defBody s_Base_fork) (defScope s_Base_fork) .none kVb4 dcb4 pmb4 anb4 cdb4 ctb4), slb4⟩)
    (cb4 : PySem.W.codeIn K cdb4 "Base.fork" = true)
    (ab5 : PySem.W.findIn K (.ref CB) "make" = some (some (.ref fb5)))
    (ib5 : PySem.W.isFn K (.ref fb5) = true)
    (kb5 : PySem.W.keepIn K (.ref fb5) = true)
    (lb5 : K.lookup fb5 = some ⟨ocb5, odb5, .func (PySem.W.fnOf "make" "Base.make" (defArgs s_Base_make) (defBody s_Base_make) (defScope s_Base_make) .none kVb5 dcb5 pmb5 anb5 cdb5 ctb5), slb5⟩)
    (cb5 : PySem.W.codeIn K cdb5 "Base.make" = true)
    (ab6 : PySem.W.findIn K (.ref CB) "is_allowed" = some (some (.ref fb6)))
    (ib6 : PySem.W.isFn K (.ref fb6) = true)
    (kb6 : PySem.W.keepIn K (.ref fb6) = true)
    (lb6 : K.lookup fb6 = some ⟨ocb6, odb6, .func (PySem.W.fnOf "is_allowed" "Base.is_allowed" (defArgs s_Base_is_allowed) (defBody s_Base_is_allowed) (defScope s_Base_is_allowed) .none kVb6 dcb6 pmb6 anb6 cdb6 ctb6), slb6⟩)
    (cb6 : PySem.W.codeIn K cdb6 "Base.is_allowed" = true)
    (ab7 : PySem.W.findIn K (.ref CB) "_advance" = some (some (.ref fb7)))
    (ib7 : PySem.W.isFn K (.ref fb7) = true)
    (kb7 : PySem.W.keepIn K (.ref fb7) = true)
    (lb7 : K.lookup fb7 = some ⟨ocb7, odb7, .func (PySem.W.fnOf "_advance" "Base._advance" (defArgs s_Base_advance) (defBody s_Base_advance) (defScope s_Base_advance) .none kVb7 dcb7 pmb7 anb7 cdb7 ctb7), slb7⟩)
    (cb7 : PySem.W.codeIn K cdb7 "Base._advance" = true)
    (ab8 : PySem.W.findIn K (.ref CB) "_allows" = some (some (.ref fb8)))
    (ib8 : PySem.W.isFn K (.ref fb8) = true)
    (kb8 : PySem.W.keepIn K (.ref fb8) = true)
    (lb8 : K.lookup fb8 = some ⟨ocb8, odb8, .func (PySem.W.fnOf "_allows" "Base._allows" (defArgs s_Base_allows) (defBody s_Base_allows) (defScope s_Base_allows) .none kVb8 dcb8 pmb8 anb8 cdb8 ctb8), slb8⟩)
    (cb8 : PySem.W.codeIn K cdb8 "Base._allows" = true)
    (ab9 : PySem.W.findIn K (.ref CB) "_is_led_to" = some (some (.ref fb9)))
    (ib9 : PySem.W.isFn K (.ref fb9) = true)
    (kb9 : PySem.W.keepIn K (.ref fb9) = true)
    (lb9 : K.lookup fb9 = some ⟨ocb9, odb9, .func (PySem.W.fnOf "_is_led_to" "Base._is_led_to" (defArgs s_Base_is_led_to) (defBody s_Base_is_led_to) (defScope s_Base_is_led_to) .none kVb9 dcb9 pmb9 anb9 cdb9 ctb9), slb9⟩)
    (cb9 : PySem.W.codeIn K cdb9 "Base._is_led_to" = true)
    (lT : K.lookup dT = some ⟨tcl, tdd, .seq #[.ref eT] tn, tsl⟩)
    (lE : K.lookup eT = some ⟨.type "tuple", edd, .seq #[] en, esl⟩)
    (aC : PySem.W.nsIn K mainGlobals "Schema" = some (some (.ref C)))
    (pg : PySem.W.plainGet K C Str.empty = true)
    (hd : PySem.W.hasDictIn K C = true)
    (po : PySem.W.plainOver K C = true)
    (sa : PySem.W.findIn K (.ref C) "__setattr__" = some (some (.builtin "object.__setattr__")))
    (mk : PySem.W.makesIn K C = true)
    (kc : PySem.W.keepIn K (.ref C) = true)
    (n1 : PySem.W.findIn K (.ref C) "tables" = some none)
    (n2 : PySem.W.findIn K (.ref C) "_columns" = some none)
    (n3 : PySem.W.findIn K (.ref C) "_rows" = some none)
    (ha : PySem.W.findIn K (.ref C) "__class__" = some (some (.builtin "object.__class__")))
    (hm : PySem.W.mroIn K C (.type "object") = some true)
    (ne : PySem.W.findIn K (.ref C) "__ne__" = some (some (.builtin "object.__ne__")))
    (eY : PySem.W.typeIn K (.ref C) = some (.type "type"))
    (eZ : PySem.W.isClsIn K C = true)
    (aCB : PySem.W.nsIn K mainGlobals "Base" = some (some (.ref CB)))
    (pgB : PySem.W.plainGet K CB Str.empty = true)
    (hdB : PySem.W.hasDictIn K CB = true)
    (poB : PySem.W.plainOver K CB = true)
    (saB : PySem.W.findIn K (.ref CB) "__setattr__" = some (some (.builtin "object.__setattr__")))
    (mkB : PySem.W.makesIn K CB = true)
    (kcB : PySem.W.keepIn K (.ref CB) = true)
    (n1B : PySem.W.findIn K (.ref CB) "schema" = some none)
    (n2B : PySem.W.findIn K (.ref CB) "_tables" = some none)
    (haB : PySem.W.findIn K (.ref CB) "__class__" = some (some (.builtin "object.__class__")))
    (hmB : PySem.W.mroIn K CB (.type "object") = some true)
    (neB : PySem.W.findIn K (.ref CB) "__ne__" = some (some (.builtin "object.__ne__")))
    (eYB : PySem.W.typeIn K (.ref CB) = some (.type "type"))
    (eZB : PySem.W.isClsIn K CB = true)
    (hn : PySem.W.specialIn K (.builtin "object.__class__") "__get__" = some (some (.builtin "getset_descriptor.__get__")))
    (htk : PySem.W.takesIn K (.builtin "object.__class__") = some true)
    (nq : (Value.ref C == Value.ref CB) = false)
    (sq : PySem.W.subIn K (.ref C) (.ref CB) = some false)
    (eA : PySem.W.nsIn K mainGlobals "NotAllowed" = some (some (.ref CI)))
    (eL : K.lookup CI = some (excClassObj nmI qI CI NI bsI [.ref VE, .type "ValueError", .type "Exception", .type "BaseException", .type "object"] true snI subI abI colI ddI mI0 mI1 mI2 mI3 mI5 "ValueError.__new__"))
    (eS : PySem.W.findIn K (.ref CI) "__setattr__" = some (some (.builtin "object.__setattr__")))
    (eG : PySem.W.findIn K (.ref CI) "__getattribute__" = some (some (.builtin "BaseException.__getattribute__")))
    (eg : PySem.W.findIn K (.ref CI) "__getattr__" = some none)
    (eN : PySem.W.findIn K (.ref CI) "index" = some none)
    (eI : PySem.W.findIn K (.ref CI) "__init__" = some (some (.ref fI)))
    (eT0 : PySem.W.typeIn K (.ref fI) = some (.type "function"))
    (eF : K.lookup fI = some ⟨ocI, odI, .func (PySem.W.fnOf "__init__" "NotAllowed.__init__" (PySem.BadA.iA ⟨10, 17, 10, 21⟩ ⟨10, 23, 10, 28⟩) (PySem.BadA.iB ⟨11, 8, 11, 12⟩ ⟨11, 8, 11, 18⟩ ⟨11, 21, 11, 26⟩ ⟨11, 8, 11, 26⟩) PySem.BadA.iS .none .none dcI pmI anI cdI ctI), slI⟩)
    (eC : PySem.W.codeIn K cdI "NotAllowed.__init__" = true)
    (eK : PySem.W.keepIn K (.ref CI) = true)
    (eX : PySem.W.subIn K (.ref CI) (.type "BaseException") = some true)
    (eYI : PySem.W.typeIn K (.ref CI) = some (.type "type"))
    (eH : PySem.W.hasDictIn K CI = true)
    (eZI : PySem.W.isClsIn K CI = true)
    (eU : PySem.W.subIn K (.ref CI) (.ref CI) = some true)
    (b_len : PySem.W.nsIn K mainGlobals "len" = some none)
    (b_abs : PySem.W.nsIn K mainGlobals "abs" = some none)
    (b_max : PySem.W.nsIn K mainGlobals "max" = some none)
    (b_min : PySem.W.nsIn K mainGlobals "min" = some none)
    (b_int : PySem.W.nsIn K mainGlobals "int" = some none)
    (b_range : PySem.W.nsIn K mainGlobals "range" = some none)
    (b_enumerate : PySem.W.nsIn K mainGlobals "enumerate" = some none)
    (b_isinstance : PySem.W.nsIn K mainGlobals "isinstance" = some none)
    (b_tuple : PySem.W.nsIn K mainGlobals "tuple" = some none)
    (b_all : PySem.W.nsIn K mainGlobals "all" = some none)
    (b_zip : PySem.W.nsIn K mainGlobals "zip" = some none)
    (b_sum : PySem.W.nsIn K mainGlobals "sum" = some none)
    (b_str : PySem.W.nsIn K mainGlobals "str" = some none)
    (b_repr : PySem.W.nsIn K mainGlobals "repr" = some none)
    (b_list : PySem.W.nsIn K mainGlobals "list" = some none)
    (b_dict : PySem.W.nsIn K mainGlobals "dict" = some none)
    (b_sorted : PySem.W.nsIn K mainGlobals "sorted" = some none)
    (g_MOST_LETTERS : PySem.W.nsIn K mainGlobals "MOST_LETTERS" = some (some (.int 8 tk_MOST_LETTERS)))
    (g_MOST_TABLES : PySem.W.nsIn K mainGlobals "MOST_TABLES" = some (some (.int 3 tk_MOST_TABLES)))
    (g_MOST_PLAIN : PySem.W.nsIn K mainGlobals "MOST_PLAIN" = some (some (.int 2 tk_MOST_PLAIN)))
    (g_MOST_REFERENCES : PySem.W.nsIn K mainGlobals "MOST_REFERENCES" = some (some (.int 2 tk_MOST_REFERENCES)))
    (g_MOST_REFERENCES_IN_ALL : PySem.W.nsIn K mainGlobals "MOST_REFERENCES_IN_ALL" = some (some (.int 3 tk_MOST_REFERENCES_IN_ALL))) :
    ∃ fd : FuncData, (∀ (s : Shared) (v : Value), BindsTo s fd ⟨[v], []⟩ [("script", v)]) ∧ ∀ base : Heap, K.In base → base.Ns mainGlobals mg → LG.LawAt l.prog w K mg base fa fd "script" (spM K preLaw1) := by
  have e := hfa.symm.trans (PySem.W.mg_of X G am15)
  cases e
  have Fm0 := fun_mk (st := s_old_and_new) lm0 cm0 km0
  have Fm1 := fun_mk (st := s_led_to) lm1 cm1 km1
  have Fm2 := fun_mk (st := s_net) lm2 cm2 km2
  have Fm3 := fun_mk (st := s_is_name) lm3 cm3 km3
  have Fm4 := fun_mk (st := s_is_new_name) lm4 cm4 km4
  have Fm5 := fun_mk (st := s_text_rows) lm5 cm5 km5
  have Fm6 := fun_mk (st := s_column_row) lm6 cm6 km6
  have Fm7 := fun_mk (st := s_read_tables) lm7 cm7 km7
  have Fm8 := fun_mk (st := s_begins_table) lm8 cm8 km8
  have Fm9 := fun_mk (st := s_adds_plain) lm9 cm9 km9
  have Fm10 := fun_mk (st := s_adds_reference) lm10 cm10 km10
  have Fm11 := fun_mk (st := s_count_references) lm11 cm11 km11
  have Fm12 := fun_mk (st := s_l_base) lm12 cm12 km12
  have Fm13 := fun_mk (st := s_l_refused) lm13 cm13 km13
  have Fm14 := fun_mk (st := s_l_batches) lm14 cm14 km14
  have Fm15 := fun_mk (st := s_law) lm15 cm15 km15
  have Fc0 := fun_mk (st := s_Schema_init_) lc0 cc0 kc0
  have Fc1 := fun_mk (st := s_Schema_parse) lc1 cc1 kc1
  have Fc2 := fun_mk (st := s_Schema_eq_) lc2 cc2 kc2
  have Fc3 := fun_mk (st := s_Schema_columns) lc3 cc3 kc3
  have Fb0 : FunD K "__init__" "Base.__init__" (defArgs s_Base_init_) (defBody s_Base_init_) (defScope s_Base_init_) [V.ref eT] [] fb0 (PySem.W.fnOf "__init__" "Base.__init__" (defArgs s_Base_init_) (defBody s_Base_init_) (defScope s_Base_init_) (.ref dT) kVb0 dcb0 pmb0 anb0 cdb0 ctb0) := ⟨⟨ocb0, odb0, .ref dT, kVb0, dcb0, pmb0, anb0, cdb0, ctb0, slb0, rfl, lb0, cb0, .inr ⟨by simp, dT, _, [.ref eT], tn, rfl, lT, rfl, .cons rfl .nil⟩, .inl rfl⟩, kb0⟩
  have Fb1 := fun_mk (st := s_Base_eq_) lb1 cb1 kb1
  have Fb2 := fun_mk (st := s_Base_rows) lb2 cb2 kb2
  have Fb3 := fun_mk (st := s_Base_row_at) lb3 cb3 kb3
  have Fb4 := fun_mk (st := s_Base_fork) lb4 cb4 kb4
  have Fb5 := fun_mk (st := s_Base_make) lb5 cb5 kb5
  have Fb6 := fun_mk (st := s_Base_is_allowed) lb6 cb6 kb6
  have Fb7 := fun_mk (st := s_Base_advance) lb7 cb7 kb7
  have Fb8 := fun_mk (st := s_Base_allows) lb8 cb8 kb8
  have Fb9 := fun_mk (st := s_Base_is_led_to) lb9 cb9 kb9
  have bm0 := Fm0.binds (ps := ["change"]) fun _ _ _ _ _ _ us hl => match us, hl with | [_], _ => rfl
  have bm1 := Fm1.binds (ps := ["schema", "table", "row"]) fun _ _ _ _ _ _ us hl => match us, hl with | [_, _, _], _ => rfl
  have bm2 := Fm2.binds (ps := ["changes"]) fun _ _ _ _ _ _ us hl => match us, hl with | [_], _ => rfl
  have bm3 := Fm3.binds (ps := ["word"]) fun _ _ _ _ _ _ us hl => match us, hl with | [_], _ => rfl
  have bm4 := Fm4.binds (ps := ["word", "pairs"]) fun _ _ _ _ _ _ us hl => match us, hl with | [_, _], _ => rfl
  have bm5 := Fm5.binds (ps := ["tables"]) fun _ _ _ _ _ _ us hl => match us, hl with | [_], _ => rfl
  have bm6 := Fm6.binds (ps := ["name", "target"]) fun _ _ _ _ _ _ us hl => match us, hl with | [_, _], _ => rfl
  have bm7 := Fm7.binds (ps := ["text"]) fun _ _ _ _ _ _ us hl => match us, hl with | [_], _ => rfl
  have bm8 := Fm8.binds (ps := ["tables", "words"]) fun _ _ _ _ _ _ us hl => match us, hl with | [_, _], _ => rfl
  have bm9 := Fm9.binds (ps := ["tables", "words"]) fun _ _ _ _ _ _ us hl => match us, hl with | [_, _], _ => rfl
  have bm10 := Fm10.binds (ps := ["tables", "words"]) fun _ _ _ _ _ _ us hl => match us, hl with | [_, _], _ => rfl
  have bm11 := Fm11.binds (ps := ["columns"]) fun _ _ _ _ _ _ us hl => match us, hl with | [_], _ => rfl
  have bm12 := Fm12.binds (ps := []) fun _ _ _ _ _ _ us hl => match us, hl with | [], _ => rfl
  have bm13 := Fm13.binds (ps := ["base", "batch"]) fun _ _ _ _ _ _ us hl => match us, hl with | [_, _], _ => rfl
  have bm14 := Fm14.binds (ps := []) fun _ _ _ _ _ _ us hl => match us, hl with | [], _ => rfl
  have bm15 := Fm15.binds (ps := ["script"]) fun _ _ _ _ _ _ us hl => match us, hl with | [_], _ => rfl
  have bc0 := Fc0.binds (ps := ["self", "tables"]) fun _ _ _ _ _ _ us hl => match us, hl with | [_, _], _ => rfl
  have bc1 := Fc1.binds (ps := ["cls", "text"]) fun _ _ _ _ _ _ us hl => match us, hl with | [_, _], _ => rfl
  have bc2 := Fc2.binds (ps := ["self", "other"]) fun _ _ _ _ _ _ us hl => match us, hl with | [_, _], _ => rfl
  have bc3 := Fc3.binds (ps := ["self", "table"]) fun _ _ _ _ _ _ us hl => match us, hl with | [_, _], _ => rfl
  obtain ⟨ds3, hv3, bb0⟩ := Fb0.binds1 (ps := ["self", "schema", "rows"]) 3 1 (by simp) rfl (fun T kV doc pm an cdv ct us its hu hi => match us, its, hu, hi with | [_, _, _], [_], _, _ => ⟨_, rfl, rfl⟩)
  have e3 : ds3 = [] := by
    have h : Vals ([] : List V) ds3 := hv3
    cases h
    rfl
  subst e3
  obtain ⟨ds2, hv2, bdb0⟩ := Fb0.binds1 (ps := ["self", "schema", "rows"]) 2 0 (by simp) rfl (fun T kV doc pm an cdv ct us its hu hi => match us, its, hu, hi with | [_, _], [_], _, _ => ⟨_, rfl, rfl⟩)
  have hdE : Vals [V.ref eT] ds2 := hv2
  have bb1 := Fb1.binds (ps := ["self", "other"]) fun _ _ _ _ _ _ us hl => match us, hl with | [_, _], _ => rfl
  have bb2 := Fb2.binds (ps := ["self", "table"]) fun _ _ _ _ _ _ us hl => match us, hl with | [_, _], _ => rfl
  have bb3 := Fb3.binds (ps := ["self", "table", "key"]) fun _ _ _ _ _ _ us hl => match us, hl with | [_, _, _], _ => rfl
  have bb4 := Fb4.binds (ps := ["self"]) fun _ _ _ _ _ _ us hl => match us, hl with | [_], _ => rfl
  have bb5 := Fb5.binds (ps := ["self", "changes"]) fun _ _ _ _ _ _ us hl => match us, hl with | [_, _], _ => rfl
  have bb6 := Fb6.binds (ps := ["self", "changes"]) fun _ _ _ _ _ _ us hl => match us, hl with | [_, _], _ => rfl
  have bb7 := Fb7.binds (ps := ["self", "changes"]) fun _ _ _ _ _ _ us hl => match us, hl with | [_, _], _ => rfl
  have bb8 := Fb8.binds (ps := ["self", "table", "old", "new"]) fun _ _ _ _ _ _ us hl => match us, hl with | [_, _, _, _], _ => rfl
  have bb9 := Fb9.binds (ps := ["self", "table", "key"]) fun _ _ _ _ _ _ us hl => match us, hl with | [_, _, _], _ => rfl
  refine ⟨PySem.W.fnOf "law" "law" (defArgs s_law) (defBody s_law) (defScope s_law) .none kVm15 dcm15 pmm15 anm15 cdm15 ctm15, fun s v => .of_eq rfl, fun base _ _ => ?_⟩
  have z_len := PySem.W.mg_none_of X G b_len
  have z_abs := PySem.W.mg_none_of X G b_abs
  have z_max := PySem.W.mg_none_of X G b_max
  have z_min := PySem.W.mg_none_of X G b_min
  have z_int := PySem.W.mg_none_of X G b_int
  have z_range := PySem.W.mg_none_of X G b_range
  have z_enumerate := PySem.W.mg_none_of X G b_enumerate
  have z_isinstance := PySem.W.mg_none_of X G b_isinstance
  have z_tuple := PySem.W.mg_none_of X G b_tuple
  have z_all := PySem.W.mg_none_of X G b_all
  have z_zip := PySem.W.mg_none_of X G b_zip
  have z_sum := PySem.W.mg_none_of X G b_sum
  have z_str := PySem.W.mg_none_of X G b_str
  have z_repr := PySem.W.mg_none_of X G b_repr
  have z_list := PySem.W.mg_none_of X G b_list
  have z_dict := PySem.W.mg_none_of X G b_dict
  have z_sorted := PySem.W.mg_none_of X G b_sorted
  have y_MOST_LETTERS : ∃ t, mg "MOST_LETTERS" = some (.int 8 t) := ⟨_, PySem.W.mg_of X G g_MOST_LETTERS⟩
  have y_MOST_TABLES : ∃ t, mg "MOST_TABLES" = some (.int 3 t) := ⟨_, PySem.W.mg_of X G g_MOST_TABLES⟩
  have y_MOST_PLAIN : ∃ t, mg "MOST_PLAIN" = some (.int 2 t) := ⟨_, PySem.W.mg_of X G g_MOST_PLAIN⟩
  have y_MOST_REFERENCES : ∃ t, mg "MOST_REFERENCES" = some (.int 2 t) := ⟨_, PySem.W.mg_of X G g_MOST_REFERENCES⟩
  have y_MOST_REFERENCES_IN_ALL : ∃ t, mg "MOST_REFERENCES_IN_ALL" = some (.int 3 t) := ⟨_, PySem.W.mg_of X G g_MOST_REFERENCES_IN_ALL⟩
  have yS := PySem.W.mg_of X G aC
  have yB := PySem.W.mg_of X G aCB
  have sc : SchCls K C := ⟨⟨pg, hd, po, sa⟩, n1, n2, n3, ha, hn, htk, hm, if_pos (beq_self_eq_true _)⟩
  have bc : BaseCls K CB := ⟨⟨pgB, hdB, poB, saB⟩, n1B, n2B⟩
  have bi : BaseIs K CB := ⟨bc.cl, haB, hn, htk, hmB, if_pos (beq_self_eq_true _)⟩
  have TB : PySem.BadA.BadTxt K mg CI fI :=
    { gC := PySem.W.mg_of X G eA, cls := ⟨nmI, qI, NI, bsI, _, snI, subI, abI, colI, ddI, mI0, mI1, mI2, mI3, mI5, eL, by rfl⟩, sa := eS, ga := eG, gg := eg, noN := eN, iC := eI, tC := eT0, kC := eK, exC := eX, tyC := eYI, hdC := eH, te := exm_self eX eZI eYI eU,
      fn := ⟨_, _, _, _, _, _, _, _, _, _, _, _, _, _, eF, eC⟩ }
  have Dcount : Def l.prog w K mg base 1 "count_references" fm11 _ ["columns"] (spM K preCount) := ⟨ok_count Fm11 z_len, PySem.W.mg_of X G am11, km11, bm11⟩
  have Dcol : Def l.prog w K mg base 1 "column_row" fm6 _ ["name", "target"] (spM K preColRow) := ⟨ok_col Fm6, PySem.W.mg_of X G am6, km6, bm6⟩
  have Drows : Def l.prog w K mg base 2 "text_rows" fm5 _ ["tables"] (spM K preRows) := ⟨ok_rows Fm5 Dcol, PySem.W.mg_of X G am5, km5, bm5⟩
  have Disn : Def l.prog w K mg base 1 "is_name" fm3 _ ["word"] (spM K preIsName) := ⟨ok_is_name Fm3 z_len y_MOST_LETTERS, PySem.W.mg_of X G am3, km3, bm3⟩
  have Dnew : Def l.prog w K mg base 2 "is_new_name" fm4 _ ["word", "pairs"] (spM K preIsNew) := ⟨ok_is_new Fm4 Disn, PySem.W.mg_of X G am4, km4, bm4⟩
  have Dbeg : Def l.prog w K mg base 3 "begins_table" fm8 _ ["tables", "words"] (spM K preBegins) := ⟨ok_begins Fm8 Dnew z_len y_MOST_TABLES, PySem.W.mg_of X G am8, km8, bm8⟩
  have Dplain : Def l.prog w K mg base 3 "adds_plain" fm9 _ ["tables", "words"] (spM K prePlain) := ⟨ok_plain Fm9 Dcount Dnew z_len y_MOST_PLAIN, PySem.W.mg_of X G am9, km9, bm9⟩
  have Dref : Def l.prog w K mg base 3 "adds_reference" fm10 _ ["tables", "words"] (spM K preRef) := ⟨ok_ref Fm10 Dcount Dnew z_len z_sum y_MOST_REFERENCES y_MOST_REFERENCES_IN_ALL, PySem.W.mg_of X G am10, km10, bm10⟩
  have Dread : Def l.prog w K mg base 4 "read_tables" fm7 _ ["text"] (spM K preRead) := ⟨ok_read Fm7 Dbeg Dplain Dref z_enumerate, PySem.W.mg_of X G am7, km7, bm7⟩
  have Oinit := ok_init (P := l.prog) (w := w) (base := base) (C := C) Fc0 Drows sc.cl n1 n2 n3 z_tuple
  have Ocols := ok_columns (P := l.prog) (w := w) (base := base) (mg := mg) (C := C) Fc3 sc.cl n2
  have Oeq := ok_eq (P := l.prog) (w := w) (base := base) Fc2 sc yS z_isinstance
  have Oparse := ok_parse (base := base) Fc1 Dread ⟨mk, ac0, ic0, kc⟩ Oinit bc0
  have Rparse : FnR l.prog w K mg base CX0 5 fc1 (spM K (preParse C)) := (Oparse.raw bc1 .nil).imp fun vs H Q E h => by rw [List.append_nil]; exact h
  have Mcols : Meth K C "columns" fc3 := ⟨ac3, ic3, kc3⟩
  have Doan : Def l.prog w K mg base 1 "old_and_new" fm0 _ ["change"] (spM K preOAN) := ⟨ok_old_and_new Fm0, PySem.W.mg_of X G am0, km0, bm0⟩
  have Dled : Def l.prog w K mg base 2 "led_to" fm1 _ ["schema", "table", "row"] (spM K (preLed C)) := ⟨ok_led_to Fm1 sc.cl Mcols Ocols bc3 z_zip, PySem.W.mg_of X G am1, km1, bm1⟩
  have MB_row_at : Meth K CB "row_at" fb3 := ⟨ab3, ib3, kb3⟩
  have MB_is_led_to : Meth K CB "_is_led_to" fb9 := ⟨ab9, ib9, kb9⟩
  have MB_allows : Meth K CB "_allows" fb8 := ⟨ab8, ib8, kb8⟩
  have MB_advance : Meth K CB "_advance" fb7 := ⟨ab7, ib7, kb7⟩
  have MB_fork : Meth K CB "fork" fb4 := ⟨ab4, ib4, kb4⟩
  have MB_make : Meth K CB "make" fb5 := ⟨ab5, ib5, kb5⟩
  have MB_is_allowed : Meth K CB "is_allowed" fb6 := ⟨ab6, ib6, kb6⟩
  have MB_rows : Meth K CB "rows" fb2 := ⟨ab2, ib2, kb2⟩
  have Orow := ok_row_at (P := l.prog) (w := w) (base := base) (mg := mg) (C := C) Fb3 bc
  have Oled := ok_is_led_to (P := l.prog) (w := w) (base := base) Fb9 bc sc sc.cl Mcols Ocols bc3 z_enumerate
  have Oall := ok_allows Fb8 bc bc.cl MB_row_at Orow bb3 MB_is_led_to Oled bb9 Dled z_all
  have Oadv := ok_advance Fb7 bc bc.cl MB_allows Oall bb8 Doan z_enumerate
  have Obin := ok_binit (P := l.prog) (w := w) (base := base) (mg := mg) Fb0 bc sc
  have Mmade : Mk K CB fb0 := ⟨mkB, ab0, ib0, kcB⟩
  have Ofork := ok_bfork Fb4 bc sc yB Mmade Obin bb0
  have Omake := ok_bmake Fb5 bc TB bc.cl MB_fork Ofork bb4 MB_advance Oadv bb7
  have Omake0 := ok_bmake0 Fb5 bc bc.cl MB_fork Ofork bb4 MB_advance Oadv bb7
  have Oisa := ok_bis_allowed Fb6 bc bc.cl MB_fork Ofork bb4 MB_advance Oadv bb7
  have Orows := ok_browsF (P := l.prog) (w := w) (base := base) (mg := mg) (C := C) Fb2 bc
  have Obeq := ok_beqB Fb1 bc bi yB z_isinstance Oeq bc2 ac2 ic2
  have Dbase : Def l.prog w K mg base 6 "_law_base" fm12 _ [] (spBase13 K CB C) := ⟨ok_lbase13 Fm12 yS ⟨rd, ga⟩ ⟨pa, ⟨pRest, pr⟩, pf⟩ Rparse yB Mmade Obin bb0, PySem.W.mg_of X G am12, km12, bm12⟩
  have Dbatches : Def l.prog w K mg base 1 "_law_batches" fm14 _ [] (spM K preCases) := ⟨ok_lbatches13 Fm14 z_range, PySem.W.mg_of X G am14, km14, bm14⟩
  have Drefused : Def l.prog w K mg base 6 "_law_refused" fm13 _ ["base", "batch"] (spRefused K CB C) := ⟨ok_lrefused Fm13 TB bc.cl MB_make Omake bb5, PySem.W.mg_of X G am13, km13, bm13⟩
  have Dnet : Def l.prog w K mg base 2 "net" fm2 _ ["changes"] (spNet K) := ⟨ok_net Fm2 Doan, PySem.W.mg_of X G am2, km2, bm2⟩
  exact ok_law13 Fm15 Dbase Dbatches Drefused Dnet bc.cl MB_make Omake0 bb5 MB_is_allowed Oisa bb6 MB_rows Orows bb2 Obeq bb1 ab1 ib1 neB hmB z_repr
end T3
open PySem PySem.W PyProof.Rows in
set_option maxRecDepth 100000 in
set_option maxHeartbeats 0 in
theorem PySem.Challenge.cw_onlyviews_k13_known_bases_holds : PySem.Challenge.rw_onlyviews_k13_known_bases.Holds := by
  w_on; o_law; k_head; (case hw => w_witness2)
  k_fill
  refine LG.walkAt (l := PySem.Challenge.rw_onlyviews_k13_known_bases) (n := 63) (x := "script") (sp := fun K => DV.spM K SP.preLaw1) rfl (by decide) rfl (fun w h Y => PySem.W.kIn_of Y) ?F (fun K H a ns hl _ hS => ?_)
  case F =>
    intro w mg fa h KX G hmg
    refine' T3.all_mk (mc := .type "type") KX G hmg ?am0 ?lm0 ?cm0 ?km0 ?am1 ?lm1 ?cm1 ?km1 ?am2 ?lm2 ?cm2 ?km2 ?am3 ?lm3 ?cm3 ?km3 ?am4 ?lm4 ?cm4 ?km4 ?am5 ?lm5 ?cm5 ?km5 ?am6 ?lm6 ?cm6 ?km6 ?am7 ?lm7 ?cm7 ?km7 ?am8 ?lm8 ?cm8 ?km8 ?am9 ?lm9 ?cm9 ?km9 ?am10 ?lm10 ?cm10 ?km10 ?am11 ?lm11 ?cm11 ?km11 ?am12 ?lm12 ?cm12 ?km12 ?am13 ?lm13 ?cm13 ?km13 ?am14 ?lm14 ?cm14 ?km14 ?am15 ?lm15 ?cm15 ?km15 ?ac0 ?ic0 ?kc0 ?lc0 ?cc0 ?rd ?ga ?pa ?pr ?pf ?kc1 ?lc1 ?cc1 ?ac2 ?ic2 ?kc2 ?lc2 ?cc2 ?ac3 ?ic3 ?kc3 ?lc3 ?cc3 ?ab0 ?ib0 ?kb0 ?lb0 ?cb0 ?ab1 ?ib1 ?kb1 ?lb1 ?cb1 ?ab2 ?ib2 ?kb2 ?lb2 ?cb2 ?ab3 ?ib3 ?kb3 ?lb3 ?cb3 ?ab4 ?ib4 ?kb4 ?lb4 ?cb4 ?ab5 ?ib5 ?kb5 ?lb5 ?cb5 ?ab6 ?ib6 ?kb6 ?lb6 ?cb6 ?ab7 ?ib7 ?kb7 ?lb7 ?cb7 ?ab8 ?ib8 ?kb8 ?lb8 ?cb8 ?ab9 ?ib9 ?kb9 ?lb9 ?cb9 ?lT ?lE ?aC ?pg ?hd ?po ?sa ?mk ?kc ?n1 ?n2 ?n3 ?ha ?hm ?ne ?eY ?eZ ?aCB ?pgB ?hdB ?poB ?saB ?mkB ?kcB ?n1B ?n2B ?haB ?hmB ?neB ?eYB ?eZB ?hn ?htk ?nq ?sq ?eA ?eL ?eS ?eG ?eg ?eN ?eI ?eT0 ?eF ?eC ?eK ?eX ?eYI ?eH ?eZI ?eU ?b_len ?b_abs ?b_max ?b_min ?b_int ?b_range ?b_enumerate ?b_isinstance ?b_tuple ?b_all ?b_zip ?b_sum ?b_str ?b_repr ?b_list ?b_dict ?b_sorted ?g_MOST_LETTERS ?g_MOST_TABLES ?g_MOST_PLAIN ?g_MOST_REFERENCES ?g_MOST_REFERENCES_IN_ALL
    (case aC => k_is)
    (case aCB => k_is)
    (case eA => k_is)
    (case eL => k_is)
    (case am0 => k_is)
    (case lm0 => k_is)
    (case cm0 => k_is)
    (case km0 => k_is)
    (case am1 => k_is)
    (case lm1 => k_is)
    (case cm1 => k_is)
    (case km1 => k_is)
    (case am2 => k_is)
    (case lm2 => k_is)
    (case cm2 => k_is)
    (case km2 => k_is)
    (case am3 => k_is)
    (case lm3 => k_is)
    (case cm3 => k_is)
    (case km3 => k_is)
    (case am4 => k_is)
    (case lm4 => k_is)
    (case cm4 => k_is)
    (case km4 => k_is)
    (case am5 => k_is)
    (case lm5 => k_is)
    (case cm5 => k_is)
    (case km5 => k_is)
    (case am6 => k_is)
    (case lm6 => k_is)
    (case cm6 => k_is)
    (case km6 => k_is)
    (case am7 => k_is)
    (case lm7 => k_is)
    (case cm7 => k_is)
    (case km7 => k_is)
    (case am8 => k_is)
    (case lm8 => k_is)
    (case cm8 => k_is)
    (case km8 => k_is)
    (case am9 => k_is)
    (case lm9 => k_is)
    (case cm9 => k_is)
    (case km9 => k_is)
    (case am10 => k_is)
    (case lm10 => k_is)
    (case cm10 => k_is)
    (case km10 => k_is)
    (case am11 => k_is)
    (case lm11 => k_is)
    (case cm11 => k_is)
    (case km11 => k_is)
    (case am12 => k_is)
    (case lm12 => k_is)
    (case cm12 => k_is)
    (case km12 => k_is)
    (case am13 => k_is)
    (case lm13 => k_is)
    (case cm13 => k_is)
    (case km13 => k_is)
    (case am14 => k_is)
    (case lm14 => k_is)
    (case cm14 => k_is)
    (case km14 => k_is)
    (case am15 => k_is)
    (case lm15 => k_is)
    (case cm15 => k_is)
    (case km15 => k_is)
    (case ac0 => k_is)
    (case ic0 => k_is)
    (case kc0 => k_is)
    (case lc0 => k_is)
    (case cc0 => k_is)
    (case rd => k_is)
    (case ga => k_is)
    (case pa => k_is)
    (case pr => k_is)
    (case pf => k_is)
    (case kc1 => k_is)
    (case lc1 => k_is)
    (case cc1 => k_is)
    (case ac2 => k_is)
    (case ic2 => k_is)
    (case kc2 => k_is)
    (case lc2 => k_is)
    (case cc2 => k_is)
    (case ac3 => k_is)
    (case ic3 => k_is)
    (case kc3 => k_is)
    (case lc3 => k_is)
    (case cc3 => k_is)
    (case ab0 => k_is)
    (case ib0 => k_is)
    (case kb0 => k_is)
    (case lb0 => k_is)
    (case cb0 => k_is)
    (case ab1 => k_is)
    (case ib1 => k_is)
    (case kb1 => k_is)
    (case lb1 => k_is)
    (case cb1 => k_is)
    (case ab2 => k_is)
    (case ib2 => k_is)
    (case kb2 => k_is)
    (case lb2 => k_is)
    (case cb2 => k_is)
    (case ab3 => k_is)
    (case ib3 => k_is)
    (case kb3 => k_is)
    (case lb3 => k_is)
    (case cb3 => k_is)
    (case ab4 => k_is)
    (case ib4 => k_is)
    (case kb4 => k_is)
    (case lb4 => k_is)
    (case cb4 => k_is)
    (case ab5 => k_is)
    (case ib5 => k_is)
    (case kb5 => k_is)
    (case lb5 => k_is)
    (case cb5 => k_is)
    (case ab6 => k_is)
    (case ib6 => k_is)
    (case kb6 => k_is)
    (case lb6 => k_is)
    (case cb6 => k_is)
    (case ab7 => k_is)
    (case ib7 => k_is)
    (case kb7 => k_is)
    (case lb7 => k_is)
    (case cb7 => k_is)
    (case ab8 => k_is)
    (case ib8 => k_is)
    (case kb8 => k_is)
    (case lb8 => k_is)
    (case cb8 => k_is)
    (case ab9 => k_is)
    (case ib9 => k_is)
    (case kb9 => k_is)
    (case lb9 => k_is)
    (case cb9 => k_is)
    (case lT => k_is)
    (case lE => k_is)
    (case pg => k_is)
    (case hd => k_is)
    (case po => k_is)
    (case sa => k_is)
    (case mk => k_is)
    (case kc => k_is)
    (case n1 => k_is)
    (case n2 => k_is)
    (case n3 => k_is)
    (case ha => k_is)
    (case hm => k_is)
    (case ne => k_is)
    (case eY => k_is)
    (case eZ => k_is)
    (case pgB => k_is)
    (case hdB => k_is)
    (case poB => k_is)
    (case saB => k_is)
    (case mkB => k_is)
    (case kcB => k_is)
    (case n1B => k_is)
    (case n2B => k_is)
    (case haB => k_is)
    (case hmB => k_is)
    (case neB => k_is)
    (case eYB => k_is)
    (case eZB => k_is)
    (case hn => k_is)
    (case htk => k_is)
    (case nq => first | rfl | decide)
    (case sq => first | rfl | k_is)
    (case eS => k_is)
    (case eG => k_is)
    (case eg => k_is)
    (case eN => k_is)
    (case eI => k_is)
    (case eT0 => k_is)
    (case eF => k_is)
    (case eC => k_is)
    (case eK => k_is)
    (case eX => k_is)
    (case eYI => k_is)
    (case eH => k_is)
    (case eZI => k_is)
    (case eU => first | rfl | k_is)
    (case b_len => k_is)
    (case b_abs => k_is)
    (case b_max => k_is)
    (case b_min => k_is)
    (case b_int => k_is)
    (case b_range => k_is)
    (case b_enumerate => k_is)
    (case b_isinstance => k_is)
    (case b_tuple => k_is)
    (case b_all => k_is)
    (case b_zip => k_is)
    (case b_sum => k_is)
    (case b_str => k_is)
    (case b_repr => k_is)
    (case b_list => k_is)
    (case b_dict => k_is)
    (case b_sorted => k_is)
    (case g_MOST_LETTERS => k_is)
    (case g_MOST_TABLES => k_is)
    (case g_MOST_PLAIN => k_is)
    (case g_MOST_REFERENCES => k_is)
    (case g_MOST_REFERENCES_IN_ALL => k_is)
  · refine ⟨H, _, [], [], _, [], ⟨ns, rfl, hl, rfl, rfl, rfl, rfl⟩, DV.Ex.refl H, ⟨DV.Rp.fro hS (T3.rpa_ints ns), True.intro⟩, True.intro, fun v B' H' s e m v' => ?_⟩
    have z : DV.Rp K B' v (.bl true) := v'
    cases z
    rfl
