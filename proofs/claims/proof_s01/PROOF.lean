import PyProof.Rows.All
import Wide.All
import OpenK.AllK
import Wide.FinOn
import Open.SpecLaws
import KE.OsGo
import HandS.ForSpec
import HandS.Comp
import HandS.Dict
import HandS.Iter
import HandS.Flow
import HandS.SortInts
import HandS.RevRange
import HandS.WordsDict
import HandS.Style
import HandS.Conv
import HandS.SortRule
import HandS.More
import KE.KDictZip
import HandS.Walk
import PySem.Challenge.RW_seencellsdesk_s01_answers
set_option Elab.async false
set_option maxRecDepth 100000
set_option maxHeartbeats 2000000
/-! The layer that does not depend on the program: names of the top, own defs called, lists extended by tuples. -/
namespace Seen
open PySem PySem.Spec PyProof.Rows L2

/-! ### names of the top -/
/-- a constant of the top -/
def Con1 (mg : Str → Option Value) (x : Str) (v : V) : Prop := ∃ u, mg x = some u ∧ RelV v u
/-- a tuple of the top, written there -/
def ConT (K : PySem.W.Frag) (mg : Str → Option Value) (x : Str) (xs : List V) : Prop := ∃ a, mg x = some (.ref a) ∧ ∀ H : Hp, SqT K H a xs
def Stands (K : PySem.W.Frag) (mg : Str → Option Value) (x : Str) (st : Stmt) : Prop := ∃ f fd, mg x = some (.ref f) ∧ Fun K x x st f fd
def StandsI (K : PySem.W.Frag) (C : Addr) (q : Str) (st : Stmt) : Prop := ∃ f fd, Mk K C f ∧ Fun K "__init__" q st f fd
/-- a def of the top keeps a promise -/
def Kept (P : Program) (w : World) (K : PySem.W.Frag) (mg : Str → Option Value) (base : Heap) (k : Nat) (x : Str) (ps : List Str) (sp : Sp) : Prop :=
  ∃ f fd, mg x = some (.ref f) ∧ PySem.W.keepIn K (.ref f) = true ∧ Binds K fd ps [] ∧ FnOk P w K mg base CX0 k f fd ps sp
def KeptI (P : Program) (w : World) (K : PySem.W.Frag) (mg : Str → Option Value) (base : Heap) (k : Nat) (C : Addr) (ps : List Str) (sp : Sp) : Prop :=
  ∃ f fd, Mk K C f ∧ Binds K fd ps [] ∧ FnOk P w K mg base CX0 k f fd ps sp

section
variable {P : Program} {w : World} {K : PySem.W.Frag} {mg : Str → Option Value} {base : Heap}
theorem kept_of {x : Str} {st : Stmt} {N ps : List Str} {k : Nat} {sp : Sp} (S : Stands K mg x st) (sc : FnScope N ps (defScope st))
    (hb : ∀ (kV doc pm : Value) (an : Option Addr) (cdv ct : Value) (us : List Value), us.length = ps.length → bindArgs (PySem.W.fnOf x x (defArgs st) (defBody st) (defScope st) .none kV doc pm an cdv ct) ⟨us, []⟩ = pure (ps.zip us))
    (len : ∀ vs H Q E, sp vs H Q E → vs.length = ps.length)
    (hbody : ∀ (f : Addr) (cdv : Value) (A : Around) (outer : List Env) (s : Shared) (H : Hp) (vs : List V) (Q : VK) (E : XK), Room k (A.deeper (envOfC x (defScope st) s.heap.objs.size f cdv)) → sp vs H Q E →
      ∃ t, PSs (cxOf CX0 P w K mg base N x (defScope st) f cdv A outer s H E).nox (defBody st) t ∧ t { nx := fun _ H' => Q .non H', rt := Q } (start N vs) H) : Kept P w K mg base (k + 1) x ps sp := by
  obtain ⟨f, fd, hm, F⟩ := S
  exact ⟨f, fd, hm, F.kp, F.binds hb, F.ok sc len fun cdv A outer s H vs Q E hr h => hbody f cdv A outer s H vs Q E hr h⟩
theorem keptI_of {C : Addr} {q : Str} {st : Stmt} {N ps : List Str} {k : Nat} {sp : Sp} (S : StandsI K C q st) (sc : FnScope N ps (defScope st))
    (hb : ∀ (kV doc pm : Value) (an : Option Addr) (cdv ct : Value) (us : List Value), us.length = ps.length → bindArgs (PySem.W.fnOf "__init__" q (defArgs st) (defBody st) (defScope st) .none kV doc pm an cdv ct) ⟨us, []⟩ = pure (ps.zip us))
    (len : ∀ vs H Q E, sp vs H Q E → vs.length = ps.length)
    (hbody : ∀ (f : Addr) (cdv : Value) (A : Around) (outer : List Env) (s : Shared) (H : Hp) (vs : List V) (Q : VK) (E : XK), Room k (A.deeper (envOfC q (defScope st) s.heap.objs.size f cdv)) → sp vs H Q E →
      ∃ t, PSs (cxOf CX0 P w K mg base N q (defScope st) f cdv A outer s H E).nox (defBody st) t ∧ t { nx := fun _ H' => Q .non H', rt := Q } (start N vs) H) : KeptI P w K mg base (k + 1) C ps sp := by
  obtain ⟨f, fd, hm, F⟩ := S
  exact ⟨f, fd, hm, F.binds hb, F.ok sc len fun cdv A outer s H vs Q E hr h => hbody f cdv A outer s H vs Q E hr h⟩
end

section
variable {X : Cx}
theorem pe_con1 {x : Str} {v : V} {pos : Pos} (h : Con1 X.mg x v) (hg : Gl X x) (hd : (x == ("__debug__" : Str)) = false := by decide) : PE X (.Name x pos) (tC v) := by
  obtain ⟨u, hm, r⟩ := h
  exact pe_glob hg hm r hd
/-- a tuple of the top as a value: some address at which it stands, whatever the heap is -/
def tConT (K : PySem.W.Frag) (xs : List V) : TE := fun _ H Q => ∀ a, (∀ H' : Hp, SqT K H' a xs) → Q (.ref a) H
theorem pe_conT {x : Str} {xs : List V} {pos : Pos} (h : ConT X.K X.mg x xs) (hg : Gl X x) (hd : (x == ("__debug__" : Str)) = false := by decide) : PE X (.Name x pos) (tConT X.K xs) := by
  obtain ⟨a, hm, r⟩ := h
  refine ⟨fun pins s σ H Q I hq => ?_⟩
  exact (pe_glob (v := .ref a) hg hm rfl hd).run pins s σ H Q I (hq a r)
theorem pe_own {k : Nat} {x : Str} {ps : List Str} {sp : Sp} {e : Expr} {es : List Expr} {t : TA} {p pos : Pos} (O : Kept X.prog X.w X.K X.mg X.base k x ps sp) (hr : Room k X.A) (hg : Gl X x) (ha : PA X (e :: es) t)
    (hdb : (x == ("__debug__" : Str)) = false := by decide) (he : starEach (e :: es) X.env = (false, eval e X.env) :: starEach es X.env := by rfl) (hpl : (backTo pos (starEach es X.env)).any (·.1) = false := by rfl) :
    PE X (.Call (.Name x p) (e :: es) [] pos) (tCall sp [] E0 t) := by
  obtain ⟨f, fd, hm, kp, b, G⟩ := O
  exact pe_call G hr hg hm kp b .nil pass0 ha hdb he hpl
theorem pe_own0 {k : Nat} {x : Str} {ps : List Str} {sp : Sp} {p pos : Pos} (O : Kept X.prog X.w X.K X.mg X.base k x ps sp) (hr : Room k X.A) (hg : Gl X x)
    (hdb : (x == ("__debug__" : Str)) = false := by decide) : PE X (.Call (.Name x p) [] [] pos) (tCall sp [] E0 tNil) := by
  obtain ⟨f, fd, hm, kp, b, G⟩ := O
  exact pe_call0 G hr hg hm kp b .nil pass0 hdb
theorem pe_mk0 {k : Nat} {C : Addr} {x : Str} {ps : List Str} {sp : Sp} {p pos : Pos} (O : KeptI X.prog X.w X.K X.mg X.base k C ps sp) (hm : X.mg x = some (.ref C)) (hr : Room (k + 1) X.A) (hg : Gl X x)
    (hdb : (x == ("__debug__" : Str)) = false := by decide) : PE X (.Call (.Name x p) [] [] pos) (tMake C sp [] E0 tNil) := by
  obtain ⟨f, fd, M, b, G⟩ := O
  exact pe_make0 M G hr hg hm b .nil pass0 hdb
theorem pe_mk {k : Nat} {C : Addr} {x : Str} {ps : List Str} {sp : Sp} {e : Expr} {es : List Expr} {t : TA} {p pos : Pos} (O : KeptI X.prog X.w X.K X.mg X.base k C ps sp) (hm : X.mg x = some (.ref C)) (hr : Room (k + 1) X.A) (hg : Gl X x) (ha : PA X (e :: es) t)
    (hdb : (x == ("__debug__" : Str)) = false := by decide) (he : starEach (e :: es) X.env = (false, eval e X.env) :: starEach es X.env := by rfl) (hpl : (backTo pos (starEach es X.env)).any (·.1) = false := by rfl) :
    PE X (.Call (.Name x p) (e :: es) [] pos) (tMake C sp [] E0 t) := by
  obtain ⟨f, fd, M, b, G⟩ := O
  exact pe_make M G hr hg hm b .nil pass0 ha hdb he hpl

/-! ### xs.extend(t), t a tuple -/
set_option maxRecDepth 8000 in
theorem ext_tup (l : Addr) (its : Array Value) (n : Nat) (b : Addr) (ts : Array Value) (m : Nat) (dc : Option Addr) (sl : Array (Option Value)) (h0 : ¬(!its.isEmpty && Builtin.List.listTooLong (its.size + ts.size)) = true) (h1 : its.size ≤ sizeLine) (h2 : its.size + ts.size ≤ sizeLine + 1) :
    Meets (Builtin.«list.extend» ⟨[.ref l, .ref b], []⟩) (fun _ R s => s.heap.get? l = some { cls := .type "list", data := .seq its n } ∧
      s.heap.get? b = some { cls := .type "tuple", dict := dc, data := .seq ts m, slots := sl } ∧ R (.ok (.ret Value.none)) { s with heap := s.heap.update l (Obj.mapSeq fun x => x ++ ts) }) :=
  .of_wp fun prog w A R s h => by
    obtain ⟨hp, g, d, tk, os⟩ := s
    obtain ⟨hl, hb, h⟩ := h
    have f1 := AutoSeq1.idx_int
    have f2 := AutoSeq1.sub_tuple_tuple
    have f3 := AutoSeq1.sub_list_list
    have f4 := AutoSeq1.sub_tuple_list
    have f5 := AutoSeq1.sub_list_tuple
    have hz' : (its ++ ts).size ≤ sizeLine + 1 := by
      rw [Array.size_append]
      exact h2
    wp_walk using (wpAny_updateSeq hl rfl (hz := h1) (_hz' := hz')), wpAny_loadPart' hl, wpAny_loadPart' hb
    exact ⟨_, rfl, h⟩
def rExtendT (K : PySem.W.Frag) : V → List V → Hp → VK → Prop := fun x vs H Q => ∃ l b xs zs, x = .ref l ∧ vs = [.ref b] ∧ H l = some (.lst xs) ∧ SqT K H b zs ∧ xs.length + zs.length ≤ sizeLine ∧ Q .non (upd H l (.lst (xs ++ zs)))
theorem mt_extendT : MtM X "list.extend" (rExtendT X.K) := by
  intro pins s σ H x vs v us Q I rx rv ⟨l, b, xs, zs, ex, ev, hH, hB, hz, q⟩
  subst ex
  subst ev
  cases rx
  obtain ⟨u, rfl, ru⟩ := rv.one
  cases ru
  obtain ⟨z, its, n, r, hl, e⟩ := I.lstM hH
  obtain ⟨ts, r2, ⟨o, eo, ho, m, hd⟩, hz2⟩ := I.tuple hB
  obtain ⟨cls, dc, dat, sl⟩ := o
  cases ho
  cases hd
  have l1 := r.length
  have l2 := r2.length
  have hsz : its.toArray.size + ts.toArray.size ≤ sizeLine := by
    rw [List.size_toArray, List.size_toArray]
    omega
  have hlong : ¬ (!its.toArray.isEmpty && Builtin.List.listTooLong (its.toArray.size + ts.toArray.size)) = true := by
    rw [notLongL hsz, Bool.and_false]
    exact Bool.false_ne_true
  refine call_meets F.slot_list_extend ⟨_, e, rfl⟩ F.entry_list_extend (F.args_list_extend_2 _ _) (ext_tup l its.toArray n b ts.toArray m dc sl hlong (by omega) (by omega)) ⟨e, eo, ?_⟩
  refine ⟨.non, _, I.lset (its' := its ++ ts) hH e (by simp) (r.append r2) ?_, rfl, q⟩
  rw [List.length_append]
  omega
end
end Seen
/-! The specification's side, without the program: a list taken call by call; what stays true of the state. -/
namespace Seen
open Cm10

/-- a list begins with a call; what it is; the rest -/
inductive Parsed : List Int → Cm10.Call → List Int → Prop
  | code (k : Nat) (t : List Int) : k < W → Parsed (0 :: (k : Int) :: t) (.code k) t
  | num (k : Nat) (t : List Int) : k < W → Parsed (1 :: (k : Int) :: t) (.num k) t
  | read (a b c : Nat) (t : List Int) : a < W → b < W → c < W → Parsed (2 :: (a : Int) :: (b : Int) :: (c : Int) :: t) (.read a b c) t
  | write (a b c v : Nat) (t : List Int) : a < W → b < W → c < W → v < W → Parsed (3 :: (a : Int) :: (b : Int) :: (c : Int) :: (v : Int) :: t) (.write a b c v) t
  | say (v : Nat) (t : List Int) : v < W → Parsed (4 :: (v : Int) :: t) (.say v) t
  | shows (t : List Int) : Parsed (5 :: t) .shows t
  | run (s : Nat) (l : List Nat) (t : List Int) : s < W → l.length ≤ 40 → (∀ x ∈ l, x < W) → Parsed (6 :: (s : Int) :: (l.length : Int) :: (l.map fun (n : Nat) => (n : Int)) ++ t) (.run s l) t
  | sees (r : Nat) (t : List Int) : r < W → Parsed (7 :: (r : Int) :: t) (.sees r) t
  | sure (a b c : Nat) (t : List Int) : a < W → b < W → c < W → Parsed (8 :: (a : Int) :: (b : Int) :: (c : Int) :: t) (.sure a b c) t
  | trade (r : Nat) (t : List Int) : r < W → Parsed (9 :: (r : Int) :: t) (.trade r) t
  | better (t : List Int) : Parsed (10 :: t) .better t
  | runBetter (s : Nat) (l : List Nat) (t : List Int) : s < W → l.length ≤ 40 → (∀ x ∈ l, x < W) → Parsed (11 :: (s : Int) :: (l.length : Int) :: (l.map fun (n : Nat) => (n : Int)) ++ t) (.runBetter s l) t

theorem within_nat {z : Int} (h : PyInside.within 0 4294967295 z = true) : ∃ n : Nat, z = (n : Int) ∧ n < W := by
  unfold PyInside.within at h
  rw [Bool.and_eq_true, decide_eq_true_iff, decide_eq_true_iff] at h
  exact ⟨z.toNat, by omega, by unfold W; omega⟩
theorem all_nat : ∀ {l : List Int}, l.all (PyInside.within 0 4294967295) = true → ∃ ns : List Nat, l = ns.map (fun (n : Nat) => (n : Int)) ∧ ∀ x ∈ ns, x < W
  | [], _ => ⟨[], rfl, fun _ h => by cases h⟩
  | z :: l, h => by
    rw [List.all_cons, Bool.and_eq_true] at h
    obtain ⟨n, rfl, hn⟩ := within_nat h.1
    obtain ⟨ns, rfl, hs⟩ := all_nat h.2
    refine ⟨n :: ns, rfl, fun x hx => ?_⟩
    rcases List.mem_cons.mp hx with rfl | hx
    · exact hn
    · exact hs x hx
theorem nat_of {n : Nat} (h : n < W) : Cm10Neutral.nat (n : Int) = true := by
  unfold Cm10Neutral.nat
  unfold W at h
  rw [Bool.and_eq_true, decide_eq_true_iff, decide_eq_true_iff]
  omega
theorem all_nat_of : ∀ {l : List Nat}, (∀ x ∈ l, x < W) → (l.map fun (n : Nat) => (n : Int)).all Cm10Neutral.nat = true
  | [], _ => rfl
  | n :: l, h => by
    rw [List.map_cons, List.all_cons, nat_of (h n (List.mem_cons_self ..)), all_nat_of fun x hx => h x (List.mem_cons_of_mem _ hx)]
    rfl
theorem toNats (l : List Nat) : (l.map fun (n : Nat) => (n : Int)).map Int.toNat = l := by
  rw [List.map_map]
  exact (List.map_congr_left fun x _ => by simp).trans (List.map_id l)
/-- a call's numbers, told in nats, as the document's call -/
theorem callOf_nats {l : List Nat} {x : Cm10.Call} (h : ∀ n ∈ l, n < W) (e : Cm10Neutral.callIn l = some x) : Cm10Neutral.callOf (l.map fun (n : Nat) => (n : Int)) = some x := by
  unfold Cm10Neutral.callOf
  rw [all_nat_of h, toNats]
  exact e
theorem step_nats {l : List Nat} {x : Cm10.Call} {s : St} (h : ∀ n ∈ l, n < W) (e : Cm10Neutral.callIn l = some x) : Cm10Neutral.step s (l.map fun (n : Nat) => (n : Int)) = Cm10.step s x := by
  unfold Cm10Neutral.step
  rw [callOf_nats h e]

abbrev stepC : Cm10Neutral.S → List (List Int) → Cm10Neutral.S × List Int := fun s c => Cm10Neutral.step s (c.headD [])
theorem shape_of {p : Int} {q : Nat × Nat} (h : PyCm10.shape p = some q) : p = 0 ∨ p = 1 ∨ p = 2 ∨ p = 3 ∨ p = 4 ∨ p = 5 ∨ p = 6 ∨ p = 7 ∨ p = 8 ∨ p = 9 ∨ p = 10 ∨ p = 11 := by
  unfold PyCm10.shape at h
  by_cases h0 : p = 0
  · omega
  rw [if_neg h0] at h
  by_cases h1 : p = 1
  · omega
  rw [if_neg h1] at h
  by_cases h2 : p = 2
  · omega
  rw [if_neg h2] at h
  by_cases h3 : p = 3
  · omega
  rw [if_neg h3] at h
  by_cases h4 : p = 4
  · omega
  rw [if_neg h4] at h
  by_cases h5 : p = 5
  · omega
  rw [if_neg h5] at h
  by_cases h6 : p = 6
  · omega
  rw [if_neg h6] at h
  by_cases h7 : p = 7
  · omega
  rw [if_neg h7] at h
  by_cases h8 : p = 8
  · omega
  rw [if_neg h8] at h
  by_cases h9 : p = 9
  · omega
  rw [if_neg h9] at h
  by_cases h10 : p = 10
  · omega
  rw [if_neg h10] at h
  by_cases h11 : p = 11
  · omega
  rw [if_neg h11] at h
  cases h
theorem lt_W1 {a : Nat} (ha : a < W) {L : List Nat} (h : ∀ n ∈ L, n < W) : ∀ n ∈ a :: L, n < W := fun n hn => by
  rcases List.mem_cons.mp hn with rfl | hn
  · exact ha
  · exact h n hn
theorem lt_W0 : ∀ n ∈ ([] : List Nat), n < W := fun _ h => by cases h

theorem call_n0 {p : Int} {r : List Int} {n : Nat} {c : List (List Int)} {t : List Int} (hs : PyCm10.shape p = some (n, 0)) (h : PyFlat.call PyCm10.shape (p :: r) = some (c, t)) : n ≤ r.length ∧ c = [p :: r.take n] ∧ t = r.drop n := by
  have e : PyFlat.call PyCm10.shape (p :: r) = if r.length < n then none else some ([p :: r.take n], r.drop n) := by
    simp only [PyFlat.call, hs, PyFlat.rows]
  rw [e] at h
  by_cases d : r.length < n
  · rw [if_pos d] at h
    cases h
  · rw [if_neg d] at h
    cases h
    exact ⟨by omega, rfl, rfl⟩
theorem call_n1 {p : Int} {r : List Int} {n : Nat} {c : List (List Int)} {t : List Int} (hs : PyCm10.shape p = some (n, 1)) (h : PyFlat.call PyCm10.shape (p :: r) = some (c, t)) :
    n ≤ r.length ∧ ∃ m u, r.drop n = m :: u ∧ 0 ≤ m ∧ m.toNat ≤ u.length ∧ c = [p :: r.take n, u.take m.toNat] ∧ t = u.drop m.toNat := by
  have e : PyFlat.call PyCm10.shape (p :: r) = if r.length < n then none else match PyFlat.row (r.drop n) with
      | none => none
      | some (x, s) => some ([p :: r.take n, x], s) := by
    simp only [PyFlat.call, hs, PyFlat.rows]
    cases PyFlat.row (r.drop n) <;> rfl
  rw [e] at h
  by_cases d : r.length < n
  · rw [if_pos d] at h
    cases h
  · rw [if_neg d] at h
    refine ⟨by omega, ?_⟩
    cases e1 : r.drop n with
    | nil =>
      rw [e1] at h
      cases h
    | cons m u =>
      rw [e1] at h
      have e2 : PyFlat.row (m :: u) = if 0 ≤ m ∧ m.toNat ≤ u.length then some (u.take m.toNat, u.drop m.toNat) else none := rfl
      rw [e2] at h
      by_cases g : 0 ≤ m ∧ m.toNat ≤ u.length
      · rw [if_pos g] at h
        cases h
        exact ⟨m, u, rfl, g.1, g.2, rfl, rfl⟩
      · rw [if_neg g] at h
        cases h
theorem one_of {r : List Int} (h : 1 ≤ r.length) : ∃ x u, r = x :: u := by
  cases r with
  | nil => simp at h
  | cons x u => exact ⟨x, u, rfl⟩
theorem each1 {p x : Int} {rows : List (List Int)} (h : PyInside.call PyCm10.bound ((p :: [x]) :: rows) = true) (e : (PyCm10.bound p).1 = [(0, 4294967295)]) : ∃ n : Nat, x = (n : Int) ∧ n < W := by
  unfold PyInside.call at h
  rw [Bool.and_eq_true, e] at h
  have q := h.1
  unfold PyInside.each at q
  rw [Bool.and_eq_true] at q
  exact within_nat q.1
theorem each3 {p x y z : Int} {rows : List (List Int)} (h : PyInside.call PyCm10.bound ((p :: [x, y, z]) :: rows) = true) (e : (PyCm10.bound p).1 = [(0, 4294967295), (0, 4294967295), (0, 4294967295)]) :
    (∃ n : Nat, x = (n : Int) ∧ n < W) ∧ (∃ n : Nat, y = (n : Int) ∧ n < W) ∧ (∃ n : Nat, z = (n : Int) ∧ n < W) := by
  unfold PyInside.call at h
  rw [Bool.and_eq_true, e] at h
  have q := h.1
  simp only [PyInside.each, Bool.and_eq_true] at q
  exact ⟨within_nat q.1, within_nat q.2.1, within_nat q.2.2.1⟩
theorem each4 {p x y z v : Int} {rows : List (List Int)} (h : PyInside.call PyCm10.bound ((p :: [x, y, z, v]) :: rows) = true) (e : (PyCm10.bound p).1 = [(0, 4294967295), (0, 4294967295), (0, 4294967295), (0, 4294967295)]) :
    (∃ n : Nat, x = (n : Int) ∧ n < W) ∧ (∃ n : Nat, y = (n : Int) ∧ n < W) ∧ (∃ n : Nat, z = (n : Int) ∧ n < W) ∧ (∃ n : Nat, v = (n : Int) ∧ n < W) := by
  unfold PyInside.call at h
  rw [Bool.and_eq_true, e] at h
  have q := h.1
  simp only [PyInside.each, Bool.and_eq_true] at q
  exact ⟨within_nat q.1, within_nat q.2.1, within_nat q.2.2.1, within_nat q.2.2.2.1⟩
theorem list1 {p : Int} {xs w : List Int} (h : PyInside.call PyCm10.bound [p :: xs, w] = true) (e : (PyCm10.bound p).2 = [(0, 4294967295, 0, 40)]) : w.length ≤ 40 ∧ ∃ ns : List Nat, w = ns.map (fun (n : Nat) => (n : Int)) ∧ ∀ x ∈ ns, x < W := by
  unfold PyInside.call at h
  rw [Bool.and_eq_true, e] at h
  have q := h.2
  simp only [PyInside.lists, Bool.and_eq_true, decide_eq_true_iff] at q
  exact ⟨q.1.1.2, all_nat q.1.2⟩

/-- the first call of a list that is handed in -/
theorem parsed_of {l : List Int} {c : List (List Int)} {t : List Int} (h : PyFlat.call PyCm10.shape l = some (c, t)) (hb : PyInside.call PyCm10.bound c = true) :
    ∃ x, Parsed l x t ∧ ∀ s, stepC s (PyCm10.whole c) = Cm10.step s x := by
  cases l with
  | nil => cases h
  | cons p r =>
    cases hs : PyCm10.shape p with
    | none =>
      simp only [PyFlat.call, hs] at h
      cases h
    | some q =>
      rcases shape_of hs with rfl | rfl | rfl | rfl | rfl | rfl | rfl | rfl | rfl | rfl | rfl | rfl
      · obtain ⟨hn, rfl, rfl⟩ := call_n0 (n := 1) rfl h
        obtain ⟨x, u, rfl⟩ := one_of hn
        obtain ⟨n, rfl, hw⟩ := each1 hb rfl
        exact ⟨_, .code n u hw, fun s => step_nats (l := [0, n]) (lt_W1 (by decide) (lt_W1 hw lt_W0)) rfl⟩
      · obtain ⟨hn, rfl, rfl⟩ := call_n0 (n := 1) rfl h
        obtain ⟨x, u, rfl⟩ := one_of hn
        obtain ⟨n, rfl, hw⟩ := each1 hb rfl
        exact ⟨_, .num n u hw, fun s => step_nats (l := [1, n]) (lt_W1 (by decide) (lt_W1 hw lt_W0)) rfl⟩
      · obtain ⟨hn, rfl, rfl⟩ := call_n0 (n := 3) rfl h
        obtain ⟨x, u, rfl⟩ := one_of (Nat.le_trans (by decide) hn)
        obtain ⟨y, u, rfl⟩ := one_of (r := u) (by simp only [List.length_cons] at hn; omega)
        obtain ⟨z, u, rfl⟩ := one_of (r := u) (by simp only [List.length_cons] at hn; omega)
        obtain ⟨⟨a, rfl, ha⟩, ⟨b, rfl, hb'⟩, ⟨d, rfl, hd⟩⟩ := each3 hb rfl
        exact ⟨_, .read a b d u ha hb' hd, fun s => step_nats (l := [2, a, b, d]) (lt_W1 (by decide) (lt_W1 ha (lt_W1 hb' (lt_W1 hd lt_W0)))) rfl⟩
      · obtain ⟨hn, rfl, rfl⟩ := call_n0 (n := 4) rfl h
        obtain ⟨x, u, rfl⟩ := one_of (Nat.le_trans (by decide) hn)
        obtain ⟨y, u, rfl⟩ := one_of (r := u) (by simp only [List.length_cons] at hn; omega)
        obtain ⟨z, u, rfl⟩ := one_of (r := u) (by simp only [List.length_cons] at hn; omega)
        obtain ⟨z', u, rfl⟩ := one_of (r := u) (by simp only [List.length_cons] at hn; omega)
        obtain ⟨⟨a, rfl, ha⟩, ⟨b, rfl, hb'⟩, ⟨d, rfl, hd⟩, ⟨v, rfl, hv⟩⟩ := each4 hb rfl
        exact ⟨_, .write a b d v u ha hb' hd hv, fun s => step_nats (l := [3, a, b, d, v]) (lt_W1 (by decide) (lt_W1 ha (lt_W1 hb' (lt_W1 hd (lt_W1 hv lt_W0))))) rfl⟩
      · obtain ⟨hn, rfl, rfl⟩ := call_n0 (n := 1) rfl h
        obtain ⟨x, u, rfl⟩ := one_of hn
        obtain ⟨n, rfl, hw⟩ := each1 hb rfl
        exact ⟨_, .say n u hw, fun s => step_nats (l := [4, n]) (lt_W1 (by decide) (lt_W1 hw lt_W0)) rfl⟩
      · obtain ⟨hn, rfl, rfl⟩ := call_n0 (n := 0) rfl h
        exact ⟨_, .shows _, fun s => step_nats (l := [5]) (lt_W1 (by decide) lt_W0) rfl⟩
      · obtain ⟨hn, m, u, e, m0, mu, rfl, rfl⟩ := call_n1 (n := 1) rfl h
        obtain ⟨x, u', rfl⟩ := one_of hn
        obtain ⟨n, rfl, hw⟩ := each1 hb rfl
        obtain ⟨h40, ns, en, hns⟩ := list1 hb rfl
        have em : m = (ns.length : Int) := by
          have q := congrArg List.length en
          rw [List.length_take, List.length_map, Nat.min_eq_left mu] at q
          omega
        have eu : u' = m :: u := e
        have eq : ((6 : Int) :: (n : Int) :: u') = 6 :: (n : Int) :: (ns.length : Int) :: (ns.map fun (n : Nat) => (n : Int)) ++ u.drop m.toNat := by
          rw [eu, ← em, ← en, List.cons_append, List.cons_append, List.cons_append, List.take_append_drop]
        refine ⟨.run n ns, ?_, fun s => ?_⟩
        · rw [eq]
          refine .run n ns _ hw ?_ hns
          rw [← List.length_map (as := ns) (f := fun (n : Nat) => (n : Int)), ← en]
          exact h40
        · show Cm10Neutral.step s ([6] ++ [(n : Int)] ++ u.take m.toNat) = _
          rw [en]
          exact step_nats (l := 6 :: n :: ns) (lt_W1 (by decide) (lt_W1 hw hns)) rfl
      · obtain ⟨hn, rfl, rfl⟩ := call_n0 (n := 1) rfl h
        obtain ⟨x, u, rfl⟩ := one_of hn
        obtain ⟨n, rfl, hw⟩ := each1 hb rfl
        exact ⟨_, .sees n u hw, fun s => step_nats (l := [7, n]) (lt_W1 (by decide) (lt_W1 hw lt_W0)) rfl⟩
      · obtain ⟨hn, rfl, rfl⟩ := call_n0 (n := 3) rfl h
        obtain ⟨x, u, rfl⟩ := one_of (Nat.le_trans (by decide) hn)
        obtain ⟨y, u, rfl⟩ := one_of (r := u) (by simp only [List.length_cons] at hn; omega)
        obtain ⟨z, u, rfl⟩ := one_of (r := u) (by simp only [List.length_cons] at hn; omega)
        obtain ⟨⟨a, rfl, ha⟩, ⟨b, rfl, hb'⟩, ⟨d, rfl, hd⟩⟩ := each3 hb rfl
        exact ⟨_, .sure a b d u ha hb' hd, fun s => step_nats (l := [8, a, b, d]) (lt_W1 (by decide) (lt_W1 ha (lt_W1 hb' (lt_W1 hd lt_W0)))) rfl⟩
      · obtain ⟨hn, rfl, rfl⟩ := call_n0 (n := 1) rfl h
        obtain ⟨x, u, rfl⟩ := one_of hn
        obtain ⟨n, rfl, hw⟩ := each1 hb rfl
        exact ⟨_, .trade n u hw, fun s => step_nats (l := [9, n]) (lt_W1 (by decide) (lt_W1 hw lt_W0)) rfl⟩
      · obtain ⟨hn, rfl, rfl⟩ := call_n0 (n := 0) rfl h
        exact ⟨_, .better _, fun s => step_nats (l := [10]) (lt_W1 (by decide) lt_W0) rfl⟩
      · obtain ⟨hn, m, u, e, m0, mu, rfl, rfl⟩ := call_n1 (n := 1) rfl h
        obtain ⟨x, u', rfl⟩ := one_of hn
        obtain ⟨n, rfl, hw⟩ := each1 hb rfl
        obtain ⟨h40, ns, en, hns⟩ := list1 hb rfl
        have em : m = (ns.length : Int) := by
          have q := congrArg List.length en
          rw [List.length_take, List.length_map, Nat.min_eq_left mu] at q
          omega
        have eu : u' = m :: u := e
        have eq : ((11 : Int) :: (n : Int) :: u') = 11 :: (n : Int) :: (ns.length : Int) :: (ns.map fun (n : Nat) => (n : Int)) ++ u.drop m.toNat := by
          rw [eu, ← em, ← en, List.cons_append, List.cons_append, List.cons_append, List.take_append_drop]
        refine ⟨.runBetter n ns, ?_, fun s => ?_⟩
        · rw [eq]
          refine .runBetter n ns _ hw ?_ hns
          rw [← List.length_map (as := ns) (f := fun (n : Nat) => (n : Int)), ← en]
          exact h40
        · show Cm10Neutral.step s ([11] ++ [(n : Int)] ++ u.take m.toNat) = _
          rw [en]
          exact step_nats (l := 11 :: n :: ns) (lt_W1 (by decide) (lt_W1 hw hns)) rfl

/-! ### the list taken call by call -/
/-- behind some calls: what is left of the list, the state, what has been told -/
def Left (ns rest : List Int) (s : St) (acc : List Int) : Prop :=
  ∃ f raw, PyFlat.calls PyCm10.shape f rest = some raw ∧ PyInside.calls PyCm10.bound raw = true ∧ PyCm10.answers ns = acc ++ PyFlat.told (PyFlat.played stepC s (raw.map PyCm10.whole))
theorem asked_parts {ns : List Int} (h : PyCm10.answers_asked ns = true) : ∃ raw, PyFlat.calls PyCm10.shape ns.length ns = some raw ∧ PyInside.calls PyCm10.bound raw = true ∧ (PyCm10.answers ns).length ≤ 10000000 := by
  unfold PyCm10.answers_asked at h
  cases e : PyFlat.calls PyCm10.shape ns.length ns with
  | none =>
    rw [e] at h
    cases h
  | some raw =>
    rw [e] at h
    simp only [Bool.and_eq_true] at h
    exact ⟨raw, rfl, h.1.1.2, of_decide_eq_true h.2⟩
theorem Left.start {ns : List Int} (h : PyCm10.answers_asked ns = true) : Left ns ns Cm10.init [] := by
  obtain ⟨raw, e, hb, _⟩ := asked_parts h
  refine ⟨ns.length, raw, e, hb, ?_⟩
  unfold PyCm10.answers PyCm10.calls
  rw [e]
  rfl
theorem told_cons (a : List Int) (l : List (List Int)) : PyFlat.told (a :: l) = ((a.length : Int) :: a) ++ PyFlat.told l := rfl
theorem Left.next {ns rest : List Int} {s : St} {acc : List Int} (h : Left ns rest s acc) (hne : rest ≠ []) :
    ∃ x t, Parsed rest x t ∧ Left ns t (Cm10.step s x).1 (acc ++ (((Cm10.step s x).2.length : Int) :: (Cm10.step s x).2)) := by
  obtain ⟨f, raw, e, hb, q⟩ := h
  cases rest with
  | nil => exact absurd rfl hne
  | cons p r =>
    cases f with
    | zero => cases e
    | succ f =>
      unfold PyFlat.calls at e
      cases e1 : PyFlat.call PyCm10.shape (p :: r) with
      | none =>
        rw [e1] at e
        cases e
      | some ct =>
        obtain ⟨c, t⟩ := ct
        rw [e1] at e
        cases e2 : PyFlat.calls PyCm10.shape f t with
        | none =>
          simp only [e2] at e
          cases e
        | some cs =>
          simp only [e2] at e
          cases e
          have hb' : PyInside.call PyCm10.bound c = true ∧ PyInside.calls PyCm10.bound cs = true := by
            unfold PyInside.calls at hb ⊢
            rw [List.all_cons, Bool.and_eq_true] at hb
            exact hb
          obtain ⟨x, hx, hst⟩ := parsed_of e1 hb'.1
          refine ⟨x, t, hx, f, cs, e2, hb'.2, ?_⟩
          rw [q, List.map_cons]
          show acc ++ PyFlat.told ((stepC s (PyCm10.whole c)).2 :: PyFlat.played stepC (stepC s (PyCm10.whole c)).1 (cs.map PyCm10.whole)) = _
          rw [hst, told_cons, List.append_assoc]
theorem Left.done {ns : List Int} {s : St} {acc : List Int} (h : Left ns [] s acc) : PyCm10.answers ns = acc := by
  obtain ⟨f, raw, e, _, q⟩ := h
  unfold PyFlat.calls at e
  cases e
  rw [q]
  exact List.append_nil _
theorem Left.short {ns rest : List Int} {s : St} {acc : List Int} (h : Left ns rest s acc) (ha : PyCm10.answers_asked ns = true) : acc.length ≤ 10000000 := by
  obtain ⟨_, _, _, hz⟩ := asked_parts ha
  obtain ⟨f, raw, e, _, q⟩ := h
  rw [q, List.length_append] at hz
  omega

/-! ### what stays true of the state -/
def givesN (rs : List Row) : Nat := (rs.filter fun r => r.gives.isSome).length
theorem take_succ {α : Type} {l : List α} {i : Nat} {x : α} (h : l[i]? = some x) : l.take (i + 1) = l.take i ++ [x] := by
  rw [List.take_add_one, h]
  rfl
theorem givesN_append (l m : List Row) : givesN (l ++ m) = givesN l + givesN m := by
  unfold givesN
  rw [List.filter_append, List.length_append]
theorem givesN_one (r : Row) : givesN [r] = if r.gives.isSome then 1 else 0 := by
  unfold givesN
  cases e : r.gives.isSome <;> simp [e]
theorem givesN_more {rs : List Row} {i : Nat} {r : Row} (h : rs[i]? = some r) : givesN (rs.take (i + 1)) = givesN (rs.take i) + if r.gives.isSome then 1 else 0 := by
  rw [take_succ h, givesN_append, givesN_one]
theorem givesN_le (rs : List Row) : givesN rs ≤ rs.length := List.length_filter_le _ _
/-- a place that the code may have: k words are handed over -/
def PlaceOk (k : Nat) (p : Place) : Prop := (∀ b, p.base = some b → b < k) ∧ p.off < W
/-- a row that may stand where n names are -/
def RowOk (k n : Nat) : Row → Prop
  | .num x v => x = n ∧ v < W
  | .read x a p => x = n ∧ a < 4 ∧ PlaceOk k p
  | .write a p v => a < 4 ∧ PlaceOk k p ∧ v < n
  | .say v => v < n
structure Good (s : St) : Prop where
  args : s.code.args ≤ 4
  rows : s.code.rows.length ≤ 16
  next : s.next = s.code.args + givesN s.code.rows
  each : ∀ i r, s.code.rows[i]? = some r → RowOk s.code.args (s.code.args + givesN (s.code.rows.take i)) r
theorem Good.init : Good Cm10.init := ⟨by decide, by decide, rfl, fun i r h => by cases i <;> cases h⟩
theorem good_code {k : Nat} (h : k ≤ 4) : Good ⟨⟨k, []⟩, k⟩ := ⟨h, Nat.zero_le _, rfl, fun i r h => by cases i <;> cases h⟩
theorem Good.rowed {s : St} {r : Row} (g : Good s) (h : RowOk s.code.args s.next r) : Good (Cm10.rowed s r).1 := by
  unfold Cm10.rowed
  by_cases c : ROWS ≤ s.code.rows.length
  · rw [if_pos c]
    exact g
  · rw [if_neg c]
    have c' : s.code.rows.length < 16 := by
      unfold ROWS at c
      omega
    refine ⟨g.args, ?_, ?_, fun i q hq => ?_⟩
    · show (s.code.rows ++ [r]).length ≤ 16
      rw [List.length_append, List.length_singleton]
      omega
    · show s.next + _ = s.code.args + givesN (s.code.rows ++ [r])
      rw [givesN_append, givesN_one, g.next]
      omega
    · show RowOk s.code.args (s.code.args + givesN ((s.code.rows ++ [r]).take i)) q
      have hq' : (s.code.rows ++ [r])[i]? = some q := hq
      rw [List.getElem?_append] at hq'
      by_cases d : i < s.code.rows.length
      · rw [if_pos d] at hq'
        rw [List.take_append_of_le_length (by omega)]
        exact g.each i q hq'
      · rw [if_neg d] at hq'
        have e : i = s.code.rows.length := by
          have := (List.getElem?_eq_some_iff.mp hq').1
          simp at this
          omega
        subst e
        rw [Nat.sub_self] at hq'
        cases hq'
        rw [List.take_left', ← g.next]
        · exact h
        · rfl
theorem placeOf_some {s : St} {b c : Nat} {p : Place} (h : placeOf s b c = some p) (hc : c < W) : b ≤ s.code.args ∧ p = ⟨if b = 0 then none else some (b - 1), c⟩ ∧ PlaceOk s.code.args p := by
  unfold placeOf at h
  by_cases b0 : b = 0
  · rw [if_pos b0] at h
    cases h
    refine ⟨by omega, by rw [if_pos b0], ⟨fun b h => (by cases h), hc⟩⟩
  · rw [if_neg b0] at h
    by_cases b1 : b ≤ s.code.args
    · rw [if_pos b1] at h
      cases h
      refine ⟨b1, by rw [if_neg b0], ⟨fun d h => ?_, hc⟩⟩
      cases h
      omega
    · rw [if_neg b1] at h
      cases h
theorem placeOf_none {s : St} {b c : Nat} (h : placeOf s b c = none) : ¬ b ≤ s.code.args := by
  unfold placeOf at h
  by_cases b0 : b = 0
  · rw [if_pos b0] at h
    cases h
  · rw [if_neg b0] at h
    by_cases b1 : b ≤ s.code.args
    · rw [if_pos b1] at h
      cases h
    · exact b1
theorem Good.step {s : St} {l t : List Int} {x : Call} (g : Good s) (h : Parsed l x t) : Good (Cm10.step s x).1 := by
  cases h with
  | code k t hk =>
    show Good (if 4 < k then (s, [-1]) else (⟨⟨k, []⟩, k⟩, Cm10.ints [k])).1
    by_cases c : 4 < k
    · rw [if_pos c]
      exact g
    · rw [if_neg c]
      exact good_code (by omega)
  | num k t hk => exact g.rowed ⟨rfl, hk⟩
  | read a b c t ha hb hc =>
    show Good (match placeOf s b c with
      | none => (s, [-2])
      | some p => if 3 < a then (s, [-2]) else Cm10.rowed s (.read s.next a p)).1
    cases e : placeOf s b c with
    | none => exact g
    | some p =>
      show Good (if 3 < a then (s, [-2]) else Cm10.rowed s (.read s.next a p)).1
      by_cases d : 3 < a
      · rw [if_pos d]
        exact g
      · rw [if_neg d]
        exact g.rowed ⟨rfl, by omega, (placeOf_some e hc).2.2⟩
  | write a b c v t ha hb hc hv =>
    show Good (match placeOf s b c with
      | none => (s, [-2])
      | some p => if 3 < a ∨ s.next ≤ v then (s, [-2]) else Cm10.rowed s (.write a p v)).1
    cases e : placeOf s b c with
    | none => exact g
    | some p =>
      show Good (if 3 < a ∨ s.next ≤ v then (s, [-2]) else Cm10.rowed s (.write a p v)).1
      by_cases d : 3 < a ∨ s.next ≤ v
      · rw [if_pos d]
        exact g
      · rw [if_neg d]
        exact g.rowed ⟨by omega, (placeOf_some e hc).2.2, by omega⟩
  | say v t hv =>
    show Good (if s.next ≤ v then (s, [-2]) else Cm10.rowed s (.say v)).1
    by_cases d : s.next ≤ v
    · rw [if_pos d]
      exact g
    · rw [if_neg d]
      exact g.rowed (show v < s.next by omega)
  | shows t => exact g
  | run _ _ _ => exact g
  | sees _ _ => exact g
  | sure _ _ _ _ => exact g
  | trade _ _ => exact g
  | better _ => exact g
  | runBetter _ _ _ => exact g
end Seen
/-! The specification's side again: what the program asks of rows one by one, as the specification says it of all rows. -/
namespace Seen
open Cm10

/-! ### places and rows in numbers -/
def pB (p : Place) : Nat := match p.base with
  | some b => b + 1
  | none => 0
theorem nums_pl (p : Place) : p.nums = [pB p, p.off] := rfl
theorem pB_eq {p q : Place} : pB p = pB q ↔ p.base = q.base := by
  cases p with
  | mk b c =>
    cases q with
    | mk b' c' =>
      cases b <;> cases b' <;> simp [pB]
theorem place_eq {p q : Place} : p = q ↔ pB p = pB q ∧ p.off = q.off := by
  rw [pB_eq]
  cases p
  cases q
  simp
theorem never_is (p q : Place) : never p q = (decide (pB p = pB q) && !decide (p.off = q.off)) := by
  unfold never
  have e1 : (p.base == q.base) = decide (pB p = pB q) := by
    rw [Bool.eq_iff_iff, beq_iff_eq, decide_eq_true_iff, pB_eq]
  have e2 : (p.off == q.off) = decide (p.off = q.off) := by
    rw [Bool.eq_iff_iff, beq_iff_eq, decide_eq_true_iff]
  rw [e1, e2]
def used : Row → Option Nat
  | .write _ _ v => some v
  | .say v => some v
  | _ => none
def cellsR : Row → Option Nat
  | .read _ a _ => some a
  | .write a _ _ => some a
  | _ => none
/-- a write of a place that passes h, in the row of cells a -/
def wA (a : Nat) (h : Place → Bool) : Row → Bool
  | .write b q _ => decide (b = a) && h q
  | _ => false
def wAt (a : Nat) (p : Place) : Row → Bool := wA a fun q => decide (q = p)
theorem wA_or (a : Nat) (p q : Place) (r : Row) : wA a (fun u => u == q || u == p) r = (wAt a q r || wAt a p r) := by
  cases r with
  | write b u v =>
    show (decide (b = a) && (u == q || u == p)) = ((decide (b = a) && decide (u = q)) || (decide (b = a) && decide (u = p)))
    have e : ∀ w : Place, (u == w) = decide (u = w) := fun w => by rw [Bool.eq_iff_iff, beq_iff_eq, decide_eq_true_iff]
    rw [e, e]
    cases decide (b = a) <;> rfl
  | _ => rfl

/-! ### the writes in a row of cells -/
def wOne (a k : Nat) : Row → List (Nat × Place)
  | .write b p _ => if b = a then [(k, p)] else []
  | _ => []
def wIn (a : Nat) : List Row → Nat → List (Nat × Place)
  | [], _ => []
  | r :: l, k => wOne a k r ++ wIn a l (k + 1)
theorem wIn_is (a : Nat) : ∀ (l : List Row) (k : Nat), ((l.zipIdx k).filterMap fun q => match q.1 with
    | .write b p _ => if b = a then some (q.2, p) else none
    | _ => none) = wIn a l k
  | [], _ => rfl
  | r :: l, k => by
    rw [List.zipIdx_cons, List.filterMap_cons]
    cases r with
    | write b p v =>
      by_cases e : b = a
      · simp only [if_pos e, wIn, wOne, wIn_is a l (k + 1)]
        rfl
      · simp only [if_neg e, wIn, wOne, wIn_is a l (k + 1)]
        rfl
    | _ =>
      simp only [wIn, wOne, wIn_is a l (k + 1)]
      rfl
theorem writesIn_is (c : Code) (a : Nat) : writesIn c a = wIn a c.rows 0 := wIn_is a c.rows 0
theorem wIn_below (a j : Nat) : ∀ (l : List Row) (k : Nat), (wIn a l k).filter (fun w => decide (w.1 < j)) = wIn a (l.take (j - k)) k
  | [], k => by
    rw [List.take_nil]
    rfl
  | r :: l, k => by
    show (wOne a k r ++ wIn a l (k + 1)).filter _ = _
    rw [List.filter_append, wIn_below a j l (k + 1)]
    by_cases h : k < j
    · rw [show j - k = (j - (k + 1)) + 1 by omega, List.take_succ_cons]
      show _ = wOne a k r ++ _
      congr 1
      cases r with
      | write b p v =>
        show (if b = a then [(k, p)] else []).filter _ = if b = a then [(k, p)] else []
        by_cases e : b = a
        · rw [if_pos e, List.filter_cons_of_pos (by simpa using h)]
          rfl
        · rw [if_neg e]
          rfl
      | _ => rfl
    · rw [show j - k = 0 by omega, show j - (k + 1) = 0 by omega, List.take_zero, List.take_zero]
      show _ ++ [] = []
      rw [List.append_nil]
      cases r with
      | write b p v =>
        show (if b = a then [(k, p)] else []).filter _ = []
        by_cases e : b = a
        · rw [if_pos e, List.filter_cons_of_neg (by simpa using h)]
          rfl
        · rw [if_neg e]
          rfl
      | _ => rfl
theorem wOne_any (a k : Nat) (g : Nat × Place → Bool) (r : Row) : (wOne a k r).any g = wA a (fun q => g (k, q)) r := by
  cases r with
  | write b p v =>
    show (if b = a then [(k, p)] else []).any g = (decide (b = a) && g (k, p))
    by_cases e : b = a
    · rw [if_pos e, decide_eq_true e]
      simp
    · rw [if_neg e, decide_eq_false e]
      rfl
  | _ => rfl
theorem wIn_behind (a i : Nat) (h : Place → Bool) : ∀ (l : List Row) (k : Nat), (wIn a l k).any (fun u => decide (i < u.1) && h u.2) = (l.drop (i + 1 - k)).any (wA a h)
  | [], k => by
    rw [List.drop_nil]
    rfl
  | r :: l, k => by
    show (wOne a k r ++ wIn a l (k + 1)).any _ = _
    rw [List.any_append, wIn_behind a i h l (k + 1), wOne_any]
    by_cases e : i < k
    · rw [show i + 1 - k = 0 by omega, show i + 1 - (k + 1) = 0 by omega, List.drop_zero, List.drop_zero, List.any_cons]
      simp only [decide_eq_true e, Bool.true_and]
    · rw [show i + 1 - k = (i + 1 - (k + 1)) + 1 by omega, List.drop_succ_cons]
      simp only [decide_eq_false e, Bool.false_and]
      have z : wA a (fun _ => false) r = false := by
        cases r <;> simp [wA]
      rw [z, Bool.false_or]
theorem wIn_all (a : Nat) (h : Place → Bool) : ∀ (l : List Row) (k : Nat), (wIn a l k).any (fun u => h u.2) = l.any (wA a h)
  | [], k => rfl
  | r :: l, k => by
    show (wOne a k r ++ wIn a l (k + 1)).any _ = _
    rw [List.any_append, wIn_all a h l (k + 1), wOne_any, List.any_cons]
theorem wIn_snoc (a : Nat) (r : Row) : ∀ (l : List Row) (k : Nat), wIn a (l ++ [r]) k = wIn a l k ++ wOne a (k + l.length) r
  | [], k => by
    show wOne a k r ++ [] = [] ++ wOne a (k + 0) r
    rw [List.append_nil, List.nil_append, Nat.add_zero]
  | x :: l, k => by
    show wOne a k x ++ wIn a (l ++ [r]) (k + 1) = (wOne a k x ++ wIn a l (k + 1)) ++ wOne a (k + (l.length + 1)) r
    rw [wIn_snoc a r l (k + 1), List.append_assoc, show k + 1 + l.length = k + (l.length + 1) by omega]
/-- may the read in row j (of p in a) see what was there at first -/
theorem mayFirst_is (c : Code) (j a : Nat) (p : Place) : mayFirst c j a p = !(c.rows.take j).any (wAt a p) := by
  unfold mayFirst
  rw [writesIn_is]
  congr 1
  have e := wIn_below a j c.rows 0
  have e2 := wIn_all a (fun q => decide (q = p)) (c.rows.take (j - 0)) 0
  rw [← e, List.any_filter] at e2
  rw [Nat.sub_zero] at e2
  refine Eq.trans ?_ e2
  first
    | rfl
    | (congr 1; done)
    | (congr 1; funext w; rw [show (w.2 == p) = decide (w.2 = p) by rw [Bool.eq_iff_iff, beq_iff_eq, decide_eq_true_iff]])
/-- may the read in row j (of p in a) see what is in row i -/
def seesB (rows : List Row) (j a : Nat) (p : Place) (i : Nat) : Bool := match rows[i]? with
  | some (.write b q _) => decide (b = a) && (!never q p && !((rows.take j).drop (i + 1)).any fun r => wAt a q r || wAt a p r)
  | _ => false
theorem filt_range (a : Nat) (g : Nat × Place → Bool) (rows : List Row) : ∀ j, j ≤ rows.length → ((wIn a (rows.take j) 0).filter g).map (fun w => w.1) = (List.range j).filter fun i => match rows[i]? with
    | some (Row.write b q _) => decide (b = a) && g (i, q)
    | _ => false
  | 0, _ => by
    rw [List.take_zero]
    rfl
  | j + 1, h => by
    have hj : rows[j]? = some rows[j] := List.getElem?_eq_getElem (by omega)
    rw [take_succ hj, wIn_snoc, List.filter_append, List.map_append, filt_range a g rows j (by omega), List.range_succ, List.filter_append]
    congr 1
    rw [List.length_take, Nat.min_eq_left (by omega), Nat.zero_add]
    cases e : rows[j] with
    | write b q v =>
      rw [e] at hj
      show (List.filter g (if b = a then [(j, q)] else [])).map _ = _
      by_cases c : b = a
      · rw [if_pos c]
        cases d : g (j, q) <;> simp [d, hj, c]
      · rw [if_neg c]
        simp [hj, c]
    | num x k =>
      rw [e] at hj
      simp [wOne, hj]
    | read x b q =>
      rw [e] at hj
      simp [wOne, hj]
    | say v =>
      rw [e] at hj
      simp [wOne, hj]
theorem maySee_is (c : Code) (j a : Nat) (p : Place) (hj : j ≤ c.rows.length) : maySee c j a p = (List.range j).filter (seesB c.rows j a p) := by
  unfold maySee
  rw [writesIn_is, wIn_below, Nat.sub_zero]
  rw [filt_range a _ c.rows j hj]
  refine List.filter_congr fun i _ => ?_
  unfold seesB
  cases e : c.rows[i]? with
  | none => rfl
  | some r =>
    cases r with
    | write b q v =>
      show (decide (b = a) && (!never q p && !(wIn a (c.rows.take j) 0).any fun u => decide (i < u.1) && (u.2 == q || u.2 == p))) = _
      rw [wIn_behind a i (fun u => u == q || u == p) (c.rows.take j) 0, Nat.sub_zero]
      have e2 : (wA a fun u => u == q || u == p) = fun r => wAt a q r || wAt a p r := funext fun r => wA_or a p q r
      rw [e2]
    | _ => rfl

/-! ### seen later -/
/-- a read among l, behind pre, may see a write of p in a ahead of all -/
def readSees (a : Nat) (p : Place) : List Row → List Row → Bool
  | _, [] => false
  | pre, r :: l => (match r with
    | .read _ b q => decide (b = a) && (!never p q && !pre.any fun s => wAt a p s || wAt a q s)
    | _ => false) || readSees a p (pre ++ [r]) l
theorem seenLater_is (a : Nat) (p : Place) : ∀ (l pre : List Row) (over : List Place), (∀ q, over.contains q = pre.any (wAt a q)) → seenLater a p l over = (readSees a p pre l || (lasts a && !(pre ++ l).any (wAt a p)))
  | [], pre, over, h => by
    show (lasts a && !over.contains p) = (false || _)
    rw [h, Bool.false_or, List.append_nil]
  | r :: l, pre, over, h => by
    have eL : pre ++ r :: l = (pre ++ [r]) ++ l := by rw [List.append_assoc]; rfl
    cases r with
    | num x k =>
      show seenLater a p l over = ((false || readSees a p (pre ++ [.num x k]) l) || _)
      rw [seenLater_is a p l (pre ++ [.num x k]) over (fun q => by rw [h, List.any_append]; simp [wAt, wA]), Bool.false_or, eL]
    | say v =>
      show seenLater a p l over = ((false || readSees a p (pre ++ [.say v]) l) || _)
      rw [seenLater_is a p l (pre ++ [.say v]) over (fun q => by rw [h, List.any_append]; simp [wAt, wA]), Bool.false_or, eL]
    | write b q v =>
      show (if b = a then seenLater a p l (q :: over) else seenLater a p l over) = ((false || readSees a p (pre ++ [.write b q v]) l) || _)
      rw [Bool.false_or, eL]
      by_cases c : b = a
      · rw [if_pos c]
        refine seenLater_is a p l (pre ++ [.write b q v]) (q :: over) fun u => ?_
        rw [List.any_append, ← h u, List.contains_cons]
        simp only [List.any_cons, List.any_nil, Bool.or_false, wAt, wA, decide_eq_true c, Bool.true_and]
        rw [Bool.or_comm]
        congr 1
        rw [Bool.eq_iff_iff, beq_iff_eq, decide_eq_true_iff]
        exact eq_comm
      · rw [if_neg c]
        refine seenLater_is a p l (pre ++ [.write b q v]) over fun u => ?_
        rw [List.any_append, ← h u]
        simp [wAt, wA, c]
    | read x b q =>
      show ((b == a && (!never p q && (!over.contains p && !over.contains q))) || seenLater a p l over) = (((decide (b = a) && (!never p q && !pre.any fun s => wAt a p s || wAt a q s)) || readSees a p (pre ++ [.read x b q]) l) || _)
      rw [seenLater_is a p l (pre ++ [.read x b q]) over (fun u => by rw [h, List.any_append]; simp [wAt, wA]), eL, Bool.or_assoc, h, h]
      have e : (b == a) = decide (b = a) := by rw [Bool.eq_iff_iff, beq_iff_eq, decide_eq_true_iff]
      have e2 : (!pre.any fun s => wAt a p s || wAt a q s) = (!pre.any (wAt a p) && !pre.any (wAt a q)) := by
        rw [← Bool.not_or]
        congr 1
        induction pre with
        | nil => rfl
        | cons s t ih =>
          simp only [List.any_cons]
          rw [show (t.any fun s => wAt a p s || wAt a q s) = (t.any (wAt a p) || t.any (wAt a q)) from ?_]
          · cases wAt a p s <;> cases wAt a q s <;> cases t.any (wAt a p) <;> cases t.any (wAt a q) <;> rfl
          · clear ih h eL
            induction t with
            | nil => rfl
            | cons s t ih =>
              simp only [List.any_cons, ih]
              cases wAt a p s <;> cases wAt a q s <;> cases t.any (wAt a p) <;> cases t.any (wAt a q) <;> rfl
      rw [e, e2]

/-! ### names that stand -/
def RowD (k : Nat) (d : Nat → Prop) : Row → Prop
  | .num x _ => k ≤ x
  | .read x a p => k ≤ x ∧ a < 4 ∧ PlaceOk k p
  | .write a p v => a < 4 ∧ PlaceOk k p ∧ d v
  | .say v => d v
theorem RowD.mono {k : Nat} {d d' : Nat → Prop} {r : Row} (h : RowD k d r) (m : ∀ y, d y → d' y) : RowD k d' r := by
  cases r with
  | num => exact h
  | read => exact h
  | write => exact ⟨h.1, h.2.1, m _ h.2.2⟩
  | say => exact m _ h
/-- y is handed over, or given by one of the rows -/
def Has (k : Nat) (l : List Row) (y : Nat) : Prop := y < k ∨ ∃ s ∈ l, s.gives = some y
theorem Has.mono {k : Nat} {l m : List Row} {y : Nat} (h : Has k l y) (i : ∀ s ∈ l, s ∈ m) : Has k m y := h.imp id fun ⟨s, hs, e⟩ => ⟨s, i s hs, e⟩
/-- rows whose names stand ahead of them -/
def Df (k : Nat) (rows : List Row) : Prop := ∀ i r, rows[i]? = some r → RowD k (Has k (rows.take i)) r
theorem Df.nil (k : Nat) : Df k [] := fun i r h => by simp at h
theorem Df.snoc {k : Nat} {rows : List Row} {r : Row} (h : Df k rows) (hr : RowD k (Has k rows) r) : Df k (rows ++ [r]) := by
  intro i q hq
  rw [List.getElem?_append] at hq
  by_cases c : i < rows.length
  · rw [if_pos c] at hq
    rw [List.take_append_of_le_length (by omega)]
    exact h i q hq
  · rw [if_neg c] at hq
    have e : i = rows.length := by
      have := (List.getElem?_eq_some_iff.mp hq).1
      simp at this
      omega
    subst e
    rw [Nat.sub_self] at hq
    cases hq
    rw [List.take_left' rfl]
    exact hr
theorem has_of_lt {k : Nat} : ∀ (rows : List Row) (v : Nat), (∀ i r, rows[i]? = some r → RowOk k (k + givesN (rows.take i)) r) → v < k + givesN rows → Has k rows v := by
  intro rows
  suffices H : ∀ n, n ≤ rows.length → ∀ v, (∀ i r, rows[i]? = some r → RowOk k (k + givesN (rows.take i)) r) → v < k + givesN (rows.take n) → Has k (rows.take n) v by
    intro v h hv
    have := H rows.length (Nat.le_refl _) v h (by rw [List.take_length]; exact hv)
    rw [List.take_length] at this
    exact this
  intro n
  induction n with
  | zero =>
    intro _ v _ hv
    rw [List.take_zero] at hv
    exact .inl hv
  | succ n ih =>
    intro hn v h hv
    have e : rows[n]? = some rows[n] := List.getElem?_eq_getElem (by omega)
    by_cases c : v < k + givesN (rows.take n)
    · refine (ih (by omega) v h c).mono fun s hs => ?_
      rw [take_succ e]
      exact List.mem_append_left _ hs
    · rw [givesN_more e] at hv
      have r := h n _ e
      cases g : rows[n].gives with
      | none =>
        rw [g] at hv
        simp at hv
        omega
      | some x =>
        rw [g] at hv
        simp at hv
        have ev : v = k + givesN (rows.take n) := by omega
        refine .inr ⟨rows[n], ?_, ?_⟩
        · rw [take_succ e]
          exact List.mem_append_right _ (List.mem_singleton.mpr rfl)
        · rw [g, ev]
          cases z : rows[n] with
          | num x' _ =>
            rw [z] at r g
            cases g
            exact congrArg some r.1
          | read x' _ _ =>
            rw [z] at r g
            cases g
            exact congrArg some r.1
          | write _ _ _ =>
            rw [z] at g
            cases g
          | say _ =>
            rw [z] at g
            cases g
theorem Good.df {s : St} (g : Good s) : Df s.code.args s.code.rows := by
  intro i r h
  have q := g.each i r h
  have hi := (List.getElem?_eq_some_iff.mp h).1
  have hh : ∀ v, v < s.code.args + givesN (s.code.rows.take i) → Has s.code.args (s.code.rows.take i) v := fun v hv => by
    refine has_of_lt (s.code.rows.take i) v (fun j r' h' => ?_) hv
    have hj := (List.getElem?_eq_some_iff.mp h').1
    rw [List.length_take] at hj
    rw [List.getElem?_take, if_pos (by omega)] at h'
    rw [List.take_take, Nat.min_eq_left (by omega)]
    exact g.each j r' h'
  cases r with
  | num x v => exact (show s.code.args ≤ x by rw [q.1]; omega)
  | read x a p => exact ⟨by rw [q.1]; omega, q.2.1, q.2.2⟩
  | write a p v => exact ⟨q.1, q.2.1, hh v q.2.2⟩
  | say v => exact hh v q

/-! ### forward keeps names -/
theorem sureBack_has {k a : Nat} {p : Place} {kept : List Row} (hd : ∀ r ∈ kept, RowD k (Has k kept) r) : ∀ (l : List Row) (cand : Option Nat) (over : List Place), (∀ r ∈ l, r ∈ kept) → ∀ y, sureBack a p l cand over = some y → Has k kept y
  | [], cand, over, _, y, h => by cases h
  | .num x n :: l, cand, over, hl, y, h => sureBack_has hd l cand over (fun r hr => hl r (List.mem_cons_of_mem _ hr)) y h
  | .say v :: l, cand, over, hl, y, h => sureBack_has hd l cand over (fun r hr => hl r (List.mem_cons_of_mem _ hr)) y h
  | .write b q v :: l, cand, over, hl, y, h => by
    have ht := fun r (hr : r ∈ l) => hl r (List.mem_cons_of_mem _ hr)
    have hv : Has k kept v := (hd _ (hl _ (List.mem_cons_self ..))).2.2
    unfold sureBack at h
    by_cases c1 : b ≠ a ∨ never q p = true ∨ over.contains q = true
    · rw [if_pos c1] at h
      exact sureBack_has hd l cand over ht y h
    · rw [if_neg c1] at h
      by_cases c2 : cand.isSome = true ∧ cand ≠ some v
      · rw [if_pos c2] at h
        cases h
      · rw [if_neg c2] at h
        by_cases c3 : q = p
        · rw [if_pos c3] at h
          cases h
          exact hv
        · rw [if_neg c3] at h
          exact sureBack_has hd l (some v) (q :: over) ht y h
  | .read x b q :: l, cand, over, hl, y, h => by
    have ht := fun r (hr : r ∈ l) => hl r (List.mem_cons_of_mem _ hr)
    unfold sureBack at h
    by_cases c1 : b = a ∧ q = p
    · rw [if_pos c1] at h
      by_cases c2 : cand.isSome = true ∧ cand ≠ some x
      · rw [if_pos c2] at h
        cases h
      · rw [if_neg c2] at h
        cases h
        exact .inr ⟨_, hl _ (List.mem_cons_self ..), rfl⟩
    · rw [if_neg c1] at h
      exact sureBack_has hd l cand over ht y h
theorem Df.mem {k : Nat} {rows : List Row} (h : Df k rows) : ∀ r ∈ rows, RowD k (Has k rows) r := by
  intro r hr
  obtain ⟨i, hi, e⟩ := List.mem_iff_getElem.mp hr
  exact (h i r (by rw [List.getElem?_eq_getElem hi, e])).mono fun y hy => hy.mono fun s hs => List.mem_of_mem_take hs
theorem sure_has {k a : Nat} {p : Place} {kept : List Row} (h : Df k kept) {y : Nat} (e : Cm10.sure kept a p = some y) : Has k kept y :=
  sureBack_has h.mem kept.reverse none [] (fun r hr => List.mem_reverse.mp hr) y e
theorem numIn_has {k n : Nat} {kept : List Row} {y : Nat} (e : numIn kept n = some y) : Has k kept y := by
  unfold numIn at e
  obtain ⟨r, hr, e⟩ := List.exists_of_findSome?_eq_some e
  refine .inr ⟨r, hr, ?_⟩
  cases r with
  | num x m =>
    by_cases c : m = n
    · simp only [if_pos c] at e
      exact e
    · simp only [if_neg c] at e
      cases e
  | _ => cases e
theorem meant_cons (s : Stand) (x y z : Nat) : meant ((x, y) :: s) z = if x = z then y else meant s z := by
  have e : ((x, y) :: s).find? (fun q => q.1 == z) = if x = z then some (x, y) else s.find? (fun q => q.1 == z) := by
    by_cases c : x = z
    · rw [if_pos c, List.find?_cons_of_pos (by simp [c])]
    · rw [if_neg c, List.find?_cons_of_neg (by simp [c])]
  unfold meant
  rw [e]
  by_cases c : x = z
  · rw [if_pos c, if_pos c]
  · rw [if_neg c, if_neg c]
/-- what stays true of the rows kept and the names that stand for others -/
structure Fwd (k : Nat) (seen kept : List Row) (s : Stand) : Prop where
  df : Df k kept
  std : ∀ y, Has k seen y → Has k kept (meant s y)
  len : kept.length ≤ seen.length
  key : ∀ q ∈ s, q.1 < k + givesN seen
theorem Fwd.start (k : Nat) : Fwd k [] [] [] := ⟨Df.nil k, fun y h => h, Nat.le_refl _, fun q h => by cases h⟩
theorem has_snoc {k : Nat} {l : List Row} {r : Row} {y : Nat} (h : Has k (l ++ [r]) y) : Has k l y ∨ r.gives = some y := by
  rcases h with h | ⟨s, hs, e⟩
  · exact .inl (.inl h)
  · rcases List.mem_append.mp hs with hs | hs
    · exact .inl (.inr ⟨s, hs, e⟩)
    · rw [List.mem_singleton.mp hs] at e
      exact .inr e
theorem has_grow {k : Nat} {l : List Row} {r : Row} {y : Nat} (h : Has k l y) : Has k (l ++ [r]) y := h.mono fun s hs => List.mem_append_left _ hs
theorem givesN_snoc (l : List Row) (r : Row) : givesN l ≤ givesN (l ++ [r]) := by
  rw [givesN_append]
  omega
theorem givesN_snoc1 (l : List Row) {r : Row} {x : Nat} (g : r.gives = some x) : givesN (l ++ [r]) = givesN l + 1 := by
  rw [givesN_append, givesN_one, g]
  rfl
/-- a row that gives a name goes: its name stands for another -/
theorem Fwd.drop {k : Nat} {seen kept : List Row} {s : Stand} {r : Row} {y : Nat} (h : Fwd k seen kept s) (g : r.gives = some (k + givesN seen)) (hy : Has k kept y) : Fwd k (seen ++ [r]) kept ((k + givesN seen, y) :: s) := by
  refine ⟨h.df, fun z hz => ?_, ?_, fun q hq => ?_⟩
  · rw [meant_cons]
    by_cases c : k + givesN seen = z
    · rw [if_pos c]
      exact hy
    · rw [if_neg c]
      rcases has_snoc hz with hz | e
      · exact h.std z hz
      · rw [g] at e
        exact absurd (Option.some.inj e) c
  · have := h.len
    rw [List.length_append, List.length_singleton]
    omega
  · rw [givesN_snoc1 seen g]
    rcases List.mem_cons.mp hq with e | hq
    · rw [e]
      exact Nat.lt_succ_self _
    · have := h.key q hq
      omega
/-- a row that gives a name is kept -/
theorem Fwd.keep {k : Nat} {seen kept : List Row} {s : Stand} {r : Row} (h : Fwd k seen kept s) (hd : RowD k (Has k kept) r) (g : r.gives = some (k + givesN seen)) : Fwd k (seen ++ [r]) (kept ++ [r]) s := by
  have hx : meant s (k + givesN seen) = k + givesN seen := by
    have e : s.find? (fun q => q.1 == k + givesN seen) = none := List.find?_eq_none.mpr fun q hq z => by
      have := h.key q hq
      have := beq_iff_eq.mp z
      omega
    unfold meant
    rw [e]
  refine ⟨h.df.snoc hd, fun z hz => ?_, ?_, fun q hq => ?_⟩
  · rcases has_snoc hz with hz | e
    · exact has_grow (h.std z hz)
    · rw [g] at e
      cases e
      rw [hx]
      exact .inr ⟨r, List.mem_append_right _ (List.mem_singleton.mpr rfl), g⟩
  · have := h.len
    simp only [List.length_append, List.length_singleton]
    omega
  · have := h.key q hq
    have := givesN_snoc seen r
    omega
/-- a row that gives none is kept, with another name in it, or goes -/
theorem Fwd.put {k : Nat} {seen kept : List Row} {s : Stand} {r r' : Row} (h : Fwd k seen kept s) (hd : RowD k (Has k kept) r') (g : r.gives = none) : Fwd k (seen ++ [r]) (kept ++ [r']) s := by
  refine ⟨h.df.snoc hd, fun z hz => ?_, ?_, fun q hq => ?_⟩
  · rcases has_snoc hz with hz | e
    · exact has_grow (h.std z hz)
    · rw [g] at e
      cases e
  · have := h.len
    simp only [List.length_append, List.length_singleton]
    omega
  · have := h.key q hq
    have := givesN_snoc seen r
    omega
theorem Fwd.skip {k : Nat} {seen kept : List Row} {s : Stand} {r : Row} (h : Fwd k seen kept s) (g : r.gives = none) : Fwd k (seen ++ [r]) kept s := by
  refine ⟨h.df, fun z hz => ?_, ?_, fun q hq => ?_⟩
  · rcases has_snoc hz with hz | e
    · exact h.std z hz
    · rw [g] at e
      cases e
  · have := h.len
    rw [List.length_append, List.length_singleton]
    omega
  · have := h.key q hq
    have := givesN_snoc seen r
    omega
theorem forward_df {k : Nat} : ∀ (l seen kept : List Row) (s : Stand), Fwd k seen kept s → (∀ i r, (seen ++ l)[i]? = some r → RowOk k (k + givesN ((seen ++ l).take i)) r) →
    Df k (forward l kept s) ∧ (forward l kept s).length ≤ (seen ++ l).length
  | [], seen, kept, s, h, _ => ⟨h.df, by rw [List.append_nil]; exact h.len⟩
  | r :: l, seen, kept, s, h, ok => by
    have eL : seen ++ r :: l = (seen ++ [r]) ++ l := by rw [List.append_assoc]; rfl
    have o := ok seen.length r (by rw [List.getElem?_append_right (Nat.le_refl _), Nat.sub_self]; rfl)
    rw [List.take_left' rfl] at o
    have hh : ∀ v, v < k + givesN seen → Has k seen v := fun v hv => by
      refine has_of_lt seen v (fun j r' h' => ?_) hv
      have hj := (List.getElem?_eq_some_iff.mp h').1
      have q := ok j r' (by rw [List.getElem?_append_left hj]; exact h')
      rw [List.take_append_of_le_length (Nat.le_of_lt hj)] at q
      exact q
    rw [eL] at ok ⊢
    cases r with
    | num x n =>
      obtain ⟨rfl, hn⟩ := o
      unfold forward
      cases e : numIn kept n with
      | some y => exact forward_df l _ kept _ (h.drop rfl (numIn_has e)) ok
      | none => exact forward_df l _ _ s (h.keep (Nat.le_add_right _ _) rfl) ok
    | read x a p =>
      obtain ⟨rfl, ha, hp⟩ := o
      unfold forward
      cases e : Cm10.sure kept a p with
      | some y => exact forward_df l _ kept _ (h.drop rfl (sure_has h.df e)) ok
      | none => exact forward_df l _ _ s (h.keep ⟨Nat.le_add_right _ _, ha, hp⟩ rfl) ok
    | write a p v =>
      obtain ⟨ha, hp, hv⟩ := o
      unfold forward
      by_cases c : Cm10.sure kept a p = some (meant s v)
      · rw [if_pos c]
        exact forward_df l _ kept s (h.skip rfl) ok
      · rw [if_neg c]
        exact forward_df l _ _ s (h.put ⟨ha, hp, h.std v (hh v hv)⟩ rfl) ok
    | say v =>
      unfold forward
      exact forward_df l _ _ s (h.put (show Has k kept (meant s v) from h.std v (hh v o)) rfl) ok
theorem Good.fwd {s : St} (g : Good s) : Df s.code.args (forward s.code.rows [] []) ∧ (forward s.code.rows [] []).length ≤ 16 := by
  have q := forward_df s.code.rows [] [] [] (Fwd.start s.code.args) g.each
  exact ⟨q.1, Nat.le_trans q.2 g.rows⟩

/-! ### backward keeps names -/
def usedIn (l : List Row) (x : Nat) : Bool := l.any fun r => decide (used r = some x)
theorem uses_used {k : Nat} {d : Nat → Prop} {r : Row} {x : Nat} (h : RowD k d r) (hx : k ≤ x) : r.uses.contains x = decide (used r = some x) := by
  have hb : ∀ p : Place, PlaceOk k p → p.base.toList.contains x = false := fun p hp => by
    cases e : p.base with
    | none => rfl
    | some b =>
      have := hp.1 b e
      have c : ¬ x = b := by omega
      simp [c]
  cases r with
  | num y n => rfl
  | read y a p =>
    have := hb p h.2.2
    show p.base.toList.contains x = false
    exact this
  | write a p v =>
    have := hb p h.2.1
    show (p.base.toList ++ [v]).contains x = decide (some v = some x)
    rw [Bool.eq_iff_iff]
    rw [← Bool.not_eq_true, List.contains_iff_mem] at this
    rw [List.contains_iff_mem, List.mem_append, List.mem_singleton, decide_eq_true_iff]
    constructor
    · rintro (z | z)
      · exact absurd z this
      · rw [z]
    · intro z
      exact .inr (Option.some.inj z).symm
  | say v =>
    show [v].contains x = decide (some v = some x)
    rw [Bool.eq_iff_iff, List.contains_iff_mem, List.mem_singleton, decide_eq_true_iff]
    constructor
    · intro z
      rw [z]
    · intro z
      exact (Option.some.inj z).symm
/-- what the specification asks of a row from the last to the first -/
def wantedB (kept : List Row) : Row → Bool
  | .num x _ => usedIn kept x
  | .read x _ _ => usedIn kept x
  | .write a p _ => readSees a p [] kept || (lasts a && !kept.any (wAt a p))
  | .say _ => true
/-- the names that are wanted are those that the rows kept use -/
def Wants (k : Nat) (kept : List Row) (w : List Nat) : Prop := ∀ x, k ≤ x → w.contains x = usedIn kept x
theorem Wants.start (k : Nat) : Wants k [] [] := fun _ _ => rfl
theorem Wants.more {k : Nat} {d : Nat → Prop} {kept : List Row} {w : List Nat} {r : Row} (h : Wants k kept w) (hd : RowD k d r) : Wants k (r :: kept) (r.uses ++ w) := fun x hx => by
  have e : (r.uses ++ w).contains x = (r.uses.contains x || w.contains x) := by
    rw [Bool.eq_iff_iff, Bool.or_eq_true, List.contains_iff_mem, List.contains_iff_mem, List.contains_iff_mem, List.mem_append]
  rw [e, uses_used hd hx, h x hx]
  rfl
def specB (kept : List Row) (w : List Nat) : Row → Bool
  | .num x _ => w.contains x
  | .read x _ _ => w.contains x
  | .write a p _ => seenLater a p kept []
  | .say _ => true
theorem wantedB_is {k : Nat} {d : Nat → Prop} {kept : List Row} {w : List Nat} {r : Row} (h : Wants k kept w) (hd : RowD k d r) : specB kept w r = wantedB kept r := by
  cases r with
  | num x n => exact h x hd
  | read x a p => exact h x hd.1
  | write a p v => exact seenLater_is a p kept [] [] fun _ => rfl
  | say v => rfl
theorem backward_cons {k : Nat} {d : Nat → Prop} {l kept : List Row} {w : List Nat} {r : Row} (h : Wants k kept w) (hd : RowD k d r) : backward (r :: l) kept w = if wantedB kept r = true then backward l (r :: kept) (r.uses ++ w) else backward l kept w := by
  have e : backward (r :: l) kept w = if specB kept w r = true then backward l (r :: kept) (r.uses ++ w) else backward l kept w := by
    cases r <;> rfl
  rw [e, wantedB_is h hd]
def DfB (k : Nat) (pre kept : List Row) : Prop := ∀ i r, kept[i]? = some r → RowD k (fun y => Has k (kept.take i) y ∨ ∃ s ∈ pre, s.gives = some y) r
theorem RowD.monoU {k : Nat} {d d' : Nat → Prop} {r : Row} (h : RowD k d r) (m : ∀ y, used r = some y → d y → d' y) : RowD k d' r := by
  cases r with
  | num => exact h
  | read => exact h
  | write => exact ⟨h.1, h.2.1, m _ rfl h.2.2⟩
  | say => exact m _ rfl h
theorem RowD.gives_ge {k : Nat} {d : Nat → Prop} {r : Row} {x : Nat} (h : RowD k d r) (g : r.gives = some x) : k ≤ x := by
  cases r with
  | num y n =>
    cases g
    exact h
  | read y a p =>
    cases g
    exact h.1
  | write => cases g
  | say => cases g
theorem wantedB_gives {kept : List Row} {r : Row} {x : Nat} (g : r.gives = some x) : wantedB kept r = usedIn kept x := by
  cases r with
  | num y n =>
    cases g
    rfl
  | read y a p =>
    cases g
    rfl
  | write => cases g
  | say => cases g
theorem backward_df {k : Nat} : ∀ (l kept : List Row) (w : List Nat), Df k l.reverse → DfB k l.reverse kept → Wants k kept w → Df k (backward l kept w) ∧ (backward l kept w).length ≤ l.length + kept.length
  | [], kept, w, _, hb, _ => ⟨fun i r h => (hb i r h).mono fun y hy => hy.elim id fun ⟨s, hs, _⟩ => (by cases hs), (by simp [backward])⟩
  | r :: l, kept, w, hd, hb, hw => by
    rw [List.reverse_cons] at hd hb
    have hr := hd l.reverse.length r (by rw [List.getElem?_append_right (Nat.le_refl _), Nat.sub_self]; rfl)
    rw [List.take_left' rfl] at hr
    have hd' : Df k l.reverse := fun i q hq => by
      have hi := (List.getElem?_eq_some_iff.mp hq).1
      have z := hd i q (by rw [List.getElem?_append_left hi]; exact hq)
      rw [List.take_append_of_le_length (Nat.le_of_lt hi)] at z
      exact z
    rw [backward_cons hw hr]
    by_cases c : wantedB kept r = true
    · rw [if_pos c]
      have z := backward_df l (r :: kept) (r.uses ++ w) hd' (fun i q hq => ?_) (hw.more hr)
      · refine ⟨z.1, Nat.le_trans z.2 ?_⟩
        simp only [List.length_cons]
        omega
      · cases i with
        | zero =>
          cases hq
          refine hr.mono fun y hy => ?_
          rcases hy with hy | hy
          · exact .inl (.inl hy)
          · exact .inr hy
        | succ i =>
          refine (hb i q hq).mono fun y hy => ?_
          rcases hy with hy | ⟨s, hs, e⟩
          · exact .inl (hy.mono fun s hs => List.mem_cons_of_mem _ hs)
          · rcases List.mem_append.mp hs with hs | hs
            · exact .inr ⟨s, hs, e⟩
            · rw [List.mem_singleton.mp hs] at e
              exact .inl (.inr ⟨r, List.mem_cons_self .., e⟩)
    · rw [if_neg c]
      have z := backward_df l kept w hd' (fun i q hq => ?_) hw
      · refine ⟨z.1, Nat.le_trans z.2 ?_⟩
        simp only [List.length_cons]
        omega
      · refine (hb i q hq).monoU fun y hu hy => ?_
        rcases hy with hy | ⟨s, hs, e⟩
        · exact .inl hy
        · rcases List.mem_append.mp hs with hs | hs
          · exact .inr ⟨s, hs, e⟩
          · rw [List.mem_singleton.mp hs] at e
            refine absurd ?_ c
            rw [wantedB_gives e]
            unfold usedIn
            rw [List.any_eq_true]
            exact ⟨q, List.mem_of_getElem? hq, decide_eq_true hu⟩
theorem Good.better {s : St} (g : Good s) : Df s.code.args (Cm10.better s.code).rows ∧ (Cm10.better s.code).rows.length ≤ 16 := by
  have f := g.fwd
  have q := backward_df (k := s.code.args) (forward s.code.rows [] []).reverse [] [] (by rw [List.reverse_reverse]; exact f.1) (fun i r h => by simp at h) (Wants.start _)
  refine ⟨q.1, Nat.le_trans q.2 ?_⟩
  rw [List.length_reverse, List.length_nil]
  exact f.2

/-! ### two rows that may change places -/
def needsB (r s : Row) : Bool := r.gives.isSome && decide (used s = r.gives)
def sayTwoB : Row → Row → Bool
  | .say a, .say b => !decide (a = b)
  | _, _ => false
def placeR : Row → Place
  | .read _ _ p => p
  | .write _ p _ => p
  | _ => ⟨none, 0⟩
def isW : Row → Bool
  | .write _ _ _ => true
  | _ => false
def clashB (r s : Row) : Bool := (isW r || isW s) && (decide (cellsR r = cellsR s) && (!never (placeR r) (placeR s) && !decide (used r = used s)))
theorem trade_is {k : Nat} {d d' : Nat → Prop} {r s : Row} (hr : RowD k d r) (hs : RowD k d' s) : Cm10.trade r s = (!needsB r s && (!sayTwoB r s && !clashB r s)) := by
  have e1 : (r.gives.any fun x => s.uses.contains x) = needsB r s := by
    unfold needsB
    cases g : r.gives with
    | none => rfl
    | some x =>
      show s.uses.contains x = _
      rw [uses_used hs (hr.gives_ge g)]
      rfl
  unfold Cm10.trade
  rw [e1]
  congr 1
  have en : ∀ a b : Nat, (a == b) = decide (a = b) := fun a b => by rw [Bool.eq_iff_iff, beq_iff_eq, decide_eq_true_iff]
  cases r <;> cases s <;> simp [sayTwoB, clashB, isW, cellsR, placeR, used, en]
end Seen
/-! The specification's side of run: names' words, cells written, in order. -/
namespace Seen
open Cm10

theorem look_put (e : Env) (x v y : Nat) : look (put e x v) y = if y = x then v else look e y := by
  unfold look put
  by_cases c : x < e.length
  · rw [if_pos c, List.getD_eq_getElem?_getD, List.getD_eq_getElem?_getD, List.getElem?_set]
    by_cases d : y = x
    · rw [if_pos d, if_pos d.symm, if_pos (d ▸ c)]
      rfl
    · rw [if_neg d, if_neg fun z => d z.symm]
  · rw [if_neg c, List.getD_eq_getElem?_getD, List.getD_eq_getElem?_getD, List.getElem?_append]
    by_cases d : y < e.length
    · rw [if_pos d, if_neg (by omega)]
    · rw [if_neg d, List.getElem?_append, List.length_replicate, List.getElem?_eq_none (l := e) (by omega)]
      by_cases f : y - e.length < x - e.length
      · rw [if_pos f, if_neg (by omega), List.getElem?_replicate, if_pos f]
        rfl
      · rw [if_neg f]
        by_cases g : y = x
        · rw [if_pos g, g, Nat.sub_self]
          rfl
        · rw [if_neg g, List.getElem?_eq_none (by simp; omega)]
structure Rs where
  env : Env
  cells : Cells
  said : List Nat
/-- one row done -/
def doRow (q : Rs) : Row → Rs
  | .num x k => ⟨put q.env x k, q.cells, q.said⟩
  | .read x a p => ⟨put q.env x (q.cells a (cellOf q.env p)), q.cells, q.said⟩
  | .write a p v => ⟨q.env, setCell q.cells a (cellOf q.env p) (look q.env v), q.said⟩
  | .say v => ⟨q.env, q.cells, q.said ++ [look q.env v]⟩
def All (rows : List Row) (q : Rs) : Env × Cells × List Nat := ((doRows rows q.env q.cells).1, (doRows rows q.env q.cells).2.1, q.said ++ (doRows rows q.env q.cells).2.2)
theorem All.cons (r : Row) (l : List Row) (q : Rs) : All (r :: l) q = All l (doRow q r) := by
  cases r with
  | num x k => rfl
  | read x a p => rfl
  | write a p v => rfl
  | say v =>
    show (_, _, q.said ++ (look q.env v :: _)) = (_, _, (q.said ++ [look q.env v]) ++ _)
    rw [List.append_assoc]
    rfl
theorem All.nil (q : Rs) : All [] q = (q.env, q.cells, q.said) := by
  show (_, _, q.said ++ []) = _
  rw [List.append_nil]
  rfl
/-- places told by words that are handed over: their cells are the same as at first -/
theorem cellOf_same {e e0 : Env} {p : Place} (hp : PlaceOk e0.length p) (h : ∀ b, b < e0.length → look e b = look e0 b) : cellOf e p = cellOf e0 p := by
  unfold cellOf
  cases c : p.base with
  | none => rfl
  | some b =>
    show (look e b + _) % _ = (look e0 b + _) % _
    rw [h b (hp.1 b c)]
theorem doRow_low {q : Rs} {e0 : Env} {r : Row} {d : Nat → Prop} (hd : RowD e0.length d r) (h : ∀ b, b < e0.length → look q.env b = look e0 b) : ∀ b, b < e0.length → look (doRow q r).env b = look e0 b := by
  intro b hb
  cases r with
  | num x k =>
    have : e0.length ≤ x := hd
    show look (put q.env x k) b = _
    rw [look_put, if_neg (by omega)]
    exact h b hb
  | read x a p =>
    have : e0.length ≤ x := hd.1
    show look (put q.env x _) b = _
    rw [look_put, if_neg (by omega)]
    exact h b hb
  | write a p v => exact h b hb
  | say v => exact h b hb

/-! ### the cells that are told -/
def ltP2 (x y : Nat × Nat) : Prop := x.1 < y.1 ∨ (x.1 = y.1 ∧ x.2 < y.2)
theorem mem_insertPair (x y : Nat × Nat) : ∀ l : List (Nat × Nat), y ∈ insertPair x l ↔ y = x ∨ y ∈ l
  | [] => by simp [insertPair]
  | z :: l => by
    unfold insertPair
    by_cases c : x = z
    · rw [if_pos c, c, List.mem_cons]
      constructor
      · exact .inr
      · rintro (h | h)
        · exact .inl h
        · exact h
    · rw [if_neg c]
      by_cases d : x.1 < z.1 ∨ (x.1 = z.1 ∧ x.2 < z.2)
      · rw [if_pos d, List.mem_cons]
      · rw [if_neg d, List.mem_cons, mem_insertPair x y l, List.mem_cons]
        constructor
        · rintro (h | h | h)
          · exact .inr (.inl h)
          · exact .inl h
          · exact .inr (.inr h)
        · rintro (h | h | h)
          · exact .inr (.inl h)
          · exact .inl h
          · exact .inr (.inr h)
theorem insertPair_sorted (x : Nat × Nat) : ∀ {l : List (Nat × Nat)}, l.Pairwise ltP2 → (insertPair x l).Pairwise ltP2
  | [], _ => List.pairwise_singleton _ _
  | z :: l, h => by
    obtain ⟨h1, h2⟩ := List.pairwise_cons.mp h
    unfold insertPair
    by_cases c : x = z
    · rw [if_pos c]
      exact h
    · rw [if_neg c]
      by_cases d : x.1 < z.1 ∨ (x.1 = z.1 ∧ x.2 < z.2)
      · rw [if_pos d]
        refine List.pairwise_cons.mpr ⟨fun y hy => ?_, h⟩
        rcases List.mem_cons.mp hy with e | hy
        · rw [e]
          exact d
        · have := h1 y hy
          unfold ltP2 at this ⊢
          omega
      · rw [if_neg d]
        refine List.pairwise_cons.mpr ⟨fun y hy => ?_, insertPair_sorted x h2⟩
        rcases (mem_insertPair x y l).mp hy with e | hy
        · rw [e]
          have c' : ¬ (x.1 = z.1 ∧ x.2 = z.2) := fun t => c (Prod.ext t.1 t.2)
          unfold ltP2
          omega
        · exact h1 y hy
/-- one row's cell among those told -/
def addCell (e : Env) (l : List (Nat × Nat)) : Row → List (Nat × Nat)
  | .write a p _ => if lasts a then insertPair (a, cellOf e p) l else l
  | _ => l
theorem written_more {e : Env} {rs : List Row} {i : Nat} {r : Row} (h : rs[i]? = some r) : written e (rs.take (i + 1)) = addCell e (written e (rs.take i)) r := by
  unfold written
  rw [take_succ h, List.foldl_append]
  cases r <;> rfl
theorem addCell_sorted {e : Env} {l : List (Nat × Nat)} {r : Row} (h : l.Pairwise ltP2) : (addCell e l r).Pairwise ltP2 := by
  cases r with
  | write a p v =>
    show (if lasts a then _ else _ : List (Nat × Nat)).Pairwise ltP2
    cases c : lasts a with
    | true => exact insertPair_sorted _ h
    | false => exact h
  | _ => exact h
theorem written_sorted (e : Env) (rs : List Row) : ∀ i, i ≤ rs.length → (written e (rs.take i)).Pairwise ltP2
  | 0, _ => by
    rw [List.take_zero]
    exact List.Pairwise.nil
  | i + 1, h => by
    rw [written_more (List.getElem?_eq_getElem (show i < rs.length by omega))]
    exact addCell_sorted (written_sorted e rs i (by omega))
/-- lists in strict order with the same members are one -/
theorem sorted_uniq : ∀ {l m : List (Int × Int)}, l.Pairwise (fun x y => x.1 < y.1 ∨ (x.1 = y.1 ∧ x.2 < y.2)) → m.Pairwise (fun x y => x.1 < y.1 ∨ (x.1 = y.1 ∧ x.2 < y.2)) → (∀ x, x ∈ l ↔ x ∈ m) → l = m
  | [], [], _, _, _ => rfl
  | [], y :: m, _, _, h => by
    have := (h y).mpr (List.mem_cons_self ..)
    cases this
  | x :: l, [], _, _, h => by
    have := (h x).mp (List.mem_cons_self ..)
    cases this
  | x :: l, y :: m, hl, hm, h => by
    obtain ⟨l1, l2⟩ := List.pairwise_cons.mp hl
    obtain ⟨m1, m2⟩ := List.pairwise_cons.mp hm
    have e : x = y := by
      rcases List.mem_cons.mp ((h x).mp (List.mem_cons_self ..)) with e | a
      · exact e
      · rcases List.mem_cons.mp ((h y).mpr (List.mem_cons_self ..)) with e | b
        · exact e.symm
        · have q1 := m1 x a
          have q2 := l1 y b
          omega
    subst e
    congr 1
    refine sorted_uniq l2 m2 fun z => ⟨fun hz => ?_, fun hz => ?_⟩
    · rcases List.mem_cons.mp ((h z).mp (List.mem_cons_of_mem _ hz)) with e | a
      · have := l1 z hz
        rw [e] at this
        omega
      · exact a
    · rcases List.mem_cons.mp ((h z).mpr (List.mem_cons_of_mem _ hz)) with e | a
      · have := m1 z hz
        rw [e] at this
        omega
      · exact a
end Seen
/-! Two rules that the layer lacks: dict(enumerate(xs)); sorted(d.keys()), the keys of d being pairs of ints. -/
namespace Seen
open PySem PySem.Spec PyProof.Rows L2

/-! ### dict(enumerate(xs)) -/
def enK : Nat → List V → List (Key × V)
  | _, [] => []
  | i, x :: l => (Sum.inl (i : Int), x) :: enK (i + 1) l
theorem enK_len : ∀ (l : List V) (i : Nat), (enK i l).length = l.length
  | [], _ => rfl
  | _ :: l, i => congrArg Nat.succ (enK_len l (i + 1))
theorem mergeK_cons (acc : List (Key × V)) (kv : Key × V) (l : List (Key × V)) : mergeK acc (kv :: l) = mergeK (putK acc kv.1 kv.2) l := rfl
theorem enK_val : ∀ (l : List V) (i : Nat) (acc : List (Key × V)) (j : Nat), valV (mergeK acc (enK i l)) (Sum.inl (j : Int)) = if i ≤ j ∧ j < i + l.length then l[j - i]? else valV acc (Sum.inl (j : Int))
  | [], i, acc, j => by
    rw [if_neg (by simp only [List.length_nil]; omega)]
    rfl
  | x :: l, i, acc, j => by
    show valV (mergeK (putK acc (Sum.inl (i : Int)) x) (enK (i + 1) l)) _ = _
    rw [enK_val l (i + 1)]
    have ek : (Sum.inl (j : Int) : Key) = Sum.inl (i : Int) ↔ j = i := ⟨fun e => by have := Sum.inl.inj e; omega, fun e => by rw [e]⟩
    by_cases c1 : i + 1 ≤ j ∧ j < i + 1 + l.length
    · rw [if_pos c1, if_pos (by simp only [List.length_cons]; omega), show j - i = (j - (i + 1)) + 1 by omega, List.getElem?_cons_succ]
    · rw [if_neg c1, valV_put]
      by_cases c2 : j = i
      · rw [if_pos (ek.mpr c2), if_pos (by simp only [List.length_cons]; omega), c2, Nat.sub_self]
        rfl
      · rw [if_neg fun e => c2 (ek.mp e), if_neg (by simp only [List.length_cons]; omega)]
theorem enK_pairs : ∀ {l : List V} {us : List Value} (i : Nat), Vals l us → ∃ prs : List (Key × Value), KV (enK i l) prs ∧ prs.length = us.length ∧ ∀ j u, us[j]? = some u → prs[j]? = some (Sum.inl ((i + j : Nat) : Int), u)
  | _, _, i, .nil => ⟨[], .nil, rfl, fun j u e => by simp at e⟩
  | _, _, i, .cons (a := x) (b := v) (l₁ := l) (l₂ := us) r t => by
    obtain ⟨prs, k, hl, hp⟩ := enK_pairs (i + 1) t
    refine ⟨(Sum.inl (i : Int), v) :: prs, .cons ⟨rfl, r⟩ k, by rw [List.length_cons, List.length_cons, hl], fun j u e => ?_⟩
    cases j with
    | zero =>
      cases e
      rfl
    | succ j =>
      have e' := hp j u (by simpa using e)
      rw [List.getElem?_cons_succ, e', show i + 1 + j = i + (j + 1) by omega]
section
variable {X : Cx} {e : Expr} {te : TE}
def tDEnum (K : PySem.W.Frag) (te : TE) : TE := fun σ H Q => te σ H fun x H1 => ∃ (a : Addr) (xs : List V), x = .ref a ∧ SqL K H1 a xs ∧ ∀ p, H1 p = none → Q (.ref p) (upd H1 p (.dK (mergeK [] (enK 0 xs))))
theorem pe_dictEnum {p pos p2 pos2 : Pos} (hc : X.calm = true) (hg : Gl X "dict") (hm : X.mg "dict" = none) (hg2 : Gl X "enumerate") (hm2 : X.mg "enumerate" = none) (he : PE X e te)
    (n1 : starEach [e] X.env = (false, eval e X.env) :: starEach [] X.env := by rfl)
    (n2 : starEach [.Call (.Name "enumerate" p2) [e] [] pos2] X.env = (false, eval (.Call (.Name "enumerate" p2) [e] [] pos2) X.env) :: starEach [] X.env := by rfl) :
    PE X (.Call (.Name "dict" p) [.Call (.Name "enumerate" p2) [e] [] pos2] [] pos) (tDEnum X.K te) := by
  refine ⟨fun pins s σ H Q I h => ?_⟩
  refine wpAny_Call_Name_kw (ld_blt I hg hm PyProof.Rows.boot_dict ?_)
  refine PyProof.Rows.callWith_type1 (args_cons ?_ n2) n2 rfl
  refine Call_ (ld_blt I hg2 hm2 boot_enumerate (PyProof.Rows.callWith_type1 (args_cons (thn (he.run pins s σ H _ I h) fun u s1 ⟨x, H1, I1, rx, a, xs, ex, hq, q⟩ => args_nil ?_) n1) n1 rfl))
  subst ex
  cases rx
  obtain ⟨its, rv, pl, hz⟩ := I1.list hq
  refine call_enumerate_list pl.isList fun h1 hen hit hsz hk => args_nil ?_
  obtain ⟨prs, kv, hl, hp⟩ := enK_pairs 0 rv
  have hal : a < s1.heap.objs.size := by
    obtain ⟨o, n, ho, _⟩ := pl
    exact Heap.lt_size ho
  have hli : h1.IsList a its.toArray := pl.isList.at fun o z => hk a o z
  refine PySem.call_dict_pairs (knd := mixKind X.prog X.w) (kvs := prs) (s := { s1 with heap := h1 })
    (PairArg.enumerate (s1.heap.objs.size + 1) s1.heap.objs.size a (Nat.succ_ne_self _) (Nat.ne_of_lt (Nat.lt_succ_of_lt hal)) (Nat.ne_of_lt hal) its.toArray) (I1.ok.hd hc) ⟨⟨_, hen⟩, hit, hli⟩ ⟨?_, fun i key v hr => ?_⟩ ?_ fun h2 tk hd2 hk2 => ?_
  · rw [hl, List.size_toArray]
  · obtain ⟨⟨t, et⟩, ev⟩ := hr
    refine ⟨_, hp i v (by simpa using ev), ?_⟩
    rw [et]
    exact kV_is (P := X.prog) (w := X.w) (k := Sum.inl ((0 + i : Nat) : Int)) ⟨t, by rw [Nat.zero_add]⟩
  · rw [List.size_toArray, ← rv.length]
    exact hz
  · have hk3 : ∀ b o, s1.heap.get? b = some o → h2.get? b = some o := fun b o z => by
      have hb := Heap.lt_size z
      refine hk2 b o (fun m => ?_) (hk b o z)
      have m' : b = s1.heap.objs.size + 1 ∨ b = s1.heap.objs.size := by simpa using m
      rcases m' with m' | m'
      · rw [m'] at hb
        exact absurd hb (Nat.not_lt_of_le (Nat.le_succ _))
      · rw [m'] at hb
        exact absurd hb (Nat.lt_irrefl _)
    have hle : s1.heap.objs.size ≤ h1.objs.size := by omega
    have hsys : (h1.objs.size == sysModules) = false := beq_eq_false_iff_ne.mpr (Nat.ne_of_gt (Nat.lt_of_lt_of_le I1.big hle))
    have hlen : (mergeK [] (enK 0 xs)).length ≤ sizeLine := by
      refine Nat.le_trans (length_mergeK (enK 0 xs) []) ?_
      rw [List.length_nil, Nat.zero_add, enK_len]
      exact hz
    exact ⟨.ref h1.objs.size, _, I1.laid (t' := tk) hk3 hle (show ObjOk X.prog X.w _ _ _ (.dK (mergeK [] (enK 0 xs))) from ⟨hlen, hsys, _, KV.merge kv .nil, hd2⟩), rfl, q _ (I1.hok.fresh hle)⟩
end

/-! ### sorted(d.keys()), the keys being pairs of ints -/
section
variable {prog : Program} {w : World} {A : Around} {E : Value → Shared → Prop} {s : Shared} {o : Obj} {es : Array DictEntry} {ep : Nat} {r d : Addr}
theorem view_iter {Q : Value → Shared → Prop} (hv : PySem.W.KdlKeysView s.heap r d) (ho : s.heap.get? d = some o) (hd : o.data = .dict es ep)
    (q : Q (.ref s.heap.objs.size) { s with heap := s.heap.push { cls := .type "dict_keyiterator", data := .fields #[.ref d, .int 0 0, .int es.size 0, .int ep 0] } }) : wpAny (model prog w) A (pyIter (.ref r)) Q E s := by
  obtain ⟨x, hx, _, hdx⟩ := id hv
  refine wpAny_pyIter_slot hv.typeIs PySem.W.kdl_slot_keys_iter (wpAny_call_entry PySem.W.kdl_slot_keys_iter hv.typeIs PySem.W.kdl_entry_keys_iter ?_ (PySem.W.kdl_args_keys_iter _))
  unfold Builtin.«dict_keys.__iter__» Builtin.Dict_items.dictOf Builtin.Dict_items.newIterator
  refine wpAny_bind (wpAny_pure (wpAny_bind (wpAny_bind (wpAny_field hx hdx (x := .ref d) rfl (wpAny_pure ?_)))))
  refine wpAny_bind (wpAny_bind (wpAny_dictEntries ho hd (wpAny_bind (wpAny_dictEpoch ho hd ?_))))
  have own : Builtin.Dict_items.ownsTuple "dict_keyiterator" = false := by decide
  simp only [own, Bool.false_eq_true, if_false]
  refine wpAny_newObj_type (wpAny_pure ⟨_, rfl, "dict_keyiterator", _, ⟨_, Heap.get?_push_size _ rfl, rfl⟩, PySem.F.slot_dict_keyiterator_next.lookup, ?_⟩)
  simpa [rawInt] using q
theorem src_keys (hx : o.ExactDict) (hd : o.data = .dict es ep) :
    PySem.W.KdlSrc prog w "dict_keys" r d es.size (fun i v => ∃ en : DictEntry, es[i]? = some en ∧ v = en.key) (fun h => PySem.W.KdlKeysView h r d ∧ h.get? d = some o) where
  type := fun _ m => m.1.typeIs
  there := fun _ m => ⟨let ⟨_, z, _⟩ := m.1; Heap.lt_size z, Heap.lt_size m.2⟩
  keep := fun _ _ m k => ⟨let ⟨u, z, y⟩ := m.1; ⟨u, k r (.inl rfl) u z, y⟩, k d (.inr rfl) _ m.2⟩
  notList := by decide
  notTuple := by decide
  hint := fun _ _ _ _ m q => PySem.W.kdl_hint_keys m.1.typeIs q
  iter := fun _ s hh m => ⟨_, _, (fun _ _ q => view_iter m.1 m.2 hd q), walks_raw hh _ d (Nat.ne_of_lt (Heap.lt_size m.2)) hd, ⟨⟨_, Heap.get?_push_size _ rfl, rfl, rfl⟩, Heap.get?_push_of_some _ m.2⟩⟩
theorem meets_keysD (d : Addr) (hs : (d == sysModules) = false) : MeetsIn prog w (Builtin.«dict.keys» ⟨[.ref d], []⟩) (fun _ R s => s.TypeIs (.ref d) "dict" ∧
      R (.ok (.ret (.ref s.heap.objs.size))) { s with heap := s.heap.push { cls := .type "dict_keys", data := .fields #[.ref d] } }) :=
  .of_wp fun A R s ⟨ty, h⟩ => by
    refine wpAny_bind ?_
    unfold Builtin.Dict.noArgs
    refine wpAny_bind (wpAny_notOrdered_dict ty ?_)
    show wpAny _ _ (pure d) _ _ s
    refine wpAny_pure ?_
    show wpAny _ _ (Builtin.Dict.showsAll d >>= _) _ _ s
    unfold Builtin.Dict.showsAll
    rw [if_neg (by rw [hs]; exact Bool.false_ne_true)]
    exact wpAny_bind (wpAny_pure (wpAny_bind (wpAny_newObj_type (wpAny_pure ⟨_, rfl, h⟩))))
end

def addrV : Value → Addr
  | .ref b => b
  | _ => 0
/-- the two ints of a tuple that stands in H -/
def pairIn (H : Hp) (b : Addr) : Int × Int := match H b with
  | some (.tup [.int i, .int j]) => (i, j)
  | _ => (0, 0)
theorem pairIn_of {H : Hp} {b : Addr} {i j : Int} (h : H b = some (.tup [.int i, .int j])) : pairIn H b = (i, j) := by
  unfold pairIn
  rw [h]
/-- what sorted(d.keys()) leaves: the key tuples of d, the lesser first -/
def SortedKeys (H : Hp) (kvs : List (List Key × V)) (bs : List Addr) : Prop :=
  (∀ b ∈ bs, H b = some (.tup [.int (pairIn H b).1, .int (pairIn H b).2])) ∧ (bs.map fun b => ([Sum.inl (pairIn H b).1, Sum.inl (pairIn H b).2] : List Key)).Perm (kvs.map (·.1)) ∧
    bs.Pairwise fun a b => ¬ ((pairIn H b).1 < (pairIn H a).1 ∨ ((pairIn H b).1 = (pairIn H a).1 ∧ (pairIn H b).2 < (pairIn H a).2))
section
variable {X : Cx} {pins : List (Addr × Obj)} {σ : L2.St} {H : Hp} {s : Shared}
theorem sorted_view (hc : X.calm = true) {d r : Addr} {kvs : List (List Key × V)} {Q : VK} (I : L2.Inv X pins σ H s) (hd : Rd H d (.dT kvs)) (hv : PySem.W.KdlKeysView s.heap r d) (hk : ∀ p ∈ kvs, ∃ i j : Int, p.1 = [Sum.inl i, Sum.inl j])
    (q : ∀ p bs, H p = none → SortedKeys H kvs bs → Q (.ref p) (upd H p (.lst (bs.map V.ref)))) : wpAny (model X.prog X.w) X.A (call (.builtin "sorted") [.ref r]) (EP X pins σ Q) X.xe s := by
  obtain ⟨z, hs, ks, pr, o, es, ep, ho, hx, hdt, he, hn⟩ := (show ObjOk X.prog X.w H s.heap d (.dT kvs) from hd.ok I.hok)
  have l1 : es.size = ks.length := size_of_entries he
  have l2 : kvs.length = ks.length := Paired.length pr
  refine Calls.call_function_entry PyProof.Rows.kind_sorted PyProof.Rows.plain_sorted PyProof.Rows.entry_sorted (PyProof.Rows.args_sorted1 _) ?_
  unfold Builtin.«sorted»
  refine wpAny_bind (m := checkCount "sorted" 1 1 _) (wpAny_pure (wpAny_bind (PySem.W.kdu_collect (A := X.A.in1) (src_keys hx hdt) (I.ok.hd hc) ⟨hv, ho⟩ (by omega) fun h1 tk acc kp it => ?_)))
  have ea : acc.toList = (ks.map fun x => x.2.1).map Value.ref := by
    have hl : acc.toList.length = ks.length := by rw [Array.length_toList, it.1, l1]
    rw [List.map_map]
    refine List.ext_getElem? fun j => ?_
    rw [List.getElem?_map]
    cases hj : acc.toList[j]? with
    | none =>
      have := List.getElem?_eq_none_iff.mp hj
      rw [List.getElem?_eq_none (by omega)]
      rfl
    | some v =>
      obtain ⟨en, hen, hv⟩ := it.2 j v (by rw [← Array.getElem?_toList]; exact hj)
      have qe := entry_at he j
      rw [hen] at qe
      cases hb : ks[j]? with
      | none =>
        rw [hb] at qe
        exact nomatch (show some en = none from qe)
      | some b =>
        rw [hb] at qe
        have e2 : en = entryOfKey (tupleKind (mixKind X.prog X.w)) b := Option.some.inj qe
        rw [hv, e2]
        rfl
  have I1 : L2.Inv X pins σ H { s with heap := h1, toks := tk } := I.kept kp
  have key : ∀ x ∈ ks, ∃ i j : Int, x.1 = [Sum.inl i, Sum.inl j] ∧ H x.2.1 = some (.tup [.int i, .int j]) := by
    have all : ∀ {l : List (List Key × V)} {m : List (List Key × Addr × Value)}, KT H l m → (∀ p ∈ l, ∃ i j : Int, p.1 = [Sum.inl i, Sum.inl j]) → ∀ x ∈ m, ∃ i j : Int, x.1 = [Sum.inl i, Sum.inl j] ∧ H x.2.1 = some (.tup [.int i, .int j]) := by
      intro l m t
      induction t with
      | nil => intro _ x hx; exact nomatch hx
      | @cons p y ps qs hq t ih =>
        intro hp x hx
        rcases List.mem_cons.mp hx with e | hx
        · subst e
          obtain ⟨i, j, e⟩ := hp p (List.mem_cons_self ..)
          refine ⟨i, j, hq.1 ▸ e, ?_⟩
          have := hq.2.1
          rw [e] at this
          exact this
        · exact ih (fun p' h' => hp p' (List.mem_cons_of_mem _ h')) x hx
    exact all pr hk
  have hpair : ∀ v ∈ acc.toList, Srt.IsPair h1 v (pairIn H (addrV v)).1 (pairIn H (addrV v)).2 := fun v hv => by
    rw [ea, List.map_map] at hv
    obtain ⟨x, hx, rfl⟩ := List.mem_map.mp hv
    obtain ⟨i, j, _, hb⟩ := key x hx
    show Srt.IsPair h1 (.ref x.2.1) (pairIn H x.2.1).1 (pairIn H x.2.1).2
    rw [pairIn_of hb]
    obtain ⟨_, its2, r2, o2, ho2, hc2, n2, hd2⟩ := I1.hok _ _ hb
    obtain ⟨u1, u2, rfl, ri, rj⟩ := vals2 r2
    obtain ⟨t1, rfl⟩ := ri
    obtain ⟨t2, rfl⟩ := rj
    exact ⟨x.2.1, o2, t1, t2, n2, rfl, ho2, hc2, hd2⟩
  have hal : acc.toList.length ≤ sizeLine := by rw [Array.length_toList, it.1]; omega
  refine wpAny_bind (wpAny_newList ?_ hal)
  have hoL : (h1.push (seqObj "list" acc.toList.toArray 0)).get? h1.objs.size = some (seqObj "list" acc.toList.toArray 0) := Heap.get?_push_size _ rfl
  show wpAny _ _ _ _ _ { s with heap := h1.push (seqObj "list" acc.toList.toArray 0), toks := tk }
  refine wpAny_bind (wpAny_holding (wpAny_call_entry PyProof.Rows.slot_list_sort ⟨_, hoL, rfl⟩ PyProof.Rows.entry_list_sort
    (SrtO.list_sort_ord (s := { s with heap := h1.push (seqObj "list" acc.toList.toArray 0), toks := tk }) (SrtO.swo_lex fun v => pairIn H (addrV v)) hoL hal
      (fun h2 => SrtO.pairs_sortableO (by omega) (fun v hv => (hpair v hv).keeps fun b u e _ => Heap.get?_push_of_some _ e) fun u e => ?_) fun out a1 a2 => ⟨_, rfl, ?_⟩) (PyProof.Rows.args_list_sort _)))
  · have e' : some u = some (seqObj "list" acc.toList.toArray 0) := e.symm.trans hoL
    cases e'
    intro c
    exact absurd (Value.type.inj c) (by decide)
  · obtain ⟨e', he'⟩ := PyProof.Rows.sortedHeap_at (vs := acc.toList) (out := out.toArray) hoL
    have hm : ∀ u ∈ out, ∃ x ∈ ks, u = Value.ref x.2.1 := fun u hu => by
      have m := a2.perm.mem_iff.mp hu
      rw [ea, List.map_map] at m
      obtain ⟨x, hx, e⟩ := List.mem_map.mp m
      exact ⟨x, hx, e.symm⟩
    have eo : out = (out.map addrV).map Value.ref := by
      rw [List.map_map]
      refine ((List.map_congr_left fun u hu => ?_).trans (List.map_id out)).symm
      obtain ⟨x, _, rfl⟩ := hm u hu
      rfl
    have hlen : ((out.map addrV).map V.ref).length ≤ sizeLine := by
      rw [List.length_map, List.length_map, a2.perm.length_eq]
      exact hal
    have ev : Vals ((out.map addrV).map V.ref) out := by
      have := vals_refs (out.map addrV)
      rw [← eo] at this
      exact this
    refine wpAny_pure ⟨_, rfl, .ref h1.objs.size, upd H h1.objs.size (.lst ((out.map addrV).map V.ref)), I1.laid (t' := tk) (fun b u e => ?_) (Nat.le_refl _)
      (show ObjOk X.prog X.w _ _ _ (.lst ((out.map addrV).map V.ref)) from ⟨hlen, out, e', ev, he'⟩), rfl, q _ _ (I1.hok.fresh (Nat.le_refl _)) ⟨fun b hb => ?_, ?_, ?_⟩⟩
    · have hb : b < h1.objs.size := Heap.lt_size e
      rw [PyProof.Rows.sortedHeap_old (Nat.ne_of_lt hb) (by rw [size_push']; exact Nat.lt_succ_of_lt hb)]
      exact Heap.get?_push_of_some _ e
    · obtain ⟨u, hu, rfl⟩ := List.mem_map.mp hb
      obtain ⟨x, hx, rfl⟩ := hm u hu
      obtain ⟨i, j, _, hb⟩ := key x hx
      show H x.2.1 = some (.tup [.int (pairIn H x.2.1).1, .int (pairIn H x.2.1).2])
      rw [pairIn_of hb]
      exact hb
    · have p1 : (out.map addrV).Perm (ks.map fun x => x.2.1) := by
        have := a2.perm.map addrV
        rw [ea, List.map_map] at this
        have e3 : ((ks.map fun x => x.2.1).map (addrV ∘ Value.ref)) = ks.map fun x => x.2.1 := by
          rw [List.map_map]
          rfl
        rw [e3] at this
        exact this
      refine (p1.map _).trans ?_
      have e4 : (ks.map fun x => x.2.1).map (fun b => ([Sum.inl (pairIn H b).1, Sum.inl (pairIn H b).2] : List Key)) = kvs.map (·.1) := by
        have e5 : kvs.map (·.1) = ks.map (·.1) := by
          have all : ∀ {l : List (List Key × V)} {m : List (List Key × Addr × Value)}, KT H l m → l.map (·.1) = m.map (·.1) := by
            intro l m t
            induction t with
            | nil => rfl
            | cons hq t ih => rw [List.map_cons, List.map_cons, ih, hq.1]
          exact all pr
        rw [e5, List.map_map]
        refine List.map_congr_left fun x hx => ?_
        obtain ⟨i, j, e, hb⟩ := key x hx
        show ([Sum.inl (pairIn H x.2.1).1, Sum.inl (pairIn H x.2.1).2] : List Key) = x.1
        rw [pairIn_of hb, e]
      rw [e4]
    · rw [List.pairwise_map]
      refine List.Pairwise.imp (fun {u v} huv => ?_) a1
      exact SrtO.lexB_no.mp huv
end
section
variable {X : Cx} {e : Expr} {te : TE} {p pos apos cpos : Pos}
def tSortK (te : TE) : TE := fun σ H Q => te σ H fun x H1 => ∃ (d : Addr) (kvs : List (List Key × V)), x = .ref d ∧ Rd H1 d (.dT kvs) ∧ (∀ p ∈ kvs, ∃ i j : Int, p.1 = [Sum.inl i, Sum.inl j]) ∧
  ∀ p bs, H1 p = none → SortedKeys H1 kvs bs → Q (.ref p) (upd H1 p (.lst (bs.map V.ref)))
theorem pe_sortKeys (hc : X.calm = true) (hg : Gl X "sorted") (hm : X.mg "sorted" = none) (he : PE X e te) (hbase : attributeBase e "keys" X.env (eval e X.env) = eval e X.env := by rfl) (hline : (apos.endLine == cpos.line) = true := by rfl)
    (n2 : starEach [.Call (.Attribute e "keys" apos) [] [] cpos] X.env = (false, eval (.Call (.Attribute e "keys" apos) [] [] cpos) X.env) :: starEach [] X.env := by rfl) :
    PE X (.Call (.Name "sorted" p) [.Call (.Attribute e "keys" apos) [] [] cpos] [] pos) (tSortK te) := by
  refine ⟨fun pins s σ H Q I h => ?_⟩
  refine wpAny_Call_Name_kw (ld_blt I hg hm PyProof.Rows.boot_sorted ?_)
  refine PyProof.Rows.callWith_builtin1 (args_cons ?_ n2) n2 rfl
  refine wpAny_Call_method (T := "dict") (id := "dict.keys") hbase rfl hline PySem.F.plainAttrs_dict PySem.F.slot_dict_keys PySem.F.type_dict_keys (thn (he.run pins s σ H _ I h) fun u s1 ⟨x, H1, I1, rx, d, kvs, ex, hd, hk, q⟩ => ?_)
  subst ex
  obtain rfl : u = Value.ref d := rx
  obtain ⟨t1, t2, hs⟩ := isD_at I1 (.inr ⟨kvs, hd⟩)
  refine ⟨t1, t2, ?_⟩
  have I2 : L2.Inv X pins σ H1 { s1 with heap := s1.heap.push { cls := .type "dict_keys", data := .fields #[.ref d] } } := I1.kept (t' := s1.toks) fun b ob q => Heap.get?_push_of_some _ q
  show wpAny _ _ (callWith cpos (.builtin "dict.keys") [.ref d] [] []) _ X.xe s1
  refine method_meetsIn PySem.F.slot_dict_keys PySem.F.entry_dict_keys rfl (PySem.evalArgs_none ⟨rfl, t1, PySem.F.args_dict_keys_1 _, _, meets_keysD d hs, t1, ?_⟩)
  exact args_nil (sorted_view hc I2 hd ⟨_, Heap.get?_push_size _ rfl, rfl, rfl⟩ hk q)
end
end Seen
namespace Seen
open PySem PySem.Spec PyProof.Rows L2
def top (i : Nat) : Stmt := PySem.Challenge.pw_seencellsdesk_s01_answers.main.body.getD i (.Pass ⟨0, 0, 0, 0⟩)
abbrev s_gives_name : Stmt := top 7
theorem sc_gives_name : FnScope ["row"] ["row"] (defScope s_gives_name) := ⟨rfl, rfl, rfl, by decide +kernel, rfl, by decide +kernel, by decide +kernel⟩
abbrev s_count_names : Stmt := top 8
theorem sc_count_names : FnScope ["code", "count", "row"] ["code"] (defScope s_count_names) := ⟨rfl, rfl, rfl, by decide +kernel, rfl, by decide +kernel, by decide +kernel⟩
abbrev s_name_used : Stmt := top 9
theorem sc_name_used : FnScope ["row"] ["row"] (defScope s_name_used) := ⟨rfl, rfl, rfl, by decide +kernel, rfl, by decide +kernel, by decide +kernel⟩
abbrev s_cells_of : Stmt := top 10
theorem sc_cells_of : FnScope ["row"] ["row"] (defScope s_cells_of) := ⟨rfl, rfl, rfl, by decide +kernel, rfl, by decide +kernel, by decide +kernel⟩
abbrev s_place_of : Stmt := top 11
theorem sc_place_of : FnScope ["row"] ["row"] (defScope s_place_of) := ⟨rfl, rfl, rfl, by decide +kernel, rfl, by decide +kernel, by decide +kernel⟩
abbrev s_name_at_place : Stmt := top 12
theorem sc_name_at_place : FnScope ["row"] ["row"] (defScope s_name_at_place) := ⟨rfl, rfl, rfl, by decide +kernel, rfl, by decide +kernel, by decide +kernel⟩
abbrev s_is_looked_at : Stmt := top 13
theorem sc_is_looked_at : FnScope ["row"] ["row"] (defScope s_is_looked_at) := ⟨rfl, rfl, rfl, by decide +kernel, rfl, by decide +kernel, by decide +kernel⟩
abbrev s_in_numbers : Stmt := top 14
theorem sc_in_numbers : FnScope ["handed", "rows", "numbers", "row"] ["handed", "rows"] (defScope s_in_numbers) := ⟨rfl, rfl, rfl, by decide +kernel, rfl, by decide +kernel, by decide +kernel⟩
abbrev s_tells_place : Stmt := top 22
theorem sc_tells_place : FnScope ["code", "cells", "base"] ["code", "cells", "base"] (defScope s_tells_place) := ⟨rfl, rfl, rfl, by decide +kernel, rfl, by decide +kernel, by decide +kernel⟩
abbrev s_has_name : Stmt := top 23
theorem sc_has_name : FnScope ["code", "name"] ["code", "name"] (defScope s_has_name) := ⟨rfl, rfl, rfl, by decide +kernel, rfl, by decide +kernel, by decide +kernel⟩
abbrev s_put_row : Stmt := top 24
theorem sc_put_row : FnScope ["code", "row"] ["code", "row"] (defScope s_put_row) := ⟨rfl, rfl, rfl, by decide +kernel, rfl, by decide +kernel, by decide +kernel⟩
abbrev s_begin_code : Stmt := top 25
theorem sc_begin_code : FnScope ["code", "handed"] ["code", "handed"] (defScope s_begin_code) := ⟨rfl, rfl, rfl, by decide +kernel, rfl, by decide +kernel, by decide +kernel⟩
abbrev s_put_number : Stmt := top 26
theorem sc_put_number : FnScope ["code", "number"] ["code", "number"] (defScope s_put_number) := ⟨rfl, rfl, rfl, by decide +kernel, rfl, by decide +kernel, by decide +kernel⟩
abbrev s_put_read : Stmt := top 27
theorem sc_put_read : FnScope ["code", "cells", "base", "number"] ["code", "cells", "base", "number"] (defScope s_put_read) := ⟨rfl, rfl, rfl, by decide +kernel, rfl, by decide +kernel, by decide +kernel⟩
abbrev s_put_write : Stmt := top 28
theorem sc_put_write : FnScope ["code", "cells", "base", "number", "name"] ["code", "cells", "base", "number", "name"] (defScope s_put_write) := ⟨rfl, rfl, rfl, by decide +kernel, rfl, by decide +kernel, by decide +kernel⟩
abbrev s_put_say : Stmt := top 29
theorem sc_put_say : FnScope ["code", "name"] ["code", "name"] (defScope s_put_say) := ⟨rfl, rfl, rfl, by decide +kernel, rfl, by decide +kernel, by decide +kernel⟩
abbrev s_alike : Stmt := top 32
theorem sc_alike : FnScope ["place", "other"] ["place", "other"] (defScope s_alike) := ⟨rfl, rfl, rfl, by decide +kernel, rfl, by decide +kernel, by decide +kernel⟩
abbrev s_never_same : Stmt := top 33
theorem sc_never_same : FnScope ["place", "other"] ["place", "other"] (defScope s_never_same) := ⟨rfl, rfl, rfl, by decide +kernel, rfl, by decide +kernel, by decide +kernel⟩
abbrev s_cell_at : Stmt := top 34
theorem sc_cell_at : FnScope ["place", "words", "base"] ["place", "words"] (defScope s_cell_at) := ⟨rfl, rfl, rfl, by decide +kernel, rfl, by decide +kernel, by decide +kernel⟩
abbrev s_is_passed_over : Stmt := top 36
theorem sc_is_passed_over : FnScope ["row", "place", "counted"] ["row", "place", "counted"] (defScope s_is_passed_over) := ⟨rfl, rfl, rfl, by decide +kernel, rfl, by decide +kernel, by decide +kernel⟩
abbrev s_sure_name : Stmt := top 37
theorem sc_sure_name : FnScope ["rows", "cells", "place", "counted", "counted_name", "row", "name"] ["rows", "cells", "place"] (defScope s_sure_name) := ⟨rfl, rfl, rfl, by decide +kernel, rfl, by decide +kernel, by decide +kernel⟩
abbrev s_first_word : Stmt := top 42
theorem sc_first_word : FnScope ["added", "key"] ["added", "key"] (defScope s_first_word) := ⟨rfl, rfl, rfl, by decide +kernel, rfl, by decide +kernel, by decide +kernel⟩
abbrev s_word_in : Stmt := top 43
theorem sc_word_in : FnScope ["run", "key"] ["run", "key"] (defScope s_word_in) := ⟨rfl, rfl, rfl, by decide +kernel, rfl, by decide +kernel, by decide +kernel⟩
abbrev s_cell_key : Stmt := top 44
theorem sc_cell_key : FnScope ["row", "words"] ["row", "words"] (defScope s_cell_key) := ⟨rfl, rfl, rfl, by decide +kernel, rfl, by decide +kernel, by decide +kernel⟩
abbrev s_do_row : Stmt := top 45
theorem sc_do_row : FnScope ["run", "row"] ["run", "row"] (defScope s_do_row) := ⟨rfl, rfl, rfl, by decide +kernel, rfl, by decide +kernel, by decide +kernel⟩
abbrev s_cells_to_tell : Stmt := top 46
theorem sc_cells_to_tell : FnScope ["rows", "words", "written", "row"] ["rows", "words"] (defScope s_cells_to_tell) := ⟨rfl, rfl, rfl, by decide +kernel, rfl, by decide +kernel, by decide +kernel⟩
abbrev s_Run_init : Stmt := inClass (top 41) 0
theorem sc_Run_init : FnScope ["self", "added", "words"] ["self", "added", "words"] (defScope s_Run_init) := ⟨rfl, rfl, rfl, by decide +kernel, rfl, by decide +kernel, by decide +kernel⟩
abbrev s_run_told : Stmt := top 47
theorem sc_run_told : FnScope ["rows", "told_rows", "added", "words", "run", "row", "told_keys", "numbers", "key"] ["rows", "told_rows", "added", "words"] (defScope s_run_told) := ⟨rfl, rfl, rfl, by decide +kernel, rfl, by decide +kernel, by decide +kernel⟩
abbrev s_is_write_alike : Stmt := top 49
theorem sc_is_write_alike : FnScope ["row", "other"] ["row", "other"] (defScope s_is_write_alike) := ⟨rfl, rfl, rfl, by decide +kernel, rfl, by decide +kernel, by decide +kernel⟩
abbrev s_may_see_first : Stmt := top 50
theorem sc_may_see_first : FnScope ["rows", "reading", "row"] ["rows", "reading"] (defScope s_may_see_first) := ⟨rfl, rfl, rfl, by decide +kernel, rfl, by decide +kernel, by decide +kernel⟩
abbrev s_may_see : Stmt := top 51
theorem sc_may_see : FnScope ["rows", "reading", "writing", "read_row", "write_row", "row"] ["rows", "reading", "writing"] (defScope s_may_see) := ⟨rfl, rfl, rfl, by decide +kernel, rfl, by decide +kernel, by decide +kernel⟩
abbrev s_writes_seen : Stmt := top 52
theorem sc_writes_seen : FnScope ["rows", "reading", "writing"] ["rows", "reading"] (defScope s_writes_seen) := ⟨rfl, rfl, rfl, by decide +kernel, rfl, by decide +kernel, by decide +kernel⟩
abbrev s_renamed : Stmt := top 54
theorem sc_renamed : FnScope ["row", "stands_for", "name"] ["row", "stands_for"] (defScope s_renamed) := ⟨rfl, rfl, rfl, by decide +kernel, rfl, by decide +kernel, by decide +kernel⟩
abbrev s_name_of_number : Stmt := top 55
theorem sc_name_of_number : FnScope ["kept", "number", "row"] ["kept", "number"] (defScope s_name_of_number) := ⟨rfl, rfl, rfl, by decide +kernel, rfl, by decide +kernel, by decide +kernel⟩
abbrev s_known_name : Stmt := top 56
theorem sc_known_name : FnScope ["kept", "row"] ["kept", "row"] (defScope s_known_name) := ⟨rfl, rfl, rfl, by decide +kernel, rfl, by decide +kernel, by decide +kernel⟩
abbrev s_without_known : Stmt := top 57
theorem sc_without_known : FnScope ["rows", "kept", "stands_for", "row", "new_row", "known"] ["rows"] (defScope s_without_known) := ⟨rfl, rfl, rfl, by decide +kernel, rfl, by decide +kernel, by decide +kernel⟩
abbrev s_is_name_used : Stmt := top 58
theorem sc_is_name_used : FnScope ["name", "rows", "row"] ["name", "rows"] (defScope s_is_name_used) := ⟨rfl, rfl, rfl, by decide +kernel, rfl, by decide +kernel, by decide +kernel⟩
abbrev s_is_seen : Stmt := top 59
theorem sc_is_seen : FnScope ["row", "behind", "rows", "reading"] ["row", "behind"] (defScope s_is_seen) := ⟨rfl, rfl, rfl, by decide +kernel, rfl, by decide +kernel, by decide +kernel⟩
abbrev s_is_left : Stmt := top 60
theorem sc_is_left : FnScope ["row", "behind", "other"] ["row", "behind"] (defScope s_is_left) := ⟨rfl, rfl, rfl, by decide +kernel, rfl, by decide +kernel, by decide +kernel⟩
abbrev s_is_wanted : Stmt := top 61
theorem sc_is_wanted : FnScope ["row", "behind"] ["row", "behind"] (defScope s_is_wanted) := ⟨rfl, rfl, rfl, by decide +kernel, rfl, by decide +kernel, by decide +kernel⟩
abbrev s_without_unseen : Stmt := top 62
theorem sc_without_unseen : FnScope ["rows", "kept", "row"] ["rows"] (defScope s_without_unseen) := ⟨rfl, rfl, rfl, by decide +kernel, rfl, by decide +kernel, by decide +kernel⟩
abbrev s_made_smaller : Stmt := top 63
theorem sc_made_smaller : FnScope ["rows"] ["rows"] (defScope s_made_smaller) := ⟨rfl, rfl, rfl, by decide +kernel, rfl, by decide +kernel, by decide +kernel⟩
abbrev s_needs_name : Stmt := top 65
theorem sc_needs_name : FnScope ["row", "behind"] ["row", "behind"] (defScope s_needs_name) := ⟨rfl, rfl, rfl, by decide +kernel, rfl, by decide +kernel, by decide +kernel⟩
abbrev s_say_two_names : Stmt := top 66
theorem sc_say_two_names : FnScope ["row", "behind"] ["row", "behind"] (defScope s_say_two_names) := ⟨rfl, rfl, rfl, by decide +kernel, rfl, by decide +kernel, by decide +kernel⟩
abbrev s_clash_in_cells : Stmt := top 67
theorem sc_clash_in_cells : FnScope ["row", "behind"] ["row", "behind"] (defScope s_clash_in_cells) := ⟨rfl, rfl, rfl, by decide +kernel, rfl, by decide +kernel, by decide +kernel⟩
abbrev s_may_trade : Stmt := top 68
theorem sc_may_trade : FnScope ["row", "behind"] ["row", "behind"] (defScope s_may_trade) := ⟨rfl, rfl, rfl, by decide +kernel, rfl, by decide +kernel, by decide +kernel⟩
abbrev s_ask_shows : Stmt := top 72
theorem sc_ask_shows : FnScope ["code"] ["code"] (defScope s_ask_shows) := ⟨rfl, rfl, rfl, by decide +kernel, rfl, by decide +kernel, by decide +kernel⟩
abbrev s_ask_run : Stmt := top 73
theorem sc_ask_run : FnScope ["code", "added", "words"] ["code", "added", "words"] (defScope s_ask_run) := ⟨rfl, rfl, rfl, by decide +kernel, rfl, by decide +kernel, by decide +kernel⟩
abbrev s_ask_sees : Stmt := top 74
theorem sc_ask_sees : FnScope ["code", "reading", "seen"] ["code", "reading"] (defScope s_ask_sees) := ⟨rfl, rfl, rfl, by decide +kernel, rfl, by decide +kernel, by decide +kernel⟩
abbrev s_ask_sure : Stmt := top 75
theorem sc_ask_sure : FnScope ["code", "cells", "base", "number", "name"] ["code", "cells", "base", "number"] (defScope s_ask_sure) := ⟨rfl, rfl, rfl, by decide +kernel, rfl, by decide +kernel, by decide +kernel⟩
abbrev s_ask_trade : Stmt := top 76
theorem sc_ask_trade : FnScope ["code", "at"] ["code", "at"] (defScope s_ask_trade) := ⟨rfl, rfl, rfl, by decide +kernel, rfl, by decide +kernel, by decide +kernel⟩
abbrev s_ask_better : Stmt := top 77
theorem sc_ask_better : FnScope ["code"] ["code"] (defScope s_ask_better) := ⟨rfl, rfl, rfl, by decide +kernel, rfl, by decide +kernel, by decide +kernel⟩
abbrev s_ask_runbetter : Stmt := top 78
theorem sc_ask_runbetter : FnScope ["code", "added", "words"] ["code", "added", "words"] (defScope s_ask_runbetter) := ⟨rfl, rfl, rfl, by decide +kernel, rfl, by decide +kernel, by decide +kernel⟩
abbrev s_arguments_at : Stmt := top 93
theorem sc_arguments_at : FnScope ["calls", "at", "first", "behind"] ["calls", "at"] (defScope s_arguments_at) := ⟨rfl, rfl, rfl, by decide +kernel, rfl, by decide +kernel, by decide +kernel⟩
abbrev s_answer_building : Stmt := top 94
theorem sc_answer_building : FnScope ["code", "call", "given"] ["code", "call", "given"] (defScope s_answer_building) := ⟨rfl, rfl, rfl, by decide +kernel, rfl, by decide +kernel, by decide +kernel⟩
abbrev s_answer_asking : Stmt := top 95
theorem sc_answer_asking : FnScope ["code", "call", "given"] ["code", "call", "given"] (defScope s_answer_asking) := ⟨rfl, rfl, rfl, by decide +kernel, rfl, by decide +kernel, by decide +kernel⟩
abbrev s_answer_call : Stmt := top 96
theorem sc_answer_call : FnScope ["code", "call", "given"] ["code", "call", "given"] (defScope s_answer_call) := ⟨rfl, rfl, rfl, by decide +kernel, rfl, by decide +kernel, by decide +kernel⟩
abbrev s_Code_init : Stmt := inClass (top 6) 0
theorem sc_Code_init : FnScope ["self"] ["self"] (defScope s_Code_init) := ⟨rfl, rfl, rfl, by decide +kernel, rfl, by decide +kernel, by decide +kernel⟩
abbrev s_answers : Stmt := top 97
theorem sc_answers : FnScope ["calls", "code", "told", "at", "given", "answered"] ["calls"] (defScope s_answers) := ⟨rfl, rfl, rfl, by decide +kernel, rfl, by decide +kernel, by decide +kernel⟩
structure Top (K : PySem.W.Frag) (mg : Str → Option Value) (ACode ARun : Addr) : Prop where
  b_len : mg "len" = none
  b_reversed : mg "reversed" = none
  b_sorted : mg "sorted" = none
  b_range : mg "range" = none
  b_any : mg "any" = none
  b_int : mg "int" = none
  b_dict : mg "dict" = none
  b_enumerate : mg "enumerate" = none
  c_NUMBER : Con1 mg "NUMBER" (.int 0)
  c_READ : Con1 mg "READ" (.int 1)
  c_WRITE : Con1 mg "WRITE" (.int 2)
  c_SAY : Con1 mg "SAY" (.int 3)
  c_FIRST_NOT_LOOKED_AT : Con1 mg "FIRST_NOT_LOOKED_AT" (.int 2)
  c_MOST_HANDED : Con1 mg "MOST_HANDED" (.int 4)
  c_MOST_ROWS : Con1 mg "MOST_ROWS" (.int 16)
  c_ROWS_OF_CELLS : Con1 mg "ROWS_OF_CELLS" (.int 4)
  c_TOO_MANY_WORDS : Con1 mg "TOO_MANY_WORDS" (.int (-1))
  c_NO_ROOM : Con1 mg "NO_ROOM" (.int (-1))
  c_NOT_THERE : Con1 mg "NOT_THERE" (.int (-2))
  c_COUNT_OF_WORDS : Con1 mg "COUNT_OF_WORDS" (.int 4294967296)
  c_WORD_FOR_ROW_OF_CELLS : Con1 mg "WORD_FOR_ROW_OF_CELLS" (.int 1000003)
  c_WORD_FOR_CELL : Con1 mg "WORD_FOR_CELL" (.int 7919)
  c_NO_SUCH_ROW : Con1 mg "NO_SUCH_ROW" (.int (-3))
  c_OTHER_COUNT_OF_WORDS : Con1 mg "OTHER_COUNT_OF_WORDS" (.int (-5))
  c_CALL_CODE : Con1 mg "CALL_CODE" (.int 0)
  c_CALL_NUM : Con1 mg "CALL_NUM" (.int 1)
  c_CALL_READ : Con1 mg "CALL_READ" (.int 2)
  c_CALL_WRITE : Con1 mg "CALL_WRITE" (.int 3)
  c_CALL_SAY : Con1 mg "CALL_SAY" (.int 4)
  c_CALL_SHOWS : Con1 mg "CALL_SHOWS" (.int 5)
  c_CALL_RUN : Con1 mg "CALL_RUN" (.int 6)
  c_CALL_SEES : Con1 mg "CALL_SEES" (.int 7)
  c_CALL_SURE : Con1 mg "CALL_SURE" (.int 8)
  c_CALL_TRADE : Con1 mg "CALL_TRADE" (.int 9)
  c_CALL_BETTER : Con1 mg "CALL_BETTER" (.int 10)
  c_ARGUMENT_COUNTS : ConT K mg "ARGUMENT_COUNTS" [.int 1, .int 1, .int 3, .int 4, .int 1, .int 0, .int 2, .int 1, .int 3, .int 1, .int 0, .int 2]
  c_CALLS_WITH_WORDS : ConT K mg "CALLS_WITH_WORDS" [.int 6, .int 11]
  cl_Code : Cls K ACode
  cls_Code : mg "Code" = some (.ref ACode)
  n_Code_handed : NoAttr K ACode "handed"
  n_Code_rows : NoAttr K ACode "rows"
  cl_Run : Cls K ARun
  cls_Run : mg "Run" = some (.ref ARun)
  n_Run_added : NoAttr K ARun "added"
  n_Run_named : NoAttr K ARun "named"
  n_Run_said : NoAttr K ARun "said"
  n_Run_words : NoAttr K ARun "words"
  n_Run_written : NoAttr K ARun "written"
  f_gives_name : Stands K mg "gives_name" s_gives_name
  f_count_names : Stands K mg "count_names" s_count_names
  f_name_used : Stands K mg "name_used" s_name_used
  f_cells_of : Stands K mg "cells_of" s_cells_of
  f_place_of : Stands K mg "place_of" s_place_of
  f_name_at_place : Stands K mg "name_at_place" s_name_at_place
  f_is_looked_at : Stands K mg "is_looked_at" s_is_looked_at
  f_in_numbers : Stands K mg "in_numbers" s_in_numbers
  f_tells_place : Stands K mg "tells_place" s_tells_place
  f_has_name : Stands K mg "has_name" s_has_name
  f_put_row : Stands K mg "put_row" s_put_row
  f_begin_code : Stands K mg "begin_code" s_begin_code
  f_put_number : Stands K mg "put_number" s_put_number
  f_put_read : Stands K mg "put_read" s_put_read
  f_put_write : Stands K mg "put_write" s_put_write
  f_put_say : Stands K mg "put_say" s_put_say
  f_alike : Stands K mg "alike" s_alike
  f_never_same : Stands K mg "never_same" s_never_same
  f_cell_at : Stands K mg "cell_at" s_cell_at
  f_is_passed_over : Stands K mg "is_passed_over" s_is_passed_over
  f_sure_name : Stands K mg "sure_name" s_sure_name
  f_first_word : Stands K mg "first_word" s_first_word
  f_word_in : Stands K mg "word_in" s_word_in
  f_cell_key : Stands K mg "cell_key" s_cell_key
  f_do_row : Stands K mg "do_row" s_do_row
  f_cells_to_tell : Stands K mg "cells_to_tell" s_cells_to_tell
  f_Run_init : StandsI K ARun "Run.__init__" s_Run_init
  f_run_told : Stands K mg "run_told" s_run_told
  f_is_write_alike : Stands K mg "is_write_alike" s_is_write_alike
  f_may_see_first : Stands K mg "may_see_first" s_may_see_first
  f_may_see : Stands K mg "may_see" s_may_see
  f_writes_seen : Stands K mg "writes_seen" s_writes_seen
  f_renamed : Stands K mg "renamed" s_renamed
  f_name_of_number : Stands K mg "name_of_number" s_name_of_number
  f_known_name : Stands K mg "known_name" s_known_name
  f_without_known : Stands K mg "without_known" s_without_known
  f_is_name_used : Stands K mg "is_name_used" s_is_name_used
  f_is_seen : Stands K mg "is_seen" s_is_seen
  f_is_left : Stands K mg "is_left" s_is_left
  f_is_wanted : Stands K mg "is_wanted" s_is_wanted
  f_without_unseen : Stands K mg "without_unseen" s_without_unseen
  f_made_smaller : Stands K mg "made_smaller" s_made_smaller
  f_needs_name : Stands K mg "needs_name" s_needs_name
  f_say_two_names : Stands K mg "say_two_names" s_say_two_names
  f_clash_in_cells : Stands K mg "clash_in_cells" s_clash_in_cells
  f_may_trade : Stands K mg "may_trade" s_may_trade
  f_ask_shows : Stands K mg "ask_shows" s_ask_shows
  f_ask_run : Stands K mg "ask_run" s_ask_run
  f_ask_sees : Stands K mg "ask_sees" s_ask_sees
  f_ask_sure : Stands K mg "ask_sure" s_ask_sure
  f_ask_trade : Stands K mg "ask_trade" s_ask_trade
  f_ask_better : Stands K mg "ask_better" s_ask_better
  f_ask_runbetter : Stands K mg "ask_runbetter" s_ask_runbetter
  f_arguments_at : Stands K mg "arguments_at" s_arguments_at
  f_answer_building : Stands K mg "answer_building" s_answer_building
  f_answer_asking : Stands K mg "answer_asking" s_answer_asking
  f_answer_call : Stands K mg "answer_call" s_answer_call
  f_Code_init : StandsI K ACode "Code.__init__" s_Code_init
  f_answers : Stands K mg "answers" s_answers

/-! ### how the code lies in the heap -/
abbrev nV (n : Nat) : V := V.int (n : Int)
def encR (r : Cm10.Row) : List V := r.nums.map nV
def Rw (K : PySem.W.Frag) (H : Hp) (as : List Addr) (rs : List Cm10.Row) : Prop := as.length = rs.length ∧ ∀ (i : Nat) (a : Addr) (r : Cm10.Row), as[i]? = some a → rs[i]? = some r → SqT K H a (encR r)
def cF (k : Nat) (l : Addr) : List (Str × V) := [("handed", nV k), ("rows", .ref l)]
/-- at a the code c stands, an instance of the class at C; its rows at l -/
def CodeAt (K : PySem.W.Frag) (C : Addr) (H : Hp) (a l : Addr) (c : Cm10.Code) : Prop := ∃ dx as, H a = some (.ins C dx (cF c.args l)) ∧ H l = some (.lst (as.map V.ref)) ∧ Rw K H as c.rows
/-- all but a and l is as it was -/
def But (H H' : Hp) (a l : Addr) : Prop := ∀ b o, H b = some o → b ≠ a → b ≠ l → H' b = some o

theorem hr_ : ¬ (("handed" : Str) = "rows") := by decide +kernel
theorem rh_ : ¬ (("rows" : Str) = "handed") := by decide +kernel
theorem cF_handed (k : Nat) (l : Addr) : (cF k l).lookup ("handed" : Str) = some (nV k) := by
  have e : (("handed" : Str) == "handed") = true := beq_self_eq_true _
  simp only [cF, List.lookup, e]
theorem cF_rows (k : Nat) (l : Addr) : (cF k l).lookup ("rows" : Str) = some (.ref l) := by
  have e : (("rows" : Str) == "rows") = true := beq_self_eq_true _
  have d : (("rows" : Str) == "handed") = false := by decide +kernel
  simp only [cF, List.lookup, e, d]
theorem cF_put_handed (k m : Nat) (l : Addr) : putF "handed" (nV m) (cF k l) = cF m l := if_pos rfl
theorem cF_put_rows (k : Nat) (l m : Addr) : putF "rows" (.ref m) (cF k l) = cF k m := by
  show (if ("handed" : Str) = "rows" then _ else (("handed" : Str), nV k) :: (if ("rows" : Str) = "rows" then [(("rows" : Str), V.ref m)] else _)) = _
  rw [if_neg hr_, if_pos rfl]
  rfl
theorem cF_new (l : Addr) : putF "rows" (.ref l) (putF "handed" (.int 0) []) = cF 0 l := by
  show (if ("handed" : Str) = "rows" then _ else (("handed" : Str), V.int 0) :: putF "rows" (.ref l) []) = _
  rw [if_neg hr_]
  rfl

theorem sqT_same {K : PySem.W.Frag} {H H' : Hp} {a : Addr} {xs : List V} (e : Same H H') (h : SqT K H a xs) : SqT K H' a xs := by
  rcases h with (h | ⟨o, h⟩) | h
  · exact .inl (.inl (e _ _ h))
  · exact .inl (.inr ⟨o, e _ _ h⟩)
  · exact .inr h
/-- a tuple stands where others than tuples change -/
theorem sqT_but {K : PySem.W.Frag} {H H' : Hp} {a l b : Addr} {xs : List V} {o u : HO} (e : But H H' a l) (ha : H a = some o) (hl : H l = some u) (no : ∀ y, o ≠ .tup y) (nf : ∀ z y, o ≠ .frz z y) (mo : ∀ y, u ≠ .tup y) (mf : ∀ z y, u ≠ .frz z y) (h : SqT K H b xs) : SqT K H' b xs := by
  rcases h with (h | ⟨z, h⟩) | h
  · refine .inl (.inl (e _ _ h ?_ ?_))
    · exact ne_of h ha fun q => no _ q.symm
    · exact ne_of h hl fun q => mo _ q.symm
  · refine .inl (.inr ⟨z, e _ _ h ?_ ?_⟩)
    · exact ne_of h ha fun q => nf _ _ q.symm
    · exact ne_of h hl fun q => mf _ _ q.symm
  · exact .inr h
theorem Rw.same {K : PySem.W.Frag} {H H' : Hp} {as : List Addr} {rs : List Cm10.Row} (e : Same H H') (h : Rw K H as rs) : Rw K H' as rs := ⟨h.1, fun i a r x y => sqT_same e (h.2 i a r x y)⟩
theorem Rw.but {K : PySem.W.Frag} {H H' : Hp} {a l : Addr} {as : List Addr} {rs : List Cm10.Row} {C dx : Addr} {fs : List (Str × V)} {xs : List V} (e : But H H' a l) (ha : H a = some (.ins C dx fs)) (hl : H l = some (.lst xs)) (h : Rw K H as rs) : Rw K H' as rs :=
  ⟨h.1, fun i b r x y => sqT_but e ha hl (fun _ q => nomatch q) (fun _ _ q => nomatch q) (fun _ q => nomatch q) (fun _ _ q => nomatch q) (h.2 i b r x y)⟩
theorem Rw.nil {K : PySem.W.Frag} {H : Hp} : Rw K H [] [] := ⟨rfl, fun i a r x => by simp at x⟩
theorem Rw.snoc {K : PySem.W.Frag} {H : Hp} {as : List Addr} {rs : List Cm10.Row} {a : Addr} {r : Cm10.Row} (h : Rw K H as rs) (ha : SqT K H a (encR r)) : Rw K H (as ++ [a]) (rs ++ [r]) := by
  refine ⟨by simp [h.1], fun i b q x y => ?_⟩
  rw [List.getElem?_append] at x y
  rw [h.1] at x
  by_cases c : i < rs.length
  · rw [if_pos c] at x y
    exact h.2 i b q x y
  · rw [if_neg c] at x y
    have e : i - rs.length = 0 := by
      have := (List.getElem?_eq_some_iff.mp y).1
      simp at this
      omega
    rw [e] at x y
    cases x
    cases y
    exact ha
theorem Rw.at {K : PySem.W.Frag} {H : Hp} {as : List Addr} {rs : List Cm10.Row} {i : Nat} {y : V} (h : Rw K H as rs) (e : (as.map V.ref)[i]? = some y) : ∃ a r, y = .ref a ∧ rs[i]? = some r ∧ SqT K H a (encR r) := by
  rw [List.getElem?_map] at e
  cases e1 : as[i]? with
  | none =>
    rw [e1] at e
    cases e
  | some a =>
    rw [e1] at e
    have hi : i < rs.length := by
      have := (List.getElem?_eq_some_iff.mp e1).1
      have := h.1
      omega
    exact ⟨a, rs[i], (Option.some.inj e).symm, by simp [hi], h.2 i a _ e1 (by simp [hi])⟩
theorem CodeAt.same {K : PySem.W.Frag} {C : Addr} {H H' : Hp} {a l : Addr} {c : Cm10.Code} (e : Same H H') (h : CodeAt K C H a l c) : CodeAt K C H' a l c := by
  obtain ⟨dx, as, h1, h2, h3⟩ := h
  exact ⟨dx, as, e _ _ h1, e _ _ h2, h3.same e⟩
theorem But.of_same {H H' : Hp} {a l : Addr} (e : Same H H') : But H H' a l := fun b o h _ _ => e b o h
theorem same_new {H : Hp} {p : Addr} {o : HO} (h : H p = none) : Same H (upd H p o) := fun b u e => by
  rw [upd_ne (ne_of_none e h)]
  exact e

section
variable {P : Program} {w : World} {K : PySem.W.Frag} {mg : Str → Option Value} {base : Heap} {ACode ARun : Addr}

def sp_gives_name (K : PySem.W.Frag) : Sp := fun vs H Q _ => ∃ p r, vs = [.ref p] ∧ SqT K H p (encR r) ∧ Q (.bl r.gives.isSome) H
theorem ok_gives_name (T : Top K mg ACode ARun) : Kept P w K mg base 1 "gives_name" ["row"] (sp_gives_name K) := by
  refine kept_of T.f_gives_name sc_gives_name
    (fun _ _ _ _ _ _ us hl => match us, hl with | [_], _ => rfl)
    ?_ fun f cdv A outer s H vs Q E hr h => ?_
  · rintro vs H Q E ⟨p, r, rfl, _⟩
    rfl
  obtain ⟨p, r, rfl, hs, q⟩ := h
  refine ⟨_, (pss_one (ps_ret (pe_or (pe_cmpR op_eq (pe_ix ix_tup (pv 0) pe_int (fun _ _ => rfl)) (pe_con1 T.c_NUMBER (by rfl)) (nomark _)) (pe_one (pe_cmpR op_eq (pe_ix ix_tup (pv 0) pe_int (fun _ _ => rfl)) (pe_con1 T.c_READ (by rfl)) (nomark _)))))), ?_⟩
  cases r with
  | num x k => exact ⟨_, rfl, p, _, _, _, rfl, rfl, hs, rfl, rfl, _, rfl, q⟩
  | read x a c => exact ⟨_, rfl, p, _, _, _, rfl, rfl, hs, rfl, rfl, _, rfl, _, rfl, p, _, _, _, rfl, rfl, hs, rfl, rfl, q⟩
  | write a c v => exact ⟨_, rfl, p, _, _, _, rfl, rfl, hs, rfl, rfl, _, rfl, _, rfl, p, _, _, _, rfl, rfl, hs, rfl, rfl, q⟩
  | say v => exact ⟨_, rfl, p, _, _, _, rfl, rfl, hs, rfl, rfl, _, rfl, _, rfl, p, _, _, _, rfl, rfl, hs, rfl, rfl, q⟩

def sp_count_names (K : PySem.W.Frag) (C : Addr) : Sp := fun vs H Q _ => ∃ a l c, vs = [.ref a] ∧ CodeAt K C H a l c ∧ Q (nV (c.args + givesN c.rows)) H
theorem ok_count_names (T : Top K mg ACode ARun) : Kept P w K mg base 2 "count_names" ["code"] (sp_count_names K ACode) := by
  refine kept_of T.f_count_names sc_count_names
    (fun _ _ _ _ _ _ us hl => match us, hl with | [_], _ => rfl)
    ?_ fun f cdv A outer s H vs Q E hr h => ?_
  · rintro vs H Q E ⟨a, l, c, rfl, _⟩
    rfl
  obtain ⟨a, l, c, rfl, ⟨dx, as, ha, hl, hw⟩, q⟩ := h
  refine ⟨_, (pss_cons (ps_set (i := 1) sc_count_names.nd rfl (Or.inl rfl) (pe_fld (pv 0) rfl))
      (pss_cons (ps_for PassesOwn.never rfl (pi_list (pe_fld (pv 0) rfl)) (pg_name (i := 2) sc_count_names.nd rfl (Or.inl rfl))
      (pss_one (ps_if (pt_val (pe_own (ok_gives_name T) (hr.mono (by decide)) (by rfl) (pa_cons (pv 2) pa_nil)))
        (pss_one (ps_aug (i := 1) sc_count_names.nd rfl (Or.inl rfl) pe_int ip_add))
        pss_nil)))
      (pss_one (ps_ret (pv 1))))), ?_⟩
  refine ⟨_, rfl, a, ACode, dx, _, _, rfl, ha, T.cl_Code, T.n_Code_handed, cF_handed _ _, ?_⟩
  refine ⟨_, rfl, a, ACode, dx, _, _, rfl, ha, T.cl_Code, T.n_Code_rows, cF_rows _ _, l, rfl, ⟨_, SqL.of hl⟩, ?_⟩
  refine for_list (K := K) (a := l) (xs := as.map V.ref) (fun i σ H' => H' = H ∧ ∃ v : Option V, σ = [some (.ref a), some (nV (c.args + givesN (c.rows.take i))), v]) ⟨rfl, none, rfl⟩ (fun i σ H' _ ⟨e, _⟩ => by rw [e]; exact SqL.of hl) ?_ ?_
  · rintro i y σ H' hi ⟨rfl, v, rfl⟩
    obtain ⟨b, r, rfl, hr', hs⟩ := hw.at hi
    refine ⟨_, rfl, b, r, rfl, hs, _, rfl, ?_⟩
    have e := givesN_more hr'
    cases g : r.gives.isSome with
    | true =>
      rw [g] at e
      refine iteT ⟨_, rfl, _, _, rfl, rfl, rfl, some (.ref b), ?_⟩
      show [some (.ref a), some (V.int (((c.args + givesN (c.rows.take i) : Nat) : Int) + 1)), some (.ref b)] = _
      rw [e]
      rfl
    | false =>
      rw [g] at e
      refine iteF ⟨rfl, some (.ref b), ?_⟩
      rw [e]
      rfl
  · rintro σ H' ⟨rfl, v, rfl⟩
    refine ⟨_, rfl, ?_⟩
    rw [List.length_map, hw.1, List.take_length]
    exact q

/-! ### a list of numbers as an answer -/
def numsV (rs : List Cm10.Row) : List V := rs.flatMap encR
theorem numsV_more {rs : List Cm10.Row} {i : Nat} {r : Cm10.Row} (h : rs[i]? = some r) : numsV (rs.take (i + 1)) = numsV (rs.take i) ++ encR r := by
  unfold numsV
  rw [take_succ h, List.flatMap_append]
  simp
theorem encR_len (r : Cm10.Row) : (encR r).length ≤ 5 := by
  cases r <;> simp [encR, Cm10.Row.nums, Cm10.Place.nums]
theorem numsV_len : ∀ rs : List Cm10.Row, (numsV rs).length ≤ 5 * rs.length
  | [] => Nat.le_refl _
  | r :: rs => by
    have := encR_len r
    have := numsV_len rs
    simp only [numsV, List.flatMap_cons, List.length_append, List.length_cons] at *
    omega
def codeV (k : Nat) (rs : List Cm10.Row) : List V := nV k :: nV rs.length :: numsV rs
def sp_in_numbers (K : PySem.W.Frag) : Sp := fun vs H Q _ => ∃ (k : Nat) (l : Addr) (as : List Addr) (rs : List Cm10.Row), vs = [nV k, .ref l] ∧ SqL K H l (as.map V.ref) ∧ Rw K H as rs ∧ rs.length ≤ 16 ∧
  ∀ p H', H p = none → Same H H' → H' p = some (.lst (codeV k rs)) → Q (.ref p) H'
theorem ok_in_numbers (T : Top K mg ACode ARun) : Kept P w K mg base 1 "in_numbers" ["handed", "rows"] (sp_in_numbers K) := by
  refine kept_of T.f_in_numbers sc_in_numbers
    (fun _ _ _ _ _ _ us hl => match us, hl with | [_, _], _ => rfl)
    ?_ fun f cdv A outer s H vs Q E hr h => ?_
  · rintro vs H Q E ⟨k, l, as, rs, rfl, _⟩
    rfl
  obtain ⟨k, l, as, rs, rfl, hl, hw, h16, q⟩ := h
  refine ⟨_, (pss_cons (ps_set (i := 2) sc_in_numbers.nd rfl (Or.inl rfl) (pe_lst (pa_cons (pv 0) (pa_cons (pe_callB call_len_seq (by rfl) T.b_len (by decide +kernel) (pa_cons (pv 1) pa_nil)) pa_nil))))
      (pss_cons (ps_for PassesOwn.never rfl (pi_list (pv 1)) (pg_name (i := 3) sc_in_numbers.nd rfl (Or.inl rfl))
      (pss_one (ps_expr (pe_bm PySem.F.plainAttrs_list PySem.F.slot_list_extend PySem.F.type_list_extend mt_extendT (pv 2) (pa_cons (pv 3) pa_nil)))))
      (pss_one (ps_ret (pv 2))))), ?_⟩
  refine ⟨_, rfl, _, rfl, l, _, rfl, .inl hl, (by show 2 ≤ sizeLine; decide), fun p hp => ?_⟩
  have s1 : Same H (upd H p (.lst [nV k, nV (as.map V.ref).length])) := same_new hp
  refine ⟨_, rfl, l, rfl, ⟨_, s1.seq hl⟩, ?_⟩
  refine for_list (K := K) (a := l) (xs := as.map V.ref) (fun i σ H' => Same H H' ∧ H' p = some (.lst (nV k :: nV rs.length :: numsV (rs.take i))) ∧ ∃ v : Option V, σ = [some (nV k), some (.ref l), some (.ref p), v])
    ⟨s1, ?_, none, rfl⟩ (fun i σ H' _ ⟨e, _⟩ => e.seq hl) ?_ ?_
  · rw [upd_same, List.length_map, hw.1]
    rfl
  · rintro i y σ H' hi ⟨e, hq, v, rfl⟩
    obtain ⟨b, r, rfl, hr', hs⟩ := hw.at hi
    have hb := numsV_len (rs.take i)
    have he := encR_len r
    have hi' := (List.getElem?_eq_some_iff.mp hr').1
    refine ⟨_, rfl, .inl ⟨rfl, _, SqL.of hq⟩, _, rfl, p, b, _, _, rfl, rfl, hq, sqT_same e hs, ?_, ?_⟩
    · refine Nat.le_trans (m := 100) ?_ (by decide)
      rw [List.length_take] at hb
      simp only [List.length_cons]
      omega
    · refine ⟨fun b o h => ?_, ?_, some (.ref b), rfl⟩
      · rw [upd_ne (ne_of_none h hp)]
        exact e b o h
      · rw [upd_same, numsV_more hr']
        rfl
  · rintro σ H' ⟨e, hq, v, rfl⟩
    refine ⟨_, rfl, q p H' hp e ?_⟩
    rw [List.length_map, hw.1, List.take_length] at hq
    exact hq

def sp_tells_place (K : PySem.W.Frag) (C : Addr) : Sp := fun vs H Q _ => ∃ (a l : Addr) (c : Cm10.Code) (A b : Nat), vs = [.ref a, nV A, nV b] ∧ CodeAt K C H a l c ∧ Q (.bl (decide (A < 4) && decide (b ≤ c.args))) H
theorem ok_tells_place (T : Top K mg ACode ARun) : Kept P w K mg base 1 "tells_place" ["code", "cells", "base"] (sp_tells_place K ACode) := by
  refine kept_of T.f_tells_place sc_tells_place
    (fun _ _ _ _ _ _ us hl => match us, hl with | [_, _, _], _ => rfl)
    ?_ fun f cdv A outer s H vs Q E hr h => ?_
  · rintro vs H Q E ⟨a, l, c, A, b, rfl, _⟩
    rfl
  obtain ⟨a, l, c, A', b, rfl, ⟨dx, as, ha, hl, hw⟩, q⟩ := h
  refine ⟨_, (pss_one (ps_ret (pe_and (pe_cmpR op_lt (pv 1) (pe_con1 T.c_ROWS_OF_CELLS (by rfl)) (nomark _)) (pe_one (pe_cmpR op_le (pv 2) (pe_fld (pv 0) rfl) (nomark _)))))), ?_⟩
  refine ⟨_, rfl, _, _, rfl, rfl, _, rfl, ?_⟩
  by_cases c1 : A' < 4
  · have d1 : decide ((A' : Int) < 4) = true := decide_eq_true (by omega)
    rw [d1]
    refine iteT ⟨_, rfl, _, rfl, a, ACode, dx, _, _, rfl, ha, T.cl_Code, T.n_Code_handed, cF_handed _ _, _, _, rfl, rfl, ?_⟩
    have e : decide ((b : Int) ≤ (c.args : Int)) = (decide (A' < 4) && decide (b ≤ c.args)) := by
      rw [decide_eq_true c1, Bool.true_and]
      exact decide_eq_decide.mpr (by omega)
    rw [← e] at q
    exact q
  · have d1 : decide ((A' : Int) < 4) = false := decide_eq_false (by omega)
    rw [d1]
    refine iteF ?_
    rw [decide_eq_false c1] at q
    exact q

def sp_has_name (K : PySem.W.Frag) (C : Addr) : Sp := fun vs H Q _ => ∃ (a l : Addr) (c : Cm10.Code) (v : Nat), vs = [.ref a, nV v] ∧ CodeAt K C H a l c ∧ Q (.bl (decide (v < c.args + givesN c.rows))) H
theorem ok_has_name (T : Top K mg ACode ARun) : Kept P w K mg base 3 "has_name" ["code", "name"] (sp_has_name K ACode) := by
  refine kept_of T.f_has_name sc_has_name
    (fun _ _ _ _ _ _ us hl => match us, hl with | [_, _], _ => rfl)
    ?_ fun f cdv A outer s H vs Q E hr h => ?_
  · rintro vs H Q E ⟨a, l, c, v, rfl, _⟩
    rfl
  obtain ⟨a, l, c, v, rfl, hc, q⟩ := h
  refine ⟨_, (pss_one (ps_ret (pe_cmpR op_lt (pv 1) (pe_own (ok_count_names T) (hr.mono (by decide)) (by rfl) (pa_cons (pv 0) pa_nil)) (nomark _)))), ?_⟩
  refine ⟨_, rfl, _, rfl, a, l, c, rfl, hc, _, _, rfl, rfl, ?_⟩
  have e : decide ((v : Int) < ((c.args + givesN c.rows : Nat) : Int)) = decide (v < c.args + givesN c.rows) := decide_eq_decide.mpr (by omega)
  rw [← e] at q
  exact q

/-- what a call that may change the code leaves -/
def After (K : PySem.W.Frag) (C : Addr) (H : Hp) (a l : Addr) (Q : VK) (c : Cm10.Code) (ns : List Int) : Prop :=
  ∀ p H' l', (l' = l ∨ H l' = none) → CodeAt K C H' a l' c → But H H' a l → H p = none → H' p = some (.lst (ns.map V.int)) → Q (.ref p) H'
def rowedC (c : Cm10.Code) (r : Cm10.Row) : Cm10.Code × List Int := if 16 ≤ c.rows.length then (c, [-1]) else (⟨c.args, c.rows ++ [r]⟩, [(c.rows.length : Int) + 1])
def sp_put_row (K : PySem.W.Frag) (C : Addr) : Sp := fun vs H Q _ => ∃ a l c b r, vs = [.ref a, .ref b] ∧ CodeAt K C H a l c ∧ SqT K H b (encR r) ∧ After K C H a l Q (rowedC c r).1 (rowedC c r).2
theorem ok_put_row (T : Top K mg ACode ARun) : Kept P w K mg base 1 "put_row" ["code", "row"] (sp_put_row K ACode) := by
  refine kept_of T.f_put_row sc_put_row
    (fun _ _ _ _ _ _ us hl => match us, hl with | [_, _], _ => rfl)
    ?_ fun f cdv A outer s H vs Q E hr h => ?_
  · rintro vs H Q E ⟨a, l, c, b, r, rfl, _⟩
    rfl
  obtain ⟨a, l, c, b, r, rfl, hc, hb, q⟩ := h
  obtain ⟨dx, as, ha, hl, hw⟩ := id hc
  refine ⟨_, (pss_cons (ps_if (pt_cmpR op_ge (pe_callB call_len_seq (by rfl) T.b_len (by decide +kernel) (pa_cons (pe_fld (pv 0) rfl) pa_nil)) (pe_con1 T.c_MOST_ROWS (by rfl)) (nomark _))
      (pss_one (ps_ret (pe_lst (pa_cons (pe_con1 T.c_NO_ROOM (by rfl)) pa_nil))))
      pss_nil)
      (pss_cons (ps_expr (pe_bm PySem.F.plainAttrs_list PySem.F.slot_list_append PySem.F.type_list_append mt_append (pe_fld (pv 0) rfl) (pa_cons (pv 1) pa_nil)))
      (pss_one (ps_ret (pe_lst (pa_cons (pe_callB call_len_seq (by rfl) T.b_len (by decide +kernel) (pa_cons (pe_fld (pv 0) rfl) pa_nil)) pa_nil)))))), ?_⟩
  refine ⟨_, rfl, a, ACode, dx, _, _, rfl, ha, T.cl_Code, T.n_Code_rows, cF_rows _ _, l, _, rfl, .inl (SqL.of hl), _, _, rfl, rfl, _, rfl, ?_⟩
  have hlen : (as.map V.ref).length = c.rows.length := by rw [List.length_map, hw.1]
  by_cases d : 16 ≤ c.rows.length
  · have e : decide ((16 : Int) ≤ (((as.map V.ref).length : Nat) : Int)) = true := decide_eq_true (by omega)
    rw [e]
    refine iteT ⟨by decide, fun p hp => ?_⟩
    have er : rowedC c r = (c, [-1]) := if_pos d
    rw [er] at q
    exact q p _ l (.inl rfl) (hc.same (same_new hp)) (But.of_same (same_new hp)) hp upd_same
  · have e : decide ((16 : Int) ≤ (((as.map V.ref).length : Nat) : Int)) = false := decide_eq_false (by omega)
    rw [e]
    have er : rowedC c r = (⟨c.args, c.rows ++ [r]⟩, [(c.rows.length : Int) + 1]) := if_neg d
    rw [er] at q
    have nal : a ≠ l := ne_of ha hl (by intro z; cases z)
    refine iteF ⟨_, rfl, a, ACode, dx, _, _, rfl, ha, T.cl_Code, T.n_Code_rows, cF_rows _ _, .inl ⟨rfl, _, SqL.of hl⟩, _, rfl, l, _, _, rfl, rfl, hl, Nat.lt_of_lt_of_le (m := 16) (by omega) (by decide), ?_⟩
    have ha1 : (upd H l (.lst (as.map V.ref ++ [.ref b]))) a = some (.ins ACode dx (cF c.args l)) := by
      rw [upd_ne nal]
      exact ha
    refine ⟨_, rfl, a, ACode, dx, _, _, rfl, ha1, T.cl_Code, T.n_Code_rows, cF_rows _ _, l, _, rfl, .inl (SqL.of upd_same), (by show 1 ≤ sizeLine; decide), fun p hp => ?_⟩
    have npl : p ≠ l := fun z => by
      rw [z, upd_same] at hp
      cases hp
    have hp0 : H p = none := by
      rw [upd_ne npl] at hp
      exact hp
    have but1 : But H (upd H l (.lst (as.map V.ref ++ [.ref b]))) a l := fun x o hx n1 n2 => by
      rw [upd_ne n2]
      exact hx
    have s2 := same_new (o := .lst [V.int ((((as.map V.ref ++ [V.ref b]).length : Nat) : Int))]) hp
    refine q p _ l (.inl rfl) ⟨dx, as ++ [b], s2 _ _ ha1, ?_, ?_⟩ (fun x o hx n1 n2 => s2 _ _ (but1 x o hx n1 n2)) hp0 ?_
    · refine s2 _ _ ?_
      rw [upd_same, List.map_append]
      rfl
    · exact ((hw.but but1 ha hl).snoc (sqT_but but1 ha hl (fun _ z => nomatch z) (fun _ _ z => nomatch z) (fun _ z => nomatch z) (fun _ _ z => nomatch z) hb)).same s2
    · show (upd _ p (HO.lst [V.int ((((as.map V.ref ++ [V.ref b]).length : Nat) : Int))])) p = _
      rw [upd_same, List.length_append, hlen]
      rfl

theorem ins_ne_lst {H : Hp} {a l C dx : Addr} {fs : List (Str × V)} {xs : List V} (ha : H a = some (.ins C dx fs)) (hl : H l = some (.lst xs)) : a ≠ l := ne_of ha hl (by intro z; cases z)
def begunC (c : Cm10.Code) (k : Nat) : Cm10.Code × List Int := if 4 < k then (c, [-1]) else (⟨k, []⟩, [(k : Int)])
def sp_begin_code (K : PySem.W.Frag) (C : Addr) : Sp := fun vs H Q _ => ∃ (a l : Addr) (c : Cm10.Code) (k : Nat), vs = [.ref a, nV k] ∧ CodeAt K C H a l c ∧ After K C H a l Q (begunC c k).1 (begunC c k).2
theorem ok_begin_code (T : Top K mg ACode ARun) : Kept P w K mg base 1 "begin_code" ["code", "handed"] (sp_begin_code K ACode) := by
  refine kept_of T.f_begin_code sc_begin_code
    (fun _ _ _ _ _ _ us hl => match us, hl with | [_, _], _ => rfl)
    ?_ fun f cdv A outer s H vs Q E hr h => ?_
  · rintro vs H Q E ⟨a, l, c, k, rfl, _⟩
    rfl
  obtain ⟨a, l, c, k, rfl, hc, q⟩ := h
  obtain ⟨dx, as, ha, hl, hw⟩ := id hc
  refine ⟨_, (pss_cons (ps_if (pt_cmpR op_gt (pv 1) (pe_con1 T.c_MOST_HANDED (by rfl)) (nomark _))
      (pss_one (ps_ret (pe_lst (pa_cons (pe_con1 T.c_TOO_MANY_WORDS (by rfl)) pa_nil))))
      pss_nil)
      (pss_cons (ps_fld (pv 0) (pv 1) rfl)
      (pss_cons (ps_fld (pv 0) (pe_lst pa_nil) rfl)
      (pss_one (ps_ret (pe_lst (pa_cons (pv 1) pa_nil))))))), ?_⟩
  refine ⟨_, rfl, _, _, rfl, rfl, _, rfl, ?_⟩
  by_cases d : 4 < k
  · have e : decide ((4 : Int) < (k : Int)) = true := decide_eq_true (by omega)
    rw [e]
    refine iteT ⟨by decide, fun p hp => ?_⟩
    have er : begunC c k = (c, [-1]) := if_pos d
    rw [er] at q
    exact q p _ l (.inl rfl) (hc.same (same_new hp)) (But.of_same (same_new hp)) hp upd_same
  · have e : decide ((4 : Int) < (k : Int)) = false := decide_eq_false (by omega)
    rw [e]
    have er : begunC c k = (⟨k, []⟩, [(k : Int)]) := if_neg d
    rw [er] at q
    refine iteF ⟨_, rfl, _, rfl, a, ACode, dx, _, rfl, ha, T.cl_Code, T.n_Code_handed, (by show 2 < 1000; decide), ?_⟩
    rw [cF_put_handed]
    refine ⟨Nat.zero_le _, fun m hm => ?_⟩
    have nma : m ≠ a := fun z => by
      rw [z, upd_same] at hm
      cases hm
    have hm0 : H m = none := by
      rw [upd_ne nma] at hm
      exact hm
    refine ⟨_, rfl, a, ACode, dx, _, rfl, Eq.trans (upd_ne nma.symm) upd_same, T.cl_Code, T.n_Code_rows, (by show 2 < 1000; decide), ?_⟩
    rw [cF_put_rows]
    refine ⟨_, rfl, (by show 1 ≤ sizeLine; decide), fun p hp => ?_⟩
    have s3 := same_new (o := .lst [nV k]) hp
    have npa : p ≠ a := fun z => by
      rw [z, upd_same] at hp
      cases hp
    have hp1 : (upd (upd H a (.ins ACode dx (cF k l))) m (.lst [])) p = none := by
      rw [upd_ne npa] at hp
      exact hp
    have npm : p ≠ m := fun z => by
      rw [z, upd_same] at hp1
      cases hp1
    have hp0 : H p = none := by
      rw [upd_ne npm, upd_ne npa] at hp1
      exact hp1
    refine q p _ m (.inr hm0) ⟨dx, [], s3 _ _ upd_same, s3 _ _ ?_, Rw.nil⟩ (fun x o hx n1 n2 => s3 _ _ ?_) hp0 upd_same
    · rw [upd_ne nma, upd_same]
      rfl
    · rw [upd_ne n1, upd_ne (ne_of_none hx hm0), upd_ne n1]
      exact hx

def numC (c : Cm10.Code) (n : Nat) : Cm10.Code × List Int := rowedC c (.num (c.args + givesN c.rows) n)
def sp_put_number (K : PySem.W.Frag) (C : Addr) : Sp := fun vs H Q _ => ∃ (a l : Addr) (c : Cm10.Code) (n : Nat), vs = [.ref a, nV n] ∧ CodeAt K C H a l c ∧ After K C H a l Q (numC c n).1 (numC c n).2
/-- a new object ahead of a call that may change the code -/
theorem After.new {H H1 : Hp} {a l : Addr} {Q : VK} {c : Cm10.Code} {ns : List Int} (e : Same H H1) (q : After K ACode H a l Q c ns) : After K ACode H1 a l Q c ns := fun p H' l' h1 h2 h3 h4 h5 =>
  q p H' l' (h1.elim .inl fun z => .inr (e.free z)) h2 (fun b o h n1 n2 => h3 b o (e _ _ h) n1 n2) (e.free h4) h5
theorem ok_put_number (T : Top K mg ACode ARun) : Kept P w K mg base 3 "put_number" ["code", "number"] (sp_put_number K ACode) := by
  refine kept_of T.f_put_number sc_put_number
    (fun _ _ _ _ _ _ us hl => match us, hl with | [_, _], _ => rfl)
    ?_ fun f cdv A outer s H vs Q E hr h => ?_
  · rintro vs H Q E ⟨a, l, c, n, rfl, _⟩
    rfl
  obtain ⟨a, l, c, n, rfl, hc, q⟩ := h
  refine ⟨_, (pss_one (ps_ret (pe_own (ok_put_row T) (hr.mono (by decide)) (by rfl) (pa_cons (pv 0) (pa_cons (pe_tup (pa_cons (pe_con1 T.c_NUMBER (by rfl)) (pa_cons (pe_own (ok_count_names T) (hr.mono (by decide)) (by rfl) (pa_cons (pv 0) pa_nil)) (pa_cons (pv 1) pa_nil)))) pa_nil))))), ?_⟩
  refine ⟨_, rfl, _, rfl, a, l, c, rfl, hc, _, rfl, (by show 3 ≤ sizeLine; decide), fun p hp => ?_⟩
  exact ⟨a, l, c, p, .num (c.args + givesN c.rows) n, rfl, hc.same (same_new hp), SqT.of upd_same, q.new (same_new hp)⟩

/-- a place as it is told -/
def plc (b c : Nat) : Cm10.Place := ⟨if b = 0 then none else some (b - 1), c⟩
theorem plc_nums (b c : Nat) : (plc b c).nums = [b, c] := by
  unfold plc Cm10.Place.nums
  by_cases h : b = 0
  · simp [h]
  · simp [h]
    omega
theorem placeOf_plc {s : Cm10.St} {b c : Nat} {p : Cm10.Place} (h : Cm10.placeOf s b c = some p) : b ≤ s.code.args ∧ p = plc b c := by
  unfold Cm10.placeOf at h
  unfold plc
  by_cases b0 : b = 0
  · rw [if_pos b0] at h ⊢
    cases h
    exact ⟨by omega, rfl⟩
  · rw [if_neg b0] at h ⊢
    by_cases b1 : b ≤ s.code.args
    · rw [if_pos b1] at h
      cases h
      exact ⟨b1, rfl⟩
    · rw [if_neg b1] at h
      cases h
def readC (c : Cm10.Code) (A b n : Nat) : Cm10.Code × List Int := if A < 4 ∧ b ≤ c.args then rowedC c (.read (c.args + givesN c.rows) A (plc b n)) else (c, [-2])
def sp_put_read (K : PySem.W.Frag) (C : Addr) : Sp := fun vs H Q _ => ∃ (a l : Addr) (c : Cm10.Code) (A b n : Nat), vs = [.ref a, nV A, nV b, nV n] ∧ CodeAt K C H a l c ∧ After K C H a l Q (readC c A b n).1 (readC c A b n).2
theorem refused {H : Hp} {a l p : Addr} {Q : VK} {c : Cm10.Code} {z : Int} (hc : CodeAt K ACode H a l c) (q : After K ACode H a l Q c [z]) (hp : H p = none) : Q (.ref p) (upd H p (.lst [.int z])) :=
  q p _ l (.inl rfl) (hc.same (same_new hp)) (But.of_same (same_new hp)) hp upd_same
theorem ok_put_read (T : Top K mg ACode ARun) : Kept P w K mg base 3 "put_read" ["code", "cells", "base", "number"] (sp_put_read K ACode) := by
  refine kept_of T.f_put_read sc_put_read
    (fun _ _ _ _ _ _ us hl => match us, hl with | [_, _, _, _], _ => rfl)
    ?_ fun f cdv A outer s H vs Q E hr h => ?_
  · rintro vs H Q E ⟨a, l, c, A, b, n, rfl, _⟩
    rfl
  obtain ⟨a, l, c, A', b, n, rfl, hc, q⟩ := h
  refine ⟨_, (pss_cons (ps_if (pt_not (pt_val (pe_own (ok_tells_place T) (hr.mono (by decide)) (by rfl) (pa_cons (pv 0) (pa_cons (pv 1) (pa_cons (pv 2) pa_nil))))))
      (pss_one (ps_ret (pe_lst (pa_cons (pe_con1 T.c_NOT_THERE (by rfl)) pa_nil))))
      pss_nil)
      (pss_one (ps_ret (pe_own (ok_put_row T) (hr.mono (by decide)) (by rfl) (pa_cons (pv 0) (pa_cons (pe_tup (pa_cons (pe_con1 T.c_READ (by rfl)) (pa_cons (pe_own (ok_count_names T) (hr.mono (by decide)) (by rfl) (pa_cons (pv 0) pa_nil)) (pa_cons (pv 1) (pa_cons (pv 2) (pa_cons (pv 3) pa_nil)))))) pa_nil)))))), ?_⟩
  refine ⟨_, rfl, _, rfl, _, rfl, a, l, c, A', b, rfl, hc, _, rfl, ?_⟩
  by_cases d : A' < 4 ∧ b ≤ c.args
  · have er : readC c A' b n = _ := if_pos d
    rw [er] at q
    rw [decide_eq_true d.1, decide_eq_true d.2]
    refine iteF ⟨_, rfl, _, rfl, a, l, c, rfl, hc, _, rfl, _, rfl, _, rfl, (by show 5 ≤ sizeLine; decide), fun p hp => ?_⟩
    refine ⟨a, l, c, p, .read (c.args + givesN c.rows) A' (plc b n), rfl, hc.same (same_new hp), SqT.of ?_, q.new (same_new hp)⟩
    rw [upd_same]
    simp only [encR, Cm10.Row.nums, plc_nums]
    rfl
  · have er : readC c A' b n = _ := if_neg d
    rw [er] at q
    have e : (decide (A' < 4) && decide (b ≤ c.args)) = false := by
      rw [← Bool.not_eq_true, Bool.and_eq_true, decide_eq_true_iff, decide_eq_true_iff]
      exact d
    rw [e]
    exact iteT ⟨by decide, fun p hp => refused hc q hp⟩

def writeC (c : Cm10.Code) (A b n v : Nat) : Cm10.Code × List Int := if (A < 4 ∧ b ≤ c.args) ∧ v < c.args + givesN c.rows then rowedC c (.write A (plc b n) v) else (c, [-2])
def sp_put_write (K : PySem.W.Frag) (C : Addr) : Sp := fun vs H Q _ => ∃ (a l : Addr) (c : Cm10.Code) (A b n v : Nat), vs = [.ref a, nV A, nV b, nV n, nV v] ∧ CodeAt K C H a l c ∧ After K C H a l Q (writeC c A b n v).1 (writeC c A b n v).2
theorem ok_put_write (T : Top K mg ACode ARun) : Kept P w K mg base 4 "put_write" ["code", "cells", "base", "number", "name"] (sp_put_write K ACode) := by
  refine kept_of T.f_put_write sc_put_write
    (fun _ _ _ _ _ _ us hl => match us, hl with | [_, _, _, _, _], _ => rfl)
    ?_ fun f cdv A outer s H vs Q E hr h => ?_
  · rintro vs H Q E ⟨a, l, c, A, b, n, v, rfl, _⟩
    rfl
  obtain ⟨a, l, c, A', b, n, v, rfl, hc, q⟩ := h
  refine ⟨_, (pss_cons (ps_if (PW.pt (pw_or (pt_not (pt_val (pe_own (ok_tells_place T) (hr.mono (by decide)) (by rfl) (pa_cons (pv 0) (pa_cons (pv 1) (pa_cons (pv 2) pa_nil)))))) (pw_or1 (pt_not (pt_val (pe_own (ok_has_name T) (hr.mono (by decide)) (by rfl) (pa_cons (pv 0) (pa_cons (pv 4) pa_nil))))))))
      (pss_one (ps_ret (pe_lst (pa_cons (pe_con1 T.c_NOT_THERE (by rfl)) pa_nil))))
      pss_nil)
      (pss_one (ps_ret (pe_own (ok_put_row T) (hr.mono (by decide)) (by rfl) (pa_cons (pv 0) (pa_cons (pe_tup (pa_cons (pe_con1 T.c_WRITE (by rfl)) (pa_cons (pv 1) (pa_cons (pv 2) (pa_cons (pv 3) (pa_cons (pv 4) pa_nil)))))) pa_nil)))))), ?_⟩
  refine ⟨_, rfl, _, rfl, _, rfl, a, l, c, A', b, rfl, hc, _, rfl, ?_⟩
  by_cases d : A' < 4 ∧ b ≤ c.args
  · rw [decide_eq_true d.1, decide_eq_true d.2]
    refine iteF ⟨_, rfl, _, rfl, a, l, c, v, rfl, hc, _, rfl, ?_⟩
    by_cases dv : v < c.args + givesN c.rows
    · have er : writeC c A' b n v = _ := if_pos ⟨d, dv⟩
      rw [er] at q
      rw [decide_eq_true dv]
      refine iteF ⟨_, rfl, _, rfl, _, rfl, _, rfl, _, rfl, (by show 5 ≤ sizeLine; decide), fun p hp => ?_⟩
      refine ⟨a, l, c, p, .write A' (plc b n) v, rfl, hc.same (same_new hp), SqT.of ?_, q.new (same_new hp)⟩
      rw [upd_same]
      simp only [encR, Cm10.Row.nums, plc_nums]
      rfl
    · have er : writeC c A' b n v = _ := if_neg fun z => dv z.2
      rw [er] at q
      rw [decide_eq_false dv]
      exact iteT ⟨by decide, fun p hp => refused hc q hp⟩
  · have er : writeC c A' b n v = _ := if_neg fun z => d z.1
    rw [er] at q
    have e : (decide (A' < 4) && decide (b ≤ c.args)) = false := by
      rw [← Bool.not_eq_true, Bool.and_eq_true, decide_eq_true_iff, decide_eq_true_iff]
      exact d
    rw [e]
    exact iteT (iteT ⟨by decide, fun p hp => refused hc q hp⟩)

def sayC (c : Cm10.Code) (v : Nat) : Cm10.Code × List Int := if v < c.args + givesN c.rows then rowedC c (.say v) else (c, [-2])
def sp_put_say (K : PySem.W.Frag) (C : Addr) : Sp := fun vs H Q _ => ∃ (a l : Addr) (c : Cm10.Code) (v : Nat), vs = [.ref a, nV v] ∧ CodeAt K C H a l c ∧ After K C H a l Q (sayC c v).1 (sayC c v).2
theorem ok_put_say (T : Top K mg ACode ARun) : Kept P w K mg base 4 "put_say" ["code", "name"] (sp_put_say K ACode) := by
  refine kept_of T.f_put_say sc_put_say
    (fun _ _ _ _ _ _ us hl => match us, hl with | [_, _], _ => rfl)
    ?_ fun f cdv A outer s H vs Q E hr h => ?_
  · rintro vs H Q E ⟨a, l, c, v, rfl, _⟩
    rfl
  obtain ⟨a, l, c, v, rfl, hc, q⟩ := h
  refine ⟨_, (pss_cons (ps_if (pt_not (pt_val (pe_own (ok_has_name T) (hr.mono (by decide)) (by rfl) (pa_cons (pv 0) (pa_cons (pv 1) pa_nil)))))
      (pss_one (ps_ret (pe_lst (pa_cons (pe_con1 T.c_NOT_THERE (by rfl)) pa_nil))))
      pss_nil)
      (pss_one (ps_ret (pe_own (ok_put_row T) (hr.mono (by decide)) (by rfl) (pa_cons (pv 0) (pa_cons (pe_tup (pa_cons (pe_con1 T.c_SAY (by rfl)) (pa_cons (pv 1) pa_nil))) pa_nil)))))), ?_⟩
  refine ⟨_, rfl, _, rfl, a, l, c, v, rfl, hc, _, rfl, ?_⟩
  by_cases dv : v < c.args + givesN c.rows
  · have er : sayC c v = _ := if_pos dv
    rw [er] at q
    rw [decide_eq_true dv]
    refine iteF ⟨_, rfl, _, rfl, (by show 2 ≤ sizeLine; decide), fun p hp => ?_⟩
    exact ⟨a, l, c, p, .say v, rfl, hc.same (same_new hp), SqT.of upd_same, q.new (same_new hp)⟩
  · have er : sayC c v = _ := if_neg dv
    rw [er] at q
    rw [decide_eq_false dv]
    exact iteT ⟨by decide, fun p hp => refused hc q hp⟩

def sp_Code_init (K : PySem.W.Frag) (C : Addr) : Sp := fun vs H Q _ => ∃ p dx, vs = [.ref p] ∧ H p = some (.ins C dx []) ∧ ∀ H' l, H l = none → CodeAt K C H' p l ⟨0, []⟩ → (∀ b o, H b = some o → b ≠ p → H' b = some o) → Q .non H'
theorem ok_Code_init (T : Top K mg ACode ARun) : KeptI P w K mg base 1 ACode ["self"] (sp_Code_init K ACode) := by
  refine keptI_of T.f_Code_init sc_Code_init
    (fun _ _ _ _ _ _ us hl => match us, hl with | [_], _ => rfl)
    ?_ fun f cdv A outer s H vs Q E hr h => ?_
  · rintro vs H Q E ⟨p, dx, rfl, _⟩
    rfl
  obtain ⟨p, dx, rfl, hp, q⟩ := h
  refine ⟨_, (pss_cons (ps_fld (pv 0) pe_int rfl)
      (pss_one (ps_fld (pv 0) (pe_lst pa_nil) rfl))), ?_⟩
  refine ⟨_, rfl, p, ACode, dx, [], rfl, hp, T.cl_Code, T.n_Code_handed, (by show 0 < 1000; decide), ?_⟩
  refine ⟨Nat.zero_le _, fun m hm => ?_⟩
  have nmp : m ≠ p := fun z => by
    rw [z, upd_same] at hm
    cases hm
  have hm0 : H m = none := by
    rw [upd_ne nmp] at hm
    exact hm
  refine ⟨_, rfl, p, ACode, dx, _, rfl, Eq.trans (upd_ne nmp.symm) upd_same, T.cl_Code, T.n_Code_rows, (by show 1 < 1000; decide), ?_⟩
  rw [cF_new]
  refine q _ m hm0 ⟨dx, [], upd_same, ?_, Rw.nil⟩ fun b o h n => ?_
  · rw [upd_ne nmp, upd_same]
    rfl
  · rw [upd_ne n, upd_ne (ne_of_none h hm0), upd_ne n]
    exact h

/-! ### the calls of point 1 are the specification's -/
theorem step_code (s : Cm10.St) (k : Nat) : ((Cm10.step s (.code k)).1.code, (Cm10.step s (.code k)).2) = begunC s.code k := by
  unfold begunC
  by_cases c : 4 < k
  · rw [if_pos c]
    simp only [Cm10.step, if_pos c]
  · rw [if_neg c]
    simp only [Cm10.step, if_neg c]
    rfl
theorem rowed_is (s : Cm10.St) (r : Cm10.Row) : ((Cm10.rowed s r).1.code, (Cm10.rowed s r).2) = rowedC s.code r := by
  unfold rowedC Cm10.rowed Cm10.ROWS
  by_cases c : 16 ≤ s.code.rows.length
  · rw [if_pos c, if_pos c]
  · rw [if_neg c, if_neg c]
    simp [Cm10.ints]
theorem step_num {s : Cm10.St} (g : Good s) (n : Nat) : ((Cm10.step s (.num n)).1.code, (Cm10.step s (.num n)).2) = numC s.code n := by
  unfold numC
  rw [← g.next]
  exact rowed_is s _
theorem step_read {s : Cm10.St} (g : Good s) (A b n : Nat) : ((Cm10.step s (.read A b n)).1.code, (Cm10.step s (.read A b n)).2) = readC s.code A b n := by
  unfold readC
  rw [← g.next]
  show ((match Cm10.placeOf s b n with
    | none => (s, [-2])
    | some p => if 3 < A then (s, [-2]) else Cm10.rowed s (.read s.next A p)).1.code, (match Cm10.placeOf s b n with
    | none => (s, [-2])
    | some p => if 3 < A then (s, [-2]) else Cm10.rowed s (.read s.next A p)).2) = _
  cases e : Cm10.placeOf s b n with
  | none =>
    rw [if_neg fun z => placeOf_none e z.2]
  | some p =>
    have q := placeOf_plc e
    by_cases d : 3 < A
    · rw [if_neg fun z => by omega]
      simp only [if_pos d]
    · rw [if_pos ⟨by omega, q.1⟩]
      simp only [if_neg d]
      rw [q.2]
      exact rowed_is s _
theorem step_write {s : Cm10.St} (g : Good s) (A b n v : Nat) : ((Cm10.step s (.write A b n v)).1.code, (Cm10.step s (.write A b n v)).2) = writeC s.code A b n v := by
  unfold writeC
  rw [← g.next]
  show ((match Cm10.placeOf s b n with
    | none => (s, [-2])
    | some p => if 3 < A ∨ s.next ≤ v then (s, [-2]) else Cm10.rowed s (.write A p v)).1.code, (match Cm10.placeOf s b n with
    | none => (s, [-2])
    | some p => if 3 < A ∨ s.next ≤ v then (s, [-2]) else Cm10.rowed s (.write A p v)).2) = _
  cases e : Cm10.placeOf s b n with
  | none =>
    rw [if_neg fun z => placeOf_none e z.1.2]
  | some p =>
    have q := placeOf_plc e
    by_cases d : 3 < A ∨ s.next ≤ v
    · rw [if_neg fun z => by omega]
      simp only [if_pos d]
    · rw [if_pos ⟨⟨by omega, q.1⟩, by omega⟩]
      simp only [if_neg d]
      rw [q.2]
      exact rowed_is s _
theorem step_say {s : Cm10.St} (g : Good s) (v : Nat) : ((Cm10.step s (.say v)).1.code, (Cm10.step s (.say v)).2) = sayC s.code v := by
  unfold sayC
  rw [← g.next]
  by_cases d : s.next ≤ v
  · rw [if_neg (by omega)]
    simp only [Cm10.step, if_pos d]
  · rw [if_pos (by omega)]
    simp only [Cm10.step, if_neg d]
    exact rowed_is s _
theorem codeV_is (c : Cm10.Code) : codeV c.args c.rows = (Cm10.ints c.nums).map V.int := by
  have e : ∀ rs : List Cm10.Row, numsV rs = (Cm10.ints (rs.flatMap Cm10.Row.nums)).map V.int := by
    intro rs
    induction rs with
    | nil => rfl
    | cons r rs ih =>
      unfold numsV at ih ⊢
      rw [List.flatMap_cons, ih, List.flatMap_cons]
      unfold Cm10.ints encR
      rw [List.map_append, List.map_append, List.map_map, List.map_map]
      rfl
  unfold codeV Cm10.Code.nums
  rw [e]
  rfl
end
end Seen
/-! Contracts of rows.py, places.py, trading.py. -/
namespace Seen
open PySem PySem.Spec PyProof.Rows L2

theorem dT {c A B : Prop} [Decidable c] (hc : c) (h : A) : if decide c = true then A else B := by
  rw [if_pos (decide_eq_true hc)]
  exact h
theorem dF {c A B : Prop} [Decidable c] (hc : ¬ c) (h : B) : if decide c = true then A else B := by
  rw [if_neg (by rw [decide_eq_false hc]; exact Bool.false_ne_true)]
  exact h
theorem nT {c A B : Prop} [Decidable c] (hc : ¬ c) (h : A) : if (!decide c) = true then A else B := by
  rw [if_pos (by rw [decide_eq_false hc]; rfl)]
  exact h
theorem nF {c A B : Prop} [Decidable c] (hc : c) (h : B) : if (!decide c) = true then A else B := by
  rw [if_neg (by rw [decide_eq_true hc]; exact Bool.false_ne_true)]
  exact h
theorem bT {k : Bool} {A B : Prop} (e : k = true) (h : A) : if k = true then A else B := by
  rw [if_pos e]
  exact h
theorem bF {k : Bool} {A B : Prop} (e : k = false) (h : B) : if k = true then A else B := by
  rw [if_neg (by rw [e]; exact Bool.false_ne_true)]
  exact h
theorem nV_inj {a b : Nat} : nV a = nV b ↔ a = b := by
  constructor
  · intro h
    have := V.int.inj h
    omega
  · intro h
    rw [h]
def oV : Option Nat → V
  | some n => nV n
  | none => .non
theorem oV_inj {a b : Option Nat} : oV a = oV b ↔ a = b := by
  cases a with
  | none =>
    cases b with
    | none => exact ⟨fun _ => rfl, fun _ => rfl⟩
    | some b => exact ⟨fun h => (nomatch h), fun h => (nomatch h)⟩
  | some a =>
    cases b with
    | none => exact ⟨fun h => (nomatch h), fun h => (nomatch h)⟩
    | some b =>
      refine ⟨fun h => ?_, fun h => by rw [h]⟩
      rw [nV_inj.mp h]
theorem scal_oV (a b : Option Nat) : scal (oV a) (oV b) = true := by
  cases a <;> cases b <;> rfl
def plV (p : Cm10.Place) : List V := [nV (pB p), nV p.off]
def kP (p : Cm10.Place) : List Key := [Sum.inl (pB p : Int), Sum.inl (p.off : Int)]
theorem plV_kP (p : Cm10.Place) : plV p = (kP p).map kV := rfl
theorem kP_inj {p q : Cm10.Place} : kP p = kP q ↔ p = q := by
  rw [place_eq]
  constructor
  · intro h
    have h1 := Sum.inl.inj (List.cons.inj h).1
    have h2 := Sum.inl.inj (List.cons.inj (List.cons.inj h).2).1
    exact ⟨by omega, by omega⟩
  · rintro ⟨h1, h2⟩
    unfold kP
    rw [h1, h2]
def nameAt : Cm10.Row → Nat
  | .read x _ _ => x
  | .write _ _ v => v
  | .num x _ => x
  | .say v => v

section
variable {P : Program} {w : World} {K : PySem.W.Frag} {mg : Str → Option Value} {base : Heap} {ACode ARun : Addr}

def sp_name_used (K : PySem.W.Frag) : Sp := fun vs H Q _ => ∃ p r, vs = [.ref p] ∧ SqT K H p (encR r) ∧ Q (oV (used r)) H
theorem ok_name_used (T : Top K mg ACode ARun) : Kept P w K mg base 1 "name_used" ["row"] (sp_name_used K) := by
  refine kept_of T.f_name_used sc_name_used
    (fun _ _ _ _ _ _ us hl => match us, hl with | [_], _ => rfl)
    ?_ fun f cdv A outer s H vs Q E hr h => ?_
  · rintro vs H Q E ⟨p, r, rfl, _⟩
    rfl
  obtain ⟨p, r, rfl, hs, q⟩ := h
  refine ⟨_, (pss_cons (ps_if (pt_cmpR op_eq (pe_ix ix_tup (pv 0) pe_int (fun _ _ => rfl)) (pe_con1 T.c_WRITE (by rfl)) (nomark _))
      (pss_one (ps_ret (pe_ix ix_tup (pv 0) pe_int (fun _ _ => rfl))))
      pss_nil)
      (pss_cons (ps_if (pt_cmpR op_eq (pe_ix ix_tup (pv 0) pe_int (fun _ _ => rfl)) (pe_con1 T.c_SAY (by rfl)) (nomark _))
      (pss_one (ps_ret (pe_ix ix_tup (pv 0) pe_int (fun _ _ => rfl))))
      pss_nil)
      (pss_one (ps_ret pe_non)))), ?_⟩
  cases r with
  | num x k => exact ⟨_, rfl, p, _, _, _, rfl, rfl, hs, rfl, rfl, _, rfl, iteF ⟨_, rfl, p, _, _, _, rfl, rfl, hs, rfl, rfl, _, rfl, iteF q⟩⟩
  | read x a c => exact ⟨_, rfl, p, _, _, _, rfl, rfl, hs, rfl, rfl, _, rfl, iteF ⟨_, rfl, p, _, _, _, rfl, rfl, hs, rfl, rfl, _, rfl, iteF q⟩⟩
  | write a c v => exact ⟨_, rfl, p, _, _, _, rfl, rfl, hs, rfl, rfl, _, rfl, iteT ⟨_, rfl, p, _, _, _, rfl, rfl, hs, rfl, q⟩⟩
  | say v => exact ⟨_, rfl, p, _, _, _, rfl, rfl, hs, rfl, rfl, _, rfl, iteF ⟨_, rfl, p, _, _, _, rfl, rfl, hs, rfl, rfl, _, rfl, iteT ⟨_, rfl, p, _, _, _, rfl, rfl, hs, rfl, q⟩⟩⟩

def sp_cells_of (K : PySem.W.Frag) : Sp := fun vs H Q _ => ∃ p r, vs = [.ref p] ∧ SqT K H p (encR r) ∧ Q (oV (cellsR r)) H
theorem ok_cells_of (T : Top K mg ACode ARun) : Kept P w K mg base 1 "cells_of" ["row"] (sp_cells_of K) := by
  refine kept_of T.f_cells_of sc_cells_of
    (fun _ _ _ _ _ _ us hl => match us, hl with | [_], _ => rfl)
    ?_ fun f cdv A outer s H vs Q E hr h => ?_
  · rintro vs H Q E ⟨p, r, rfl, _⟩
    rfl
  obtain ⟨p, r, rfl, hs, q⟩ := h
  refine ⟨_, (pss_cons (ps_if (pt_cmpR op_eq (pe_ix ix_tup (pv 0) pe_int (fun _ _ => rfl)) (pe_con1 T.c_READ (by rfl)) (nomark _))
      (pss_one (ps_ret (pe_ix ix_tup (pv 0) pe_int (fun _ _ => rfl))))
      pss_nil)
      (pss_cons (ps_if (pt_cmpR op_eq (pe_ix ix_tup (pv 0) pe_int (fun _ _ => rfl)) (pe_con1 T.c_WRITE (by rfl)) (nomark _))
      (pss_one (ps_ret (pe_ix ix_tup (pv 0) pe_int (fun _ _ => rfl))))
      pss_nil)
      (pss_one (ps_ret pe_non)))), ?_⟩
  cases r with
  | num x k => exact ⟨_, rfl, p, _, _, _, rfl, rfl, hs, rfl, rfl, _, rfl, iteF ⟨_, rfl, p, _, _, _, rfl, rfl, hs, rfl, rfl, _, rfl, iteF q⟩⟩
  | say v => exact ⟨_, rfl, p, _, _, _, rfl, rfl, hs, rfl, rfl, _, rfl, iteF ⟨_, rfl, p, _, _, _, rfl, rfl, hs, rfl, rfl, _, rfl, iteF q⟩⟩
  | read x a c => exact ⟨_, rfl, p, _, _, _, rfl, rfl, hs, rfl, rfl, _, rfl, iteT ⟨_, rfl, p, _, _, _, rfl, rfl, hs, rfl, q⟩⟩
  | write a c v => exact ⟨_, rfl, p, _, _, _, rfl, rfl, hs, rfl, rfl, _, rfl, iteF ⟨_, rfl, p, _, _, _, rfl, rfl, hs, rfl, rfl, _, rfl, iteT ⟨_, rfl, p, _, _, _, rfl, rfl, hs, rfl, q⟩⟩⟩

def sp_place_of (K : PySem.W.Frag) : Sp := fun vs H Q _ => ∃ p r a, vs = [.ref p] ∧ SqT K H p (encR r) ∧ cellsR r = some a ∧ ∀ b, H b = none → Q (.ref b) (upd H b (.tup (plV (placeR r))))
theorem ok_place_of (T : Top K mg ACode ARun) : Kept P w K mg base 1 "place_of" ["row"] (sp_place_of K) := by
  refine kept_of T.f_place_of sc_place_of
    (fun _ _ _ _ _ _ us hl => match us, hl with | [_], _ => rfl)
    ?_ fun f cdv A outer s H vs Q E hr h => ?_
  · rintro vs H Q E ⟨p, r, a, rfl, _⟩
    rfl
  obtain ⟨p, r, a0, rfl, hs, hc, q⟩ := h
  refine ⟨_, (pss_cons (ps_if (pt_cmpR op_eq (pe_ix ix_tup (pv 0) pe_int (fun _ _ => rfl)) (pe_con1 T.c_READ (by rfl)) (nomark _))
      (pss_one (ps_ret (pe_slice sl_tup (pv 0) (po_some pe_int) (po_some pe_int))))
      pss_nil)
      (pss_one (ps_ret (pe_slice sl_tup (pv 0) (po_some pe_int) (po_some pe_int))))), ?_⟩
  cases r with
  | num x k => cases hc
  | say v => cases hc
  | read x a c => exact ⟨_, rfl, p, _, _, _, rfl, rfl, hs, rfl, rfl, _, rfl, iteT ⟨_, rfl, _, rfl, _, rfl, p, _, rfl, hs, fun z => absurd (show (3 : Nat) = 0 from z.1) (by decide), q⟩⟩
  | write a c v => exact ⟨_, rfl, p, _, _, _, rfl, rfl, hs, rfl, rfl, _, rfl, iteF ⟨_, rfl, _, rfl, _, rfl, p, _, rfl, hs, fun z => absurd (show (2 : Nat) = 0 from z.1) (by decide), q⟩⟩

def sp_name_at_place (K : PySem.W.Frag) : Sp := fun vs H Q _ => ∃ p r a, vs = [.ref p] ∧ SqT K H p (encR r) ∧ cellsR r = some a ∧ Q (nV (nameAt r)) H
theorem ok_name_at_place (T : Top K mg ACode ARun) : Kept P w K mg base 1 "name_at_place" ["row"] (sp_name_at_place K) := by
  refine kept_of T.f_name_at_place sc_name_at_place
    (fun _ _ _ _ _ _ us hl => match us, hl with | [_], _ => rfl)
    ?_ fun f cdv A outer s H vs Q E hr h => ?_
  · rintro vs H Q E ⟨p, r, a, rfl, _⟩
    rfl
  obtain ⟨p, r, a0, rfl, hs, hc, q⟩ := h
  refine ⟨_, (pss_cons (ps_if (pt_cmpR op_eq (pe_ix ix_tup (pv 0) pe_int (fun _ _ => rfl)) (pe_con1 T.c_READ (by rfl)) (nomark _))
      (pss_one (ps_ret (pe_ix ix_tup (pv 0) pe_int (fun _ _ => rfl))))
      pss_nil)
      (pss_one (ps_ret (pe_ix ix_tup (pv 0) pe_int (fun _ _ => rfl))))), ?_⟩
  cases r with
  | num x k => cases hc
  | say v => cases hc
  | read x a c => exact ⟨_, rfl, p, _, _, _, rfl, rfl, hs, rfl, rfl, _, rfl, iteT ⟨_, rfl, p, _, _, _, rfl, rfl, hs, rfl, q⟩⟩
  | write a c v => exact ⟨_, rfl, p, _, _, _, rfl, rfl, hs, rfl, rfl, _, rfl, iteF ⟨_, rfl, p, _, _, _, rfl, rfl, hs, rfl, q⟩⟩

def sp_is_looked_at (K : PySem.W.Frag) : Sp := fun vs H Q _ => ∃ p r a, vs = [.ref p] ∧ SqT K H p (encR r) ∧ cellsR r = some a ∧ Q (.bl (Cm10.lasts a)) H
theorem ok_is_looked_at (T : Top K mg ACode ARun) : Kept P w K mg base 2 "is_looked_at" ["row"] (sp_is_looked_at K) := by
  refine kept_of T.f_is_looked_at sc_is_looked_at
    (fun _ _ _ _ _ _ us hl => match us, hl with | [_], _ => rfl)
    ?_ fun f cdv A outer s H vs Q E hr h => ?_
  · rintro vs H Q E ⟨p, r, a, rfl, _⟩
    rfl
  obtain ⟨p, r, a, rfl, hs, hc, q⟩ := h
  refine ⟨_, (pss_one (ps_ret (pe_cmpR op_lt (pe_own (ok_cells_of T) (hr.mono (by decide)) (by rfl) (pa_cons (pv 0) pa_nil)) (pe_con1 T.c_FIRST_NOT_LOOKED_AT (by rfl)) (nomark _)))), ?_⟩
  refine ⟨_, rfl, p, r, rfl, hs, ?_⟩
  rw [hc]
  refine ⟨_, _, rfl, rfl, ?_⟩
  have e : decide ((a : Int) < 2) = Cm10.lasts a := decide_eq_decide.mpr (by omega)
  rw [← e] at q
  exact q

/-! ### places -/
theorem eqv_pl (i j k l : Int) : PyData.eqv (.tuple [.int i, .int j]) (.tuple [.int k, .int l]) = (decide (i = k) && decide (j = l)) := by
  have e : ∀ x y : Int, (x == y) = decide (x = y) := fun x y => by rw [Bool.eq_iff_iff, beq_iff_eq, decide_eq_true_iff]
  simp [PyData.eqv, PyData.eqvAll, e]
theorem pl_dec (p q : Cm10.Place) : (decide ((pB p : Int) = pB q) && decide ((p.off : Int) = q.off)) = decide (p = q) := by
  rw [Bool.eq_iff_iff, Bool.and_eq_true, decide_eq_true_iff, decide_eq_true_iff, decide_eq_true_iff, place_eq]
  omega
def sp_alike (K : PySem.W.Frag) : Sp := fun vs H Q _ => ∃ (a b : Addr) (p q : Cm10.Place), vs = [.ref a, .ref b] ∧ SqT K H a (plV p) ∧ SqT K H b (plV q) ∧ Q (.bl (decide (p = q))) H
theorem ok_alike (T : Top K mg ACode ARun) : Kept P w K mg base 1 "alike" ["place", "other"] (sp_alike K) := by
  refine kept_of T.f_alike sc_alike
    (fun _ _ _ _ _ _ us hl => match us, hl with | [_, _], _ => rfl)
    ?_ fun f cdv A outer s H vs Q E hr h => ?_
  · rintro vs H Q E ⟨a, b, p, q, rfl, _⟩
    rfl
  obtain ⟨a, b, p, c, rfl, ha, hb, q⟩ := h
  refine ⟨_, (pss_one (ps_ret (pe_cmpR (op_eqD hr.units) (pv 0) (pv 1) (nomark _)))), ?_⟩
  refine ⟨_, rfl, _, rfl, .tuple [.int (pB p), .int p.off], .tuple [.int (pB c), .int c.off], .tup ha (.cons (.int _) (.cons (.int _) .nil)), .tup hb (.cons (.int _) (.cons (.int _) .nil)), rfl, rfl, ?_⟩
  rw [← pl_dec, ← eqv_pl] at q
  exact q

def sp_never_same (K : PySem.W.Frag) : Sp := fun vs H Q _ => ∃ (a b : Addr) (p q : Cm10.Place), vs = [.ref a, .ref b] ∧ SqT K H a (plV p) ∧ SqT K H b (plV q) ∧ Q (.bl (Cm10.never p q)) H
theorem ok_never_same (T : Top K mg ACode ARun) : Kept P w K mg base 1 "never_same" ["place", "other"] (sp_never_same K) := by
  refine kept_of T.f_never_same sc_never_same
    (fun _ _ _ _ _ _ us hl => match us, hl with | [_, _], _ => rfl)
    ?_ fun f cdv A outer s H vs Q E hr h => ?_
  · rintro vs H Q E ⟨a, b, p, q, rfl, _⟩
    rfl
  obtain ⟨a, b, p, c, rfl, ha, hb, q⟩ := h
  refine ⟨_, (pss_one (ps_ret (pe_and (pe_cmpR op_eq (pe_ix ix_tup (pv 0) pe_int (fun _ _ => rfl)) (pe_ix ix_tup (pv 1) pe_int (fun _ _ => rfl)) (nomark _)) (pe_one (pe_cmpR op_ne (pe_ix ix_tup (pv 0) pe_int (fun _ _ => rfl)) (pe_ix ix_tup (pv 1) pe_int (fun _ _ => rfl)) (nomark _)))))), ?_⟩
  rw [never_is] at q
  refine ⟨_, rfl, a, _, _, _, rfl, rfl, ha, rfl, _, rfl, b, _, _, _, rfl, rfl, hb, rfl, rfl, _, rfl, ?_⟩
  by_cases d : pB p = pB c
  · refine dT (nV_inj.mpr d) ⟨_, rfl, a, _, _, _, rfl, rfl, ha, rfl, _, rfl, b, _, _, _, rfl, rfl, hb, rfl, rfl, ?_⟩
    have e : decide (nV p.off = nV c.off) = decide (p.off = c.off) := decide_eq_decide.mpr nV_inj
    rw [decide_eq_true d, Bool.true_and, ← e] at q
    exact q
  · refine dF (fun z => d (nV_inj.mp z)) ?_
    rw [decide_eq_false d, Bool.false_and] at q
    exact q

def sp_cell_at (K : PySem.W.Frag) : Sp := fun vs H Q _ => ∃ (a l : Addr) (p : Cm10.Place) (e : List Nat), vs = [.ref a, .ref l] ∧ SqT K H a (plV p) ∧ SqL K H l (e.map nV) ∧ PlaceOk e.length p ∧ Q (nV (Cm10.cellOf e p)) H
theorem ok_cell_at (T : Top K mg ACode ARun) : Kept P w K mg base 1 "cell_at" ["place", "words"] (sp_cell_at K) := by
  refine kept_of T.f_cell_at sc_cell_at
    (fun _ _ _ _ _ _ us hl => match us, hl with | [_, _], _ => rfl)
    ?_ fun f cdv A outer s H vs Q E hr h => ?_
  · rintro vs H Q E ⟨a, l, p, e, rfl, _⟩
    rfl
  obtain ⟨a, l, p, e, rfl, ha, hl, hp, q⟩ := h
  refine ⟨_, (pss_cons (ps_set (i := 2) sc_cell_at.nd rfl (Or.inl rfl) (pe_ix ix_tup (pv 0) pe_int (fun _ _ => rfl)))
      (pss_cons (ps_if (pt_cmpR op_eq (pv 2) pe_int (nomark _))
      (pss_one (ps_ret (pe_ix ix_tup (pv 0) pe_int (fun _ _ => rfl))))
      pss_nil)
      (pss_one (ps_ret (pe_op op_mod (pe_op op_add (pe_ix ix_list (pv 1) (pe_op op_sub (pv 2) pe_int) (fun _ _ => rfl)) (pe_ix ix_tup (pv 0) pe_int (fun _ _ => rfl))) (pe_con1 T.c_COUNT_OF_WORDS (by rfl))))))), ?_⟩
  refine ⟨_, rfl, a, _, _, _, rfl, rfl, ha, rfl, _, rfl, rfl, _, rfl, ?_⟩
  obtain ⟨b, c⟩ := p
  cases b with
  | none =>
    refine iteT ⟨_, rfl, a, _, _, _, rfl, rfl, ha, rfl, ?_⟩
    have e1 : Cm10.cellOf e ⟨none, c⟩ = c := by
      show (0 + c) % 4294967296 = c
      have := hp.2
      unfold Cm10.W at this
      have h' : c < 4294967296 := this
      omega
    rw [e1] at q
    exact q
  | some b =>
    have hb := hp.1 b rfl
    refine dF (fun z => ?_) ⟨_, rfl, _, rfl, _, _, rfl, rfl, l, _, _, nV (e[b]'hb), rfl, rfl, hl, ?_, _, rfl, a, _, _, _, rfl, rfl, ha, rfl, _, _, rfl, rfl, _, _, rfl, rfl, (by show (0 : Int) < 4294967296; decide), ?_⟩
    · have := V.int.inj z
      have h2 : pB ⟨some b, c⟩ = b + 1 := rfl
      omega
    · have h2 : ((pB ⟨some b, c⟩ : Nat) : Int) - 1 = (b : Int) := by
        show ((b + 1 : Nat) : Int) - 1 = b
        omega
      rw [h2]
      refine atI_nat ?_
      rw [List.getElem?_map, List.getElem?_eq_getElem hb]
      rfl
    · have e1 : Cm10.cellOf e ⟨some b, c⟩ = (e[b]'hb + c) % 4294967296 := by
        show (e.getD b 0 + c) % 4294967296 = _
        rw [List.getD_eq_getElem?_getD, List.getElem?_eq_getElem hb]
        rfl
      rw [e1] at q
      have e2 : V.int ((((e[b]'hb : Nat) : Int) + (c : Int)) % 4294967296) = nV ((e[b]'hb + c) % 4294967296) := congrArg V.int (by omega)
      rw [← e2] at q
      exact q

/-! ### two rows that may change places -/
def sp_needs_name (K : PySem.W.Frag) : Sp := fun vs H Q _ => ∃ (a b : Addr) (r t : Cm10.Row), vs = [.ref a, .ref b] ∧ SqT K H a (encR r) ∧ SqT K H b (encR t) ∧ Q (.bl (needsB r t)) H
theorem ok_needs_name (T : Top K mg ACode ARun) : Kept P w K mg base 2 "needs_name" ["row", "behind"] (sp_needs_name K) := by
  refine kept_of T.f_needs_name sc_needs_name
    (fun _ _ _ _ _ _ us hl => match us, hl with | [_, _], _ => rfl)
    ?_ fun f cdv A outer s H vs Q E hr h => ?_
  · rintro vs H Q E ⟨a, b, r, t, rfl, _⟩
    rfl
  obtain ⟨a, b, r, t, rfl, ha, hb, q⟩ := h
  refine ⟨_, (pss_one (ps_ret (pe_and (pe_own (ok_gives_name T) (hr.mono (by decide)) (by rfl) (pa_cons (pv 0) pa_nil)) (pe_one (pe_cmpR op_eq (pe_own (ok_name_used T) (hr.mono (by decide)) (by rfl) (pa_cons (pv 1) pa_nil)) (pe_ix ix_tup (pv 0) pe_int (fun _ _ => rfl)) (nomark _)))))), ?_⟩
  have go : ∀ x : Nat, atI (encR r) 1 = some (nV x) → r.gives = some x → ∃ i j v, V.ref a = .ref i ∧ V.int 1 = .int j ∧ SqT K H i (encR r) ∧ atI (encR r) j = some v ∧ scal (oV (used t)) v = true ∧ Q (.bl (decide (oV (used t) = v))) H := fun x hx g => by
    refine ⟨a, 1, nV x, rfl, rfl, ha, hx, scal_oV _ (some x), ?_⟩
    have e : decide (oV (used t) = nV x) = needsB r t := by
      unfold needsB
      rw [g, Option.isSome_some, Bool.true_and]
      exact decide_eq_decide.mpr (oV_inj (b := some x))
    rw [← e] at q
    exact q
  refine ⟨_, rfl, a, r, rfl, ha, _, rfl, ?_⟩
  cases r with
  | num x k =>
    obtain ⟨i, j, v, e1, e2, h1, h2, h3, h4⟩ := go x rfl rfl
    exact iteT ⟨_, rfl, b, t, rfl, hb, _, rfl, i, _, j, v, e1, e2, h1, h2, h3, h4⟩
  | read x c p =>
    obtain ⟨i, j, v, e1, e2, h1, h2, h3, h4⟩ := go x rfl rfl
    exact iteT ⟨_, rfl, b, t, rfl, hb, _, rfl, i, _, j, v, e1, e2, h1, h2, h3, h4⟩
  | write c p v => exact iteF q
  | say v => exact iteF q

def sp_say_two_names (K : PySem.W.Frag) : Sp := fun vs H Q _ => ∃ (a b : Addr) (r t : Cm10.Row), vs = [.ref a, .ref b] ∧ SqT K H a (encR r) ∧ SqT K H b (encR t) ∧ Q (.bl (sayTwoB r t)) H
theorem ok_say_two_names (T : Top K mg ACode ARun) : Kept P w K mg base 2 "say_two_names" ["row", "behind"] (sp_say_two_names K) := by
  refine kept_of T.f_say_two_names sc_say_two_names
    (fun _ _ _ _ _ _ us hl => match us, hl with | [_, _], _ => rfl)
    ?_ fun f cdv A outer s H vs Q E hr h => ?_
  · rintro vs H Q E ⟨a, b, r, t, rfl, _⟩
    rfl
  obtain ⟨a, b, r, t, rfl, ha, hb, q⟩ := h
  refine ⟨_, (pss_one (ps_ret (pe_and (pe_cmpR op_eq (pe_ix ix_tup (pv 0) pe_int (fun _ _ => rfl)) (pe_con1 T.c_SAY (by rfl)) (nomark _)) (pe_and (pe_cmpR op_eq (pe_ix ix_tup (pv 1) pe_int (fun _ _ => rfl)) (pe_con1 T.c_SAY (by rfl)) (nomark _)) (pe_one (pe_cmpR op_ne (pe_own (ok_name_used T) (hr.mono (by decide)) (by rfl) (pa_cons (pv 0) pa_nil)) (pe_own (ok_name_used T) (hr.mono (by decide)) (by rfl) (pa_cons (pv 1) pa_nil)) (nomark _))))))), ?_⟩
  cases r with
  | say v =>
    refine ⟨_, rfl, a, _, _, _, rfl, rfl, ha, rfl, rfl, _, rfl, iteT ?_⟩
    cases t with
    | say u =>
      refine ⟨_, rfl, b, _, _, _, rfl, rfl, hb, rfl, rfl, _, rfl, iteT ⟨_, rfl, a, _, rfl, ha, _, rfl, b, _, rfl, hb, rfl, ?_⟩⟩
      have e : (!decide (nV v = nV u)) = sayTwoB (.say v) (.say u) := by
        show _ = !decide (v = u)
        rw [decide_eq_decide.mpr nV_inj]
      rw [← e] at q
      exact q
    | num x k => exact ⟨_, rfl, b, _, _, _, rfl, rfl, hb, rfl, rfl, _, rfl, iteF q⟩
    | read x c p => exact ⟨_, rfl, b, _, _, _, rfl, rfl, hb, rfl, rfl, _, rfl, iteF q⟩
    | write c p v => exact ⟨_, rfl, b, _, _, _, rfl, rfl, hb, rfl, rfl, _, rfl, iteF q⟩
  | num x k => exact ⟨_, rfl, a, _, _, _, rfl, rfl, ha, rfl, rfl, _, rfl, iteF q⟩
  | read x c p => exact ⟨_, rfl, a, _, _, _, rfl, rfl, ha, rfl, rfl, _, rfl, iteF q⟩
  | write c p v => exact ⟨_, rfl, a, _, _, _, rfl, rfl, ha, rfl, rfl, _, rfl, iteF q⟩

theorem kind_W {r : Cm10.Row} : ∃ n : Int, atI (encR r) 0 = some (.int n) ∧ (n = 2 ↔ isW r = true) := by
  cases r with
  | num x k => exact ⟨0, rfl, by simp [isW]⟩
  | read x c p => exact ⟨1, rfl, by simp [isW]⟩
  | write c p v => exact ⟨2, rfl, by simp [isW]⟩
  | say v => exact ⟨3, rfl, by simp [isW]⟩
theorem isW_cells {r : Cm10.Row} (h : isW r = true) : ∃ a, cellsR r = some a := by
  cases r with
  | write c p v => exact ⟨c, rfl⟩
  | _ => cases h
def sp_clash_in_cells (K : PySem.W.Frag) : Sp := fun vs H Q _ => ∃ (a b : Addr) (r t : Cm10.Row), vs = [.ref a, .ref b] ∧ SqT K H a (encR r) ∧ SqT K H b (encR t) ∧ ∀ H', Same H H' → Q (.bl (clashB r t)) H'
theorem ok_clash_in_cells (T : Top K mg ACode ARun) : Kept P w K mg base 2 "clash_in_cells" ["row", "behind"] (sp_clash_in_cells K) := by
  refine kept_of T.f_clash_in_cells sc_clash_in_cells
    (fun _ _ _ _ _ _ us hl => match us, hl with | [_, _], _ => rfl)
    ?_ fun f cdv A outer s H vs Q E hr h => ?_
  · rintro vs H Q E ⟨a, b, r, t, rfl, _⟩
    rfl
  obtain ⟨a, b, r, t, rfl, ha, hb, q⟩ := h
  refine ⟨_, (pss_cons (ps_if (PW.pt (pw_and (pt_cmpR op_ne (pe_ix ix_tup (pv 0) pe_int (fun _ _ => rfl)) (pe_con1 T.c_WRITE (by rfl)) (nomark _)) (pw_and1 (pt_cmpR op_ne (pe_ix ix_tup (pv 1) pe_int (fun _ _ => rfl)) (pe_con1 T.c_WRITE (by rfl)) (nomark _)))))
      (pss_one (ps_ret pe_bl))
      pss_nil)
      (pss_cons (ps_if (PW.pt (pw_or (pt_cmpR op_ne (pe_own (ok_cells_of T) (hr.mono (by decide)) (by rfl) (pa_cons (pv 0) pa_nil)) (pe_own (ok_cells_of T) (hr.mono (by decide)) (by rfl) (pa_cons (pv 1) pa_nil)) (nomark _)) (pw_or1 (pt_val (pe_own (ok_never_same T) (hr.mono (by decide)) (by rfl) (pa_cons (pe_own (ok_place_of T) (hr.mono (by decide)) (by rfl) (pa_cons (pv 0) pa_nil)) (pa_cons (pe_own (ok_place_of T) (hr.mono (by decide)) (by rfl) (pa_cons (pv 1) pa_nil)) pa_nil)))))))
      (pss_one (ps_ret pe_bl))
      pss_nil)
      (pss_one (ps_ret (pe_cmpR op_ne (pe_own (ok_name_used T) (hr.mono (by decide)) (by rfl) (pa_cons (pv 0) pa_nil)) (pe_own (ok_name_used T) (hr.mono (by decide)) (by rfl) (pa_cons (pv 1) pa_nil)) (nomark _)))))), ?_⟩
  obtain ⟨n, hn, en⟩ := kind_W (r := r)
  obtain ⟨m, hm, em⟩ := kind_W (r := t)
  have nn : V.int n = V.int 2 ↔ isW r = true := by rw [← en]; exact ⟨V.int.inj, fun z => by rw [z]⟩
  have mm : V.int m = V.int 2 ↔ isW t = true := by rw [← em]; exact ⟨V.int.inj, fun z => by rw [z]⟩
  have cs : isW r = true ∨ (¬ isW r = true ∧ isW t = true) ∨ (¬ isW r = true ∧ ¬ isW t = true) := by
    cases isW r <;> cases isW t <;> simp
  have one : isW r = true ∨ isW t = true → clashB r t = (decide (cellsR r = cellsR t) && (!Cm10.never (placeR r) (placeR t) && !decide (used r = used t))) := fun z => by
    unfold clashB
    rw [Bool.or_eq_true _ _ |>.mpr z, Bool.true_and]
  rcases cs with c | ⟨c, d⟩ | ⟨c, d⟩
  case inr.inr =>
    refine ⟨_, rfl, a, _, _, _, rfl, rfl, ha, hn, rfl, _, rfl, nT (fun z => c (nn.mp z)) ⟨_, rfl, b, _, _, _, rfl, rfl, hb, hm, rfl, _, rfl, nT (fun z => d (mm.mp z)) ?_⟩⟩
    have e : clashB r t = false := by
      unfold clashB
      rw [Bool.not_eq_true _ |>.mp c, Bool.not_eq_true _ |>.mp d]
      rfl
    rw [e] at q
    exact q H (Same.refl H)
  case' inl => refine ⟨_, rfl, a, _, _, _, rfl, rfl, ha, hn, rfl, _, rfl, nF (nn.mpr c) (iteF ?_)⟩; have w1 := one (.inl c); have w2 : cellsR r = cellsR t → ∃ z, cellsR r = some z := fun _ => isW_cells c
  case' inr.inl => refine ⟨_, rfl, a, _, _, _, rfl, rfl, ha, hn, rfl, _, rfl, nT (fun z => c (nn.mp z)) ⟨_, rfl, b, _, _, _, rfl, rfl, hb, hm, rfl, _, rfl, nF (mm.mpr d) ?_⟩⟩; have w1 := one (.inr d); have w2 : cellsR r = cellsR t → ∃ z, cellsR r = some z := fun e => e ▸ isW_cells d
  all_goals
    rw [w1] at q
    refine ⟨_, rfl, a, r, rfl, ha, _, rfl, b, t, rfl, hb, scal_oV _ _, _, rfl, ?_⟩
    by_cases c2 : cellsR r = cellsR t
    · obtain ⟨z, hz⟩ := w2 c2
      rw [decide_eq_true c2, Bool.true_and] at q
      refine nF (oV_inj.mpr c2) ⟨_, rfl, a, r, z, rfl, ha, hz, fun p hp => ⟨_, rfl, b, t, z, rfl, sqT_same (same_new hp) hb, c2 ▸ hz, fun p2 hp2 => ?_⟩⟩
      have sm := (same_new (o := .tup (plV (placeR r))) hp).trans (same_new (o := .tup (plV (placeR t))) hp2)
      refine ⟨p, p2, placeR r, placeR t, rfl, SqT.of (same_new hp2 _ _ upd_same), SqT.of upd_same, _, rfl, ?_⟩
      cases e : Cm10.never (placeR r) (placeR t) with
      | true =>
        rw [e] at q
        exact iteT (q _ sm)
      | false =>
        rw [e] at q
        refine iteF ⟨_, rfl, a, r, rfl, sqT_same sm ha, _, rfl, b, t, rfl, sqT_same sm hb, scal_oV _ _, ?_⟩
        have e2 : decide (oV (used r) = oV (used t)) = decide (used r = used t) := decide_eq_decide.mpr oV_inj
        rw [← e2] at q
        exact q _ sm
    · rw [decide_eq_false c2, Bool.false_and] at q
      exact nT (fun z => c2 (oV_inj.mp z)) (iteT (q H (Same.refl H)))

def sp_may_trade (K : PySem.W.Frag) : Sp := fun vs H Q _ => ∃ (a b : Addr) (r t : Cm10.Row), vs = [.ref a, .ref b] ∧ SqT K H a (encR r) ∧ SqT K H b (encR t) ∧ ∀ H', Same H H' → Q (.bl (!needsB r t && (!sayTwoB r t && !clashB r t))) H'
theorem ok_may_trade (T : Top K mg ACode ARun) : Kept P w K mg base 3 "may_trade" ["row", "behind"] (sp_may_trade K) := by
  refine kept_of T.f_may_trade sc_may_trade
    (fun _ _ _ _ _ _ us hl => match us, hl with | [_, _], _ => rfl)
    ?_ fun f cdv A outer s H vs Q E hr h => ?_
  · rintro vs H Q E ⟨a, b, r, t, rfl, _⟩
    rfl
  obtain ⟨a, b, r, t, rfl, ha, hb, q⟩ := h
  refine ⟨_, (pss_one (ps_ret (pe_and (pe_not (pe_own (ok_needs_name T) (hr.mono (by decide)) (by rfl) (pa_cons (pv 0) (pa_cons (pv 1) pa_nil)))) (pe_and (pe_not (pe_own (ok_say_two_names T) (hr.mono (by decide)) (by rfl) (pa_cons (pv 0) (pa_cons (pv 1) pa_nil)))) (pe_one (pe_not (pe_own (ok_clash_in_cells T) (hr.mono (by decide)) (by rfl) (pa_cons (pv 0) (pa_cons (pv 1) pa_nil))))))))), ?_⟩
  refine ⟨_, rfl, _, rfl, a, b, r, t, rfl, ha, hb, _, rfl, _, rfl, ?_⟩
  cases e1 : needsB r t with
  | true =>
    rw [e1] at q
    exact iteF (q H (Same.refl H))
  | false =>
    rw [e1] at q
    refine iteT ⟨_, rfl, _, rfl, a, b, r, t, rfl, ha, hb, _, rfl, _, rfl, ?_⟩
    cases e2 : sayTwoB r t with
    | true =>
      rw [e2] at q
      exact iteF (q H (Same.refl H))
    | false =>
      rw [e2] at q
      exact iteT ⟨_, rfl, _, rfl, a, b, r, t, rfl, ha, hb, fun H' sm => ⟨_, rfl, q H' sm⟩⟩

/-! ### which writes a read may see -/
theorem placeR_of {r : Cm10.Row} {a : Nat} (h : cellsR r = some a) : (∃ x, r = .read x a (placeR r)) ∨ ∃ v, r = .write a (placeR r) v := by
  cases r with
  | num => cases h
  | say => cases h
  | read x b p =>
    cases h
    exact .inl ⟨x, rfl⟩
  | write b p v =>
    cases h
    exact .inr ⟨v, rfl⟩
def sp_is_write_alike (K : PySem.W.Frag) : Sp := fun vs H Q _ => ∃ (a b : Addr) (r o : Cm10.Row) (c : Nat), vs = [.ref a, .ref b] ∧ SqT K H a (encR r) ∧ SqT K H b (encR o) ∧ cellsR o = some c ∧ ∀ H', Same H H' → Q (.bl (wAt c (placeR o) r)) H'
theorem ok_is_write_alike (T : Top K mg ACode ARun) : Kept P w K mg base 2 "is_write_alike" ["row", "other"] (sp_is_write_alike K) := by
  refine kept_of T.f_is_write_alike sc_is_write_alike
    (fun _ _ _ _ _ _ us hl => match us, hl with | [_, _], _ => rfl)
    ?_ fun f cdv A outer s H vs Q E hr h => ?_
  · rintro vs H Q E ⟨a, b, r, o, c, rfl, _⟩
    rfl
  obtain ⟨a, b, r, o, c, rfl, ha, hb, hc, q⟩ := h
  refine ⟨_, (pss_one (ps_ret (pe_and (pe_cmpR op_eq (pe_ix ix_tup (pv 0) pe_int (fun _ _ => rfl)) (pe_con1 T.c_WRITE (by rfl)) (nomark _)) (pe_and (pe_cmpR op_eq (pe_own (ok_cells_of T) (hr.mono (by decide)) (by rfl) (pa_cons (pv 0) pa_nil)) (pe_own (ok_cells_of T) (hr.mono (by decide)) (by rfl) (pa_cons (pv 1) pa_nil)) (nomark _)) (pe_one (pe_own (ok_alike T) (hr.mono (by decide)) (by rfl) (pa_cons (pe_own (ok_place_of T) (hr.mono (by decide)) (by rfl) (pa_cons (pv 0) pa_nil)) (pa_cons (pe_own (ok_place_of T) (hr.mono (by decide)) (by rfl) (pa_cons (pv 1) pa_nil)) pa_nil)))))))), ?_⟩
  cases r with
  | num x k => exact ⟨_, rfl, a, _, _, _, rfl, rfl, ha, rfl, rfl, _, rfl, iteF (q H (Same.refl H))⟩
  | read x d p => exact ⟨_, rfl, a, _, _, _, rfl, rfl, ha, rfl, rfl, _, rfl, iteF (q H (Same.refl H))⟩
  | say v => exact ⟨_, rfl, a, _, _, _, rfl, rfl, ha, rfl, rfl, _, rfl, iteF (q H (Same.refl H))⟩
  | write d p v =>
    refine ⟨_, rfl, a, _, _, _, rfl, rfl, ha, rfl, rfl, _, rfl, iteT ⟨_, rfl, a, _, rfl, ha, _, rfl, b, o, rfl, hb, scal_oV _ _, _, rfl, ?_⟩⟩
    have qe : wAt c (placeR o) (.write d p v) = (decide (d = c) && decide (p = placeR o)) := rfl
    rw [qe] at q
    by_cases e : d = c
    · rw [decide_eq_true e, Bool.true_and] at q
      refine dT (oV_inj.mpr (by rw [hc, ← e]; rfl)) ⟨_, rfl, a, _, d, rfl, ha, rfl, fun p1 hp1 => ⟨_, rfl, b, o, c, rfl, sqT_same (same_new hp1) hb, hc, fun p2 hp2 => ?_⟩⟩
      have sm := (same_new (o := .tup (plV p)) hp1).trans (same_new (o := .tup (plV (placeR o))) hp2)
      exact ⟨p1, p2, p, placeR o, rfl, SqT.of (same_new hp2 _ _ upd_same), SqT.of upd_same, q _ sm⟩
    · rw [decide_eq_false e, Bool.false_and] at q
      refine dF (fun z => e ?_) (q H (Same.refl H))
      have z' := oV_inj.mp z
      rw [hc] at z'
      exact Option.some.inj z'

theorem Rw.get {H : Hp} {as : List Addr} {rs : List Cm10.Row} {i : Nat} {r : Cm10.Row} (h : Rw K H as rs) (e : rs[i]? = some r) : ∃ a, as[i]? = some a ∧ SqT K H a (encR r) := by
  have hi : i < as.length := by
    rw [h.1]
    exact (List.getElem?_eq_some_iff.mp e).1
  exact ⟨as[i], List.getElem?_eq_getElem hi, h.2 i _ r (List.getElem?_eq_getElem hi) e⟩
theorem Rw.sub {H : Hp} {as : List Addr} {rs : List Cm10.Row} (h : Rw K H as rs) (i j : Nat) : Rw K H ((as.take j).drop i) ((rs.take j).drop i) := by
  refine ⟨by simp [h.1], fun m a r h1 h2 => ?_⟩
  rw [List.getElem?_drop, List.getElem?_take] at h1 h2
  by_cases c : i + m < j
  · rw [if_pos c] at h1 h2
    exact h.2 _ a r h1 h2
  · rw [if_neg c] at h1
    cases h1
theorem at_ref {as : List Addr} {i : Nat} {a : Addr} (h : as[i]? = some a) : atI (as.map V.ref) (i : Int) = some (.ref a) := atI_nat (by rw [List.getElem?_map, h]; rfl)
theorem cut_to (xs : List V) (n : Nat) : cutV xs none (some (n : Int)) = xs.take n := by
  unfold cutV
  rw [HT.sIx_none, HT.sIx_nat, List.drop_zero, Nat.sub_zero]
  by_cases c : n ≤ xs.length
  · rw [Nat.min_eq_left c]
  · rw [Nat.min_eq_right (by omega), List.take_length, List.take_of_length_le (by omega)]
theorem cut_from (xs : List V) (n : Nat) : cutV xs (some (n : Int)) none = xs.drop n := by
  unfold cutV
  rw [HT.sIx_none, HT.sIx_nat]
  by_cases c : n ≤ xs.length
  · rw [Nat.min_eq_left c, List.take_of_length_le (by rw [List.length_drop]; omega)]
  · rw [Nat.min_eq_right (by omega), List.drop_length, List.drop_of_length_le (by omega), List.take_nil]
theorem cut_mid (xs : List V) (i j : Nat) : cutV xs (some (i : Int)) (some (j : Int)) = (xs.take j).drop i := by
  unfold cutV
  rw [HT.sIx_nat, HT.sIx_nat, List.drop_take]
  by_cases c : i ≤ xs.length
  · rw [Nat.min_eq_left c]
    by_cases d : j ≤ xs.length
    · rw [Nat.min_eq_left d]
    · rw [Nat.min_eq_right (by omega), List.take_of_length_le (by rw [List.length_drop]; omega), List.take_of_length_le (by rw [List.length_drop]; omega)]
  · have e1 : min i xs.length = xs.length := by omega
    rw [e1, List.drop_length, List.drop_of_length_le (by omega), List.take_nil, List.take_nil]
/-- a new list of rows -/
theorem map_sub (as : List Addr) (i j : Nat) : ((as.map V.ref).take j).drop i = ((as.take j).drop i).map V.ref := by rw [List.map_drop, List.map_take]
theorem map_to (as : List Addr) (j : Nat) : (as.map V.ref).take j = ((as.take j).drop 0).map V.ref := by rw [List.drop_zero, List.map_take]

def sp_may_see_first (K : PySem.W.Frag) : Sp := fun vs H Q _ => ∃ (l : Addr) (as : List Addr) (rs : List Cm10.Row) (n c : Nat) (r : Cm10.Row), vs = [.ref l, nV n] ∧ SqL K H l (as.map V.ref) ∧ Rw K H as rs ∧ rs[n]? = some r ∧ cellsR r = some c ∧
  ∀ H', Same H H' → Q (.bl (!(rs.take n).any (wAt c (placeR r)))) H'
theorem ok_may_see_first (T : Top K mg ACode ARun) : Kept P w K mg base 3 "may_see_first" ["rows", "reading"] (sp_may_see_first K) := by
  refine kept_of T.f_may_see_first sc_may_see_first
    (fun _ _ _ _ _ _ us hl => match us, hl with | [_, _], _ => rfl)
    ?_ fun f cdv A outer s H vs Q E hr h => ?_
  · rintro vs H Q E ⟨l, as, rs, n, c, r, rfl, _⟩
    rfl
  obtain ⟨l, as, rs, n, c, r, rfl, hl, hw, hn, hc, q⟩ := h
  refine ⟨_, (pss_cons (ps_for PassesOwn.never rfl (pi_list (pe_slice sl_list (pv 0) po_none (po_some (pv 1)))) (pg_name (i := 2) sc_may_see_first.nd rfl (Or.inl rfl))
      (pss_one (ps_if (pt_val (pe_own (ok_is_write_alike T) (hr.mono (by decide)) (by rfl) (pa_cons (pv 2) (pa_cons (pe_ix ix_list (pv 0) (pv 1) (fun _ _ => rfl)) pa_nil))))
        (pss_one (ps_ret pe_bl))
        pss_nil)))
      (pss_one (ps_ret pe_bl))), ?_⟩
  obtain ⟨an, han, hsn⟩ := hw.get hn
  refine ⟨_, rfl, _, rfl, _, rfl, l, _, rfl, hl, fun p hp => ?_⟩
  rw [cut_to, map_to]
  have s1 := same_new (o := .lst (((as.take n).drop 0).map V.ref)) hp
  have w1 := (hw.sub 0 n).same s1
  refine ⟨p, rfl, ⟨_, SqL.of upd_same⟩, ?_⟩
  refine for_list (K := K) (a := p) (xs := ((as.take n).drop 0).map V.ref) (fun i σ H' => Same (upd H p (.lst (((as.take n).drop 0).map V.ref))) H' ∧ (((rs.take n).drop 0).take i).any (wAt c (placeR r)) = false ∧ ∃ v : Option V, σ = [some (.ref l), some (nV n), v])
    ⟨Same.refl _, by rw [List.take_zero]; rfl, none, rfl⟩ (fun i σ H' _ ⟨e, _⟩ => e.seq (SqL.of upd_same)) ?_ ?_
  · rintro i y σ H' hi ⟨e, ha, v, rfl⟩
    obtain ⟨b, r', rfl, hr', hs⟩ := (w1.same e).at hi
    have s2 := s1.trans e
    refine ⟨_, rfl, _, rfl, _, rfl, l, _, _, _, rfl, rfl, s2.seq hl, at_ref han, b, an, r', r, c, rfl, hs, sqT_same s2 hsn, hc, fun H2 e2 => ⟨_, rfl, ?_⟩⟩
    cases k : wAt c (placeR r) r' with
    | true =>
      refine iteT ?_
      have e3 : (rs.take n).any (wAt c (placeR r)) = true := by
        rw [List.drop_zero] at hr'
        exact List.any_eq_true.mpr ⟨r', List.mem_of_getElem? hr', k⟩
      rw [e3] at q
      exact q _ (s2.trans e2)
    | false =>
      refine iteF ⟨e.trans e2, ?_, some (.ref b), rfl⟩
      rw [take_succ hr', List.any_append, ha]
      simp [k]
  · rintro σ H' ⟨e, ha, v, rfl⟩
    have len : (((as.take n).drop 0).map V.ref).length = ((rs.take n).drop 0).length := by simp [hw.1]
    rw [len, List.take_length, List.drop_zero] at ha
    rw [ha] at q
    exact q _ (s1.trans e)

def seesR (rs : List Cm10.Row) (n c : Nat) (p : Cm10.Place) (i : Nat) : Cm10.Row → Bool
  | .write b q _ => decide (b = c) && (!Cm10.never q p && !((rs.take n).drop (i + 1)).any fun s => wAt c q s || wAt c p s)
  | _ => false
theorem seesB_at {rs : List Cm10.Row} {n c i : Nat} {p : Cm10.Place} {r1 : Cm10.Row} (h : rs[i]? = some r1) : seesB rs n c p i = seesR rs n c p i r1 := by
  unfold seesB
  rw [h]
  cases r1 <;> rfl
def sp_may_see (K : PySem.W.Frag) : Sp := fun vs H Q _ => ∃ (l : Addr) (as : List Addr) (rs : List Cm10.Row) (n i c : Nat) (r r1 : Cm10.Row), vs = [.ref l, nV n, nV i] ∧ SqL K H l (as.map V.ref) ∧ Rw K H as rs ∧ rs[n]? = some r ∧ cellsR r = some c ∧ rs[i]? = some r1 ∧
  ∀ H', Same H H' → Q (.bl (seesB rs n c (placeR r) i)) H'
theorem ok_may_see (T : Top K mg ACode ARun) : Kept P w K mg base 3 "may_see" ["rows", "reading", "writing"] (sp_may_see K) := by
  refine kept_of T.f_may_see sc_may_see
    (fun _ _ _ _ _ _ us hl => match us, hl with | [_, _, _], _ => rfl)
    ?_ fun f cdv A outer s H vs Q E hr h => ?_
  · rintro vs H Q E ⟨l, as, rs, n, i, c, r, r1, rfl, _⟩
    rfl
  obtain ⟨l, as, rs, n, i, c, r, r1, rfl, hl, hw, hn, hc, hi, q⟩ := h
  refine ⟨_, (pss_cons (ps_set (i := 3) sc_may_see.nd rfl (Or.inl rfl) (pe_ix ix_list (pv 0) (pv 1) (fun _ _ => rfl)))
      (pss_cons (ps_set (i := 4) sc_may_see.nd rfl (Or.inl rfl) (pe_ix ix_list (pv 0) (pv 2) (fun _ _ => rfl)))
      (pss_cons (ps_if (PW.pt (pw_or (pt_cmpR op_ne (pe_ix ix_tup (pv 4) pe_int (fun _ _ => rfl)) (pe_con1 T.c_WRITE (by rfl)) (nomark _)) (pw_or1 (pt_cmpR op_ne (pe_own (ok_cells_of T) (hr.mono (by decide)) (by rfl) (pa_cons (pv 4) pa_nil)) (pe_own (ok_cells_of T) (hr.mono (by decide)) (by rfl) (pa_cons (pv 3) pa_nil)) (nomark _)))))
      (pss_one (ps_ret pe_bl))
      pss_nil)
      (pss_cons (ps_if (pt_val (pe_own (ok_never_same T) (hr.mono (by decide)) (by rfl) (pa_cons (pe_own (ok_place_of T) (hr.mono (by decide)) (by rfl) (pa_cons (pv 4) pa_nil)) (pa_cons (pe_own (ok_place_of T) (hr.mono (by decide)) (by rfl) (pa_cons (pv 3) pa_nil)) pa_nil))))
      (pss_one (ps_ret pe_bl))
      pss_nil)
      (pss_cons (ps_for PassesOwn.never rfl (pi_list (pe_slice sl_list (pv 0) (po_some (pe_op op_add (pv 2) pe_int)) (po_some (pv 1)))) (pg_name (i := 5) sc_may_see.nd rfl (Or.inl rfl))
      (pss_one (ps_if (PW.pt (pw_or (pt_val (pe_own (ok_is_write_alike T) (hr.mono (by decide)) (by rfl) (pa_cons (pv 5) (pa_cons (pv 4) pa_nil)))) (pw_or1 (pt_val (pe_own (ok_is_write_alike T) (hr.mono (by decide)) (by rfl) (pa_cons (pv 5) (pa_cons (pv 3) pa_nil)))))))
        (pss_one (ps_ret pe_bl))
        pss_nil)))
      (pss_one (ps_ret pe_bl))))))), ?_⟩
  obtain ⟨an, han, hsn⟩ := hw.get hn
  obtain ⟨ai, hai, hsi⟩ := hw.get hi
  refine ⟨_, rfl, _, rfl, l, _, _, _, rfl, rfl, hl, at_ref han, _, rfl, _, rfl, l, _, _, _, rfl, rfl, hl, at_ref hai, ?_⟩
  rw [seesB_at hi] at q
  cases r1 with
  | num x k => exact ⟨_, rfl, ai, _, _, _, rfl, rfl, hsi, rfl, rfl, _, rfl, iteT (iteT (q H (Same.refl H)))⟩
  | read x d p => exact ⟨_, rfl, ai, _, _, _, rfl, rfl, hsi, rfl, rfl, _, rfl, iteT (iteT (q H (Same.refl H)))⟩
  | say v => exact ⟨_, rfl, ai, _, _, _, rfl, rfl, hsi, rfl, rfl, _, rfl, iteT (iteT (q H (Same.refl H)))⟩
  | write d p v =>
    refine ⟨_, rfl, ai, _, _, _, rfl, rfl, hsi, rfl, rfl, _, rfl, iteF ⟨_, rfl, ai, _, rfl, hsi, _, rfl, an, r, rfl, hsn, scal_oV _ _, _, rfl, ?_⟩⟩
    have q1 : ∀ H', Same H H' → Q (.bl (decide (d = c) && (!Cm10.never p (placeR r) && !((rs.take n).drop (i + 1)).any fun s => wAt c p s || wAt c (placeR r) s))) H' := q
    clear q
    by_cases e : d = c
    · rw [decide_eq_true e, Bool.true_and] at q1
      refine nF (oV_inj.mpr (by rw [hc, ← e]; rfl)) ⟨_, rfl, ai, _, d, rfl, hsi, rfl, fun p1 hp1 => ⟨_, rfl, an, r, c, rfl, sqT_same (same_new hp1) hsn, hc, fun p2 hp2 => ?_⟩⟩
      have s2 := (same_new (o := .tup (plV (placeR (.write d p v)))) hp1).trans (same_new (o := .tup (plV (placeR r))) hp2)
      refine ⟨p1, p2, p, placeR r, rfl, SqT.of (same_new hp2 _ _ upd_same), SqT.of upd_same, _, rfl, ?_⟩
      generalize hH2 : upd (upd H p1 (.tup (plV (placeR (.write d p v))))) p2 (.tup (plV (placeR r))) = H2 at s2 ⊢
      have cc : cellsR (.write d p v) = some c := by rw [← e]; rfl
      cases k : Cm10.never p (placeR r) with
      | true =>
        rw [k] at q1
        exact iteT (q1 _ s2)
      | false =>
        rw [k] at q1
        refine iteF ⟨_, rfl, _, rfl, _, _, rfl, rfl, _, rfl, _, rfl, _, rfl, l, _, rfl, s2.seq hl, fun p3 hp3 => ?_⟩
        have ei : ((i : Int) + 1) = ((i + 1 : Nat) : Int) := by omega
        rw [ei, cut_mid, map_sub]
        have s3 := same_new (o := .lst (((as.take n).drop (i + 1)).map V.ref)) hp3
        have w1 := ((hw.same s2).sub (i + 1) n).same s3
        refine ⟨p3, rfl, ⟨_, SqL.of upd_same⟩, ?_⟩
        refine for_list (K := K) (a := p3) (xs := ((as.take n).drop (i + 1)).map V.ref) (fun j σ H' => Same (upd H2 p3 (.lst (((as.take n).drop (i + 1)).map V.ref))) H' ∧
          (((rs.take n).drop (i + 1)).take j).any (fun s => wAt c p s || wAt c (placeR r) s) = false ∧ ∃ v : Option V, σ = [some (.ref l), some (nV n), some (nV i), some (.ref an), some (.ref ai), v])
          ⟨Same.refl _, by rw [List.take_zero]; rfl, none, rfl⟩ (fun i σ H' _ ⟨e, _⟩ => e.seq (SqL.of upd_same)) ?_ ?_
        · rintro j y σ H' hj ⟨e4, ha, v', rfl⟩
          obtain ⟨b, r', rfl, hr', hs⟩ := (w1.same e4).at hj
          have s4 := (s2.trans s3).trans e4
          refine ⟨_, rfl, _, rfl, b, ai, r', _, c, rfl, hs, sqT_same s4 hsi, cc, fun H5 e5 => ⟨_, rfl, ?_⟩⟩
          have hit : (wAt c p r' || wAt c (placeR r) r') = true → ((rs.take n).drop (i + 1)).any (fun s => wAt c p s || wAt c (placeR r) s) = true := fun k2 => List.any_eq_true.mpr ⟨r', List.mem_of_getElem? hr', k2⟩
          cases k1 : wAt c p r' with
          | true =>
            refine bT k1 (iteT ?_)
            rw [hit (by rw [k1]; rfl)] at q1
            exact q1 _ (s4.trans e5)
          | false =>
            refine bF k1 ⟨_, rfl, _, rfl, b, an, r', r, c, rfl, sqT_same e5 hs, sqT_same (s4.trans e5) hsn, hc, fun H6 e6 => ⟨_, rfl, ?_⟩⟩
            cases k2 : wAt c (placeR r) r' with
            | true =>
              refine iteT ?_
              rw [hit (by rw [k2, Bool.or_true])] at q1
              exact q1 _ ((s4.trans e5).trans e6)
            | false =>
              refine iteF ⟨(e4.trans e5).trans e6, ?_, some (.ref b), rfl⟩
              rw [take_succ hr', List.any_append, ha]
              simp [k1, k2]
        · rintro σ H' ⟨e4, ha, v', rfl⟩
          have len : (((as.take n).drop (i + 1)).map V.ref).length = ((rs.take n).drop (i + 1)).length := by simp [hw.1]
          rw [len, List.take_length] at ha
          rw [ha] at q1
          exact q1 _ ((s2.trans s3).trans e4)
    · rw [decide_eq_false e, Bool.false_and] at q1
      refine nT (fun z => e ?_) (q1 H (Same.refl H))
      have z' := oV_inj.mp z
      rw [hc] at z'
      exact Option.some.inj z'

def sp_writes_seen (K : PySem.W.Frag) : Sp := fun vs H Q _ => ∃ (l : Addr) (as : List Addr) (rs : List Cm10.Row) (n c : Nat) (r : Cm10.Row), vs = [.ref l, nV n] ∧ SqL K H l (as.map V.ref) ∧ Rw K H as rs ∧ rs[n]? = some r ∧ cellsR r = some c ∧ rs.length ≤ 16 ∧
  ∀ p H', H p = none → Same H H' → H' p = some (.lst (((List.range n).filter (seesB rs n c (placeR r))).map nV)) → Q (.ref p) H'
theorem ok_writes_seen (T : Top K mg ACode ARun) : Kept P w K mg base 4 "writes_seen" ["rows", "reading"] (sp_writes_seen K) := by
  refine kept_of T.f_writes_seen sc_writes_seen
    (fun _ _ _ _ _ _ us hl => match us, hl with | [_, _], _ => rfl)
    ?_ fun f cdv A outer s H vs Q E hr h => ?_
  · rintro vs H Q E ⟨l, as, rs, n, c, r, rfl, _⟩
    rfl
  obtain ⟨l, as, rs, n, c, r, rfl, hl, hw, hn, hc, h16, q⟩ := h
  refine ⟨_, (pss_one (ps_ret (pe_lc (own := [("writing", 2)]) (g := gName 2) rfl sc_writes_seen.nd (pi_range1 (by rfl) T.b_range (pa_cons (pv 1) pa_nil)) (blkOk_by (own := [("writing", 2)]) (N := ["rows", "reading", "writing"]) (sc := defScope s_writes_seen) (by decide +kernel)) (fun _ _ _ _ _ => (pg_name (i := 2) sc_writes_seen.nd rfl (Or.inl rfl))) (fun _ _ _ _ _ => pts_one (pt_val (pe_own (ok_may_see T) (hr.mono (by decide)) (by rfl) (pa_cons (pv 0) (pa_cons (pv 1) (pa_cons (pv 2) pa_nil)))))) (fun _ _ _ _ _ => (pv 2))))), ?_⟩
  have hlt := (List.getElem?_eq_some_iff.mp hn).1
  refine ⟨_, rfl, (n : Int), rfl, (by omega), (by omega), fun D hD => ?_⟩
  refine lc_range (lo := 0) (n := n) (fun i H' => Same H H' ∧ H' D = some (.lst (((List.range i).filter (seesB rs n c (placeR r))).map nV))) ⟨same_new hD, upd_same⟩ ?_ ?_
  · rintro i H' hi ⟨e, hd⟩
    have hri : rs[i]? = some (rs[i]'(by omega)) := List.getElem?_eq_getElem (by omega)
    refine ⟨rfl, _, rfl, _, rfl, _, rfl, l, as, rs, n, i, c, r, _, ?_, e.seq hl, hw.same e, hn, hc, hri, fun H2 e2 => ⟨_, rfl, ?_⟩⟩
    · show [V.ref l, nV n, V.int (0 + (i : Int))] = _
      rw [Int.zero_add]
    · have len : (((List.range i).filter (seesB rs n c (placeR r))).map nV).length < sizeLine := by
        rw [List.length_map]
        refine Nat.lt_of_le_of_lt (List.length_filter_le _ _) (Nat.lt_of_lt_of_le (m := 17) ?_ (by decide))
        rw [List.length_range]
        omega
      have grow : ((List.range (i + 1)).filter (seesB rs n c (placeR r))).map nV = ((List.range i).filter (seesB rs n c (placeR r))).map nV ++ if seesB rs n c (placeR r) i = true then [nV i] else [] := by
        rw [List.range_succ, List.filter_append, List.map_append]
        cases k : seesB rs n c (placeR r) i <;> simp [k]
      rw [grow]
      show if seesB rs n c (placeR r) i = true then _ else _
      cases k : seesB rs n c (placeR r) i with
      | true =>
        refine iteT ⟨_, rfl, _, e2 _ _ hd, len, fun b o hb => ?_, ?_⟩
        · rw [upd_ne (ne_of_none hb hD)]
          exact e2 _ _ (e _ _ hb)
        · rw [upd_same, if_pos rfl, Int.zero_add]
      | false =>
        refine iteF ⟨e.trans e2, ?_⟩
        rw [if_neg Bool.false_ne_true, List.append_nil]
        exact e2 _ _ hd
  · rintro H' ⟨e, hd⟩
    exact q D H' hD e hd
end
end Seen
/-! Contracts of knowing.py. -/
namespace Seen
open PySem PySem.Spec PyProof.Rows L2
section
variable {P : Program} {w : World} {K : PySem.W.Frag} {mg : Str → Option Value} {base : Heap} {ACode ARun : Addr}

/-- the dict at d has the places of over as its keys -/
def Counted (H : Hp) (d : Addr) (over : List Cm10.Place) : Prop := ∃ kvs, H d = some (.dT kvs) ∧ kvs.length ≤ over.length ∧ ∀ p, (valV kvs (kP p)).isSome = over.contains p
theorem Counted.same {H H' : Hp} {d : Addr} {over : List Cm10.Place} (h : Counted H d over) (e : Same H H') : Counted H' d over := by
  obtain ⟨kvs, h1, h2⟩ := h
  exact ⟨kvs, e _ _ h1, h2⟩
def passedB (c : Cm10.Place) (over : List Cm10.Place) : Cm10.Row → Bool
  | .read _ _ q => !decide (q = c)
  | .write _ q _ => Cm10.never q c || over.contains q
  | _ => true
def sp_is_passed_over (K : PySem.W.Frag) : Sp := fun vs H Q _ => ∃ (p b d : Addr) (r : Cm10.Row) (a : Nat) (c : Cm10.Place) (over : List Cm10.Place), vs = [.ref p, .ref b, .ref d] ∧ SqT K H p (encR r) ∧ cellsR r = some a ∧ SqT K H b (plV c) ∧ Counted H d over ∧
  ∀ H', Same H H' → Q (.bl (passedB c over r)) H'
theorem ok_is_passed_over (T : Top K mg ACode ARun) : Kept P w K mg base 2 "is_passed_over" ["row", "place", "counted"] (sp_is_passed_over K) := by
  refine kept_of T.f_is_passed_over sc_is_passed_over
    (fun _ _ _ _ _ _ us hl => match us, hl with | [_, _, _], _ => rfl)
    ?_ fun f cdv A outer s H vs Q E hr h => ?_
  · rintro vs H Q E ⟨p, b, d, r, a, c, over, rfl, _⟩
    rfl
  obtain ⟨p, b, d, r, a, c, over, rfl, hs, hc, hb, hd, q⟩ := h
  refine ⟨_, (pss_cons (ps_if (pt_cmpR op_eq (pe_ix ix_tup (pv 0) pe_int (fun _ _ => rfl)) (pe_con1 T.c_READ (by rfl)) (nomark _))
      (pss_one (ps_ret (pe_not (pe_own (ok_alike T) (hr.mono (by decide)) (by rfl) (pa_cons (pe_own (ok_place_of T) (hr.mono (by decide)) (by rfl) (pa_cons (pv 0) pa_nil)) (pa_cons (pv 1) pa_nil))))))
      pss_nil)
      (pss_one (ps_ret (pe_or (pe_own (ok_never_same T) (hr.mono (by decide)) (by rfl) (pa_cons (pe_own (ok_place_of T) (hr.mono (by decide)) (by rfl) (pa_cons (pv 0) pa_nil)) (pa_cons (pv 1) pa_nil))) (pe_one (pe_cmp (pc_din (hu_of hr) (pe_own (ok_place_of T) (hr.mono (by decide)) (by rfl) (pa_cons (pv 0) pa_nil)) (pv 2)) rfl)))))), ?_⟩
  cases r with
  | num x k => cases hc
  | say v => cases hc
  | read x a' u => exact ⟨_, rfl, p, _, _, _, rfl, rfl, hs, rfl, rfl, _, rfl, iteT ⟨_, rfl, p, _, a, rfl, hs, hc, fun p1 hp1 => ⟨_, rfl, p1, b, u, c, rfl, SqT.of upd_same, sqT_same (same_new hp1) hb, _, rfl, q _ (same_new hp1)⟩⟩⟩
  | write a' u v =>
    refine ⟨_, rfl, p, _, _, _, rfl, rfl, hs, rfl, rfl, _, rfl, iteF ⟨_, rfl, p, _, a, rfl, hs, hc, fun p1 hp1 => ⟨_, rfl, p1, b, u, c, rfl, SqT.of upd_same, sqT_same (same_new hp1) hb, _, rfl, ?_⟩⟩⟩
    have qe : passedB c over (.write a' u v) = (Cm10.never u c || over.contains u) := rfl
    rw [qe] at q
    cases k : Cm10.never u c with
    | true =>
      rw [k] at q
      exact iteT (q _ (same_new hp1))
    | false =>
      rw [k, Bool.false_or] at q
      refine iteF ⟨_, rfl, p, _, a, rfl, sqT_same (same_new hp1) hs, hc, fun p2 hp2 => ?_⟩
      have s2 := (same_new (o := .tup (plV u)) hp1).trans (same_new (o := .tup (plV u)) hp2)
      obtain ⟨kvs, h1, h2, h3⟩ := hd.same s2
      refine ⟨_, rfl, d, _, rfl, DGet.t (k := kP u) h1 upd_same, ?_⟩
      rw [← h3 u] at q
      exact q _ s2

def sp_sure_name (K : PySem.W.Frag) : Sp := fun vs H Q _ => ∃ (l b : Addr) (as : List Addr) (rs : List Cm10.Row) (A : Nat) (c : Cm10.Place), vs = [.ref l, nV A, .ref b] ∧ SqL K H l (as.map V.ref) ∧ Rw K H as rs ∧ rs.length ≤ 16 ∧ SqT K H b (plV c) ∧
  ∀ H', Same H H' → Q (oV (Cm10.sure rs A c)) H'
theorem ok_sure_name (T : Top K mg ACode ARun) : Kept P w K mg base 3 "sure_name" ["rows", "cells", "place"] (sp_sure_name K) := by
  refine kept_of T.f_sure_name sc_sure_name
    (fun _ _ _ _ _ _ us hl => match us, hl with | [_, _, _], _ => rfl)
    ?_ fun f cdv A outer s H vs Q E hr h => ?_
  · rintro vs H Q E ⟨l, b, as, rs, A, c, rfl, _⟩
    rfl
  obtain ⟨l, b, as, rs, A', c, rfl, hl, hw, h16, hb, q⟩ := h
  refine ⟨_, (pss_cons (ps_set (i := 3) sc_sure_name.nd rfl (Or.inl rfl) pe_dnewT)
      (pss_cons (ps_set (i := 4) sc_sure_name.nd rfl (Or.inl rfl) pe_non)
      (pss_cons (ps_for PassesOwn.never rfl (pi_reversed (by rfl) T.b_reversed (pa_cons (pv 0) pa_nil)) (pg_name (i := 5) sc_sure_name.nd rfl (Or.inl rfl))
      (pss_cons (ps_if (PW.pt (pw_or (pt_cmpR op_ne (pe_own (ok_cells_of T) (hr.mono (by decide)) (by rfl) (pa_cons (pv 5) pa_nil)) (pv 1) (nomark _)) (pw_or1 (pt_val (pe_own (ok_is_passed_over T) (hr.mono (by decide)) (by rfl) (pa_cons (pv 5) (pa_cons (pv 2) (pa_cons (pv 3) pa_nil))))))))
        (pss_one ps_continue)
        pss_nil)
        (pss_cons (ps_set (i := 6) sc_sure_name.nd rfl (Or.inl rfl) (pe_own (ok_name_at_place T) (hr.mono (by decide)) (by rfl) (pa_cons (pv 5) pa_nil)))
        (pss_cons (ps_if (PW.pt (pw_and (pt_cmpR op_notN (pv 4) pe_non (nomark _)) (pw_and1 (pt_cmpR op_ne (pv 4) (pv 6) (nomark _)))))
        (pss_one (ps_ret pe_non))
        pss_nil)
        (pss_cons (ps_if (pt_val (pe_own (ok_alike T) (hr.mono (by decide)) (by rfl) (pa_cons (pe_own (ok_place_of T) (hr.mono (by decide)) (by rfl) (pa_cons (pv 5) pa_nil)) (pa_cons (pv 2) pa_nil))))
        (pss_one (ps_ret (pv 6)))
        pss_nil)
        (pss_cons (ps_dput (hu_of hr) (pv 3) (pe_own (ok_place_of T) (hr.mono (by decide)) (by rfl) (pa_cons (pv 5) pa_nil)) pe_bl rfl)
        (pss_one (ps_set (i := 4) sc_sure_name.nd rfl (Or.inl rfl) (pv 6)))))))))
      (pss_one (ps_ret pe_non))))), ?_⟩
  intro d hd0
  have s0 := same_new (o := .dT []) hd0
  refine ⟨_, rfl, l, _, rfl, s0.seq hl, ?_⟩
  have hlen : (as.map V.ref).length = rs.length := by rw [List.length_map, hw.1]
  refine for_it (walk_rev (K := K) (a := l) (xs := as.map V.ref)) (fun i σ H' => ∃ (cand : Option Nat) (over : List Cm10.Place), Same H H' ∧ Counted H' d over ∧ over.length ≤ i ∧
    (∃ v u : Option V, σ = [some (.ref l), some (nV A'), some (.ref b), some (.ref d), some (oV cand), v, u]) ∧ Cm10.sureBack A' c (rs.reverse.drop i) cand over = Cm10.sure rs A' c)
    ⟨none, [], s0, ⟨[], upd_same, Nat.le_refl _, fun p => rfl⟩, Nat.le_refl _, ⟨none, none, rfl⟩, rfl⟩ (fun i σ H' _ ⟨_, _, e, _⟩ => e.seq hl) ?_ ?_
  · rintro i x σ H1 H2 hi ⟨cand, over, e, hcnt, hov, ⟨v, u, rfl⟩, hsb⟩ ⟨rfl, hx⟩
    obtain ⟨b0, r, rfl, hr', hs⟩ := (hw.same e).at hx
    have hrev : rs.reverse[i]? = some r := by
      rw [List.getElem?_reverse (by omega), ← hlen]
      exact hr'
    rw [Srt.drop_at _ _ _ hrev] at hsb
    cases r with
    | num y k =>
      refine ⟨_, rfl, b0, _, rfl, hs, _, rfl, rfl, _, rfl, nT (fun z => nomatch z) (iteT ?_)⟩
      exact ⟨cand, over, e, hcnt, Nat.le_succ_of_le hov, ⟨_, u, rfl⟩, hsb⟩
    | say y =>
      refine ⟨_, rfl, b0, _, rfl, hs, _, rfl, rfl, _, rfl, nT (fun z => nomatch z) (iteT ?_)⟩
      exact ⟨cand, over, e, hcnt, Nat.le_succ_of_le hov, ⟨_, u, rfl⟩, hsb⟩
    | read y a p =>
      refine ⟨_, rfl, b0, _, rfl, hs, _, rfl, rfl, _, rfl, ?_⟩
      by_cases ea : a = A'
      · refine nF (oV_inj (a := some a) (b := some A') |>.mpr (by rw [ea])) ⟨_, rfl, _, rfl, _, rfl, b0, b, d, _, a, c, over, rfl, hs, rfl, sqT_same e hb, hcnt, fun H3 e3 => ⟨_, rfl, ?_⟩⟩
        have eq1 : passedB c over (.read y a p) = !decide (p = c) := rfl
        by_cases ep : p = c
        · have eb : Cm10.sureBack A' c (.read y a p :: rs.reverse.drop (i + 1)) cand over = if cand.isSome = true ∧ cand ≠ some y then none else some y := if_pos ⟨ea, ep⟩
          rw [eb] at hsb
          refine bF (by rw [eq1, decide_eq_true ep]; rfl) ⟨_, rfl, b0, _, a, rfl, sqT_same e3 hs, rfl, _, rfl, rfl, _, rfl, ?_⟩
          have hcases : cand = none ∨ cand = some y ∨ ∃ z, cand = some z ∧ z ≠ y := by
            cases cand with
            | none => exact .inl rfl
            | some z =>
              by_cases ez : z = y
              · exact .inr (.inl (by rw [ez]))
              · exact .inr (.inr ⟨z, rfl, ez⟩)
          rcases hcases with rfl | rfl | ⟨z, rfl, ez⟩
          case inr.inr =>
            refine nT (fun z => nomatch z) ⟨_, rfl, _, rfl, rfl, _, rfl, nT (fun t => ez (nV_inj.mp t)) ?_⟩
            rw [if_pos ⟨rfl, fun t => ez (Option.some.inj t)⟩] at hsb
            rw [← hsb] at q
            exact q _ (e.trans e3)
          case' inl => refine nF rfl (iteF ?_); rw [if_neg fun t => absurd t.1 Bool.false_ne_true] at hsb
          case' inr.inl => refine nT (fun z => nomatch z) ⟨_, rfl, _, rfl, rfl, _, rfl, nF rfl ?_⟩; rw [if_neg fun t => t.2 rfl] at hsb
          all_goals
            refine ⟨_, rfl, b0, _, a, rfl, sqT_same e3 hs, rfl, fun p1 hp1 => ⟨_, rfl, p1, b, p, c, rfl, SqT.of upd_same, sqT_same ((e.trans e3).trans (same_new hp1)) hb, _, rfl, dT ep ⟨_, rfl, ?_⟩⟩⟩
            rw [← hsb] at q
            exact q _ ((e.trans e3).trans (same_new hp1))
        · have eb : Cm10.sureBack A' c (.read y a p :: rs.reverse.drop (i + 1)) cand over = Cm10.sureBack A' c (rs.reverse.drop (i + 1)) cand over := if_neg fun t => ep t.2
          rw [eb] at hsb
          refine bT (by rw [eq1, decide_eq_false ep]; rfl) ?_
          exact ⟨cand, over, e.trans e3, hcnt.same e3, Nat.le_succ_of_le hov, ⟨_, u, rfl⟩, hsb⟩
      · have eb : Cm10.sureBack A' c (.read y a p :: rs.reverse.drop (i + 1)) cand over = Cm10.sureBack A' c (rs.reverse.drop (i + 1)) cand over := if_neg fun t => ea t.1
        rw [eb] at hsb
        refine nT (fun z => ea (nV_inj.mp z)) (iteT ?_)
        exact ⟨cand, over, e, hcnt, Nat.le_succ_of_le hov, ⟨_, u, rfl⟩, hsb⟩
    | write a p y =>
      refine ⟨_, rfl, b0, _, rfl, hs, _, rfl, rfl, _, rfl, ?_⟩
      by_cases ea : a = A'
      · refine nF (oV_inj (a := some a) (b := some A') |>.mpr (by rw [ea])) ⟨_, rfl, _, rfl, _, rfl, b0, b, d, _, a, c, over, rfl, hs, rfl, sqT_same e hb, hcnt, fun H3 e3 => ⟨_, rfl, ?_⟩⟩
        have eq1 : passedB c over (.write a p y) = (Cm10.never p c || over.contains p) := rfl
        by_cases ep : Cm10.never p c = true ∨ over.contains p = true
        · have eb : Cm10.sureBack A' c (.write a p y :: rs.reverse.drop (i + 1)) cand over = Cm10.sureBack A' c (rs.reverse.drop (i + 1)) cand over := if_pos (.inr ep)
          rw [eb] at hsb
          refine bT (by rw [eq1, Bool.or_eq_true]; exact ep) ?_
          exact ⟨cand, over, e.trans e3, hcnt.same e3, Nat.le_succ_of_le hov, ⟨_, u, rfl⟩, hsb⟩
        · have eb : Cm10.sureBack A' c (.write a p y :: rs.reverse.drop (i + 1)) cand over = if cand.isSome = true ∧ cand ≠ some y then none else if p = c then some y else Cm10.sureBack A' c (rs.reverse.drop (i + 1)) (some y) (p :: over) := if_neg fun t => t.elim (fun t => t ea) ep
          rw [eb] at hsb
          refine bF (by rw [eq1, ← Bool.not_eq_true, Bool.or_eq_true]; exact ep) ⟨_, rfl, b0, _, a, rfl, sqT_same e3 hs, rfl, _, rfl, rfl, _, rfl, ?_⟩
          have hcases : cand = none ∨ cand = some y ∨ ∃ z, cand = some z ∧ z ≠ y := by
            cases cand with
            | none => exact .inl rfl
            | some z =>
              by_cases ez : z = y
              · exact .inr (.inl (by rw [ez]))
              · exact .inr (.inr ⟨z, rfl, ez⟩)
          rcases hcases with rfl | rfl | ⟨z, rfl, ez⟩
          case inr.inr =>
            refine nT (fun z => nomatch z) ⟨_, rfl, _, rfl, rfl, _, rfl, nT (fun t => ez (nV_inj.mp t)) ?_⟩
            rw [if_pos ⟨rfl, fun t => ez (Option.some.inj t)⟩] at hsb
            rw [← hsb] at q
            exact q _ (e.trans e3)
          case' inl => refine nF rfl (iteF ?_); rw [if_neg fun t => absurd t.1 Bool.false_ne_true] at hsb
          case' inr.inl => refine nT (fun z => nomatch z) ⟨_, rfl, _, rfl, rfl, _, rfl, nF rfl ?_⟩; rw [if_neg fun t => t.2 rfl] at hsb
          all_goals
            refine ⟨_, rfl, b0, _, a, rfl, sqT_same e3 hs, rfl, fun p1 hp1 => ⟨_, rfl, p1, b, p, c, rfl, SqT.of upd_same, sqT_same ((e.trans e3).trans (same_new hp1)) hb, _, rfl, ?_⟩⟩
            have s1 := (e.trans e3).trans (same_new (o := .tup (plV p)) hp1)
            by_cases ec : p = c
            · refine dT ec ⟨_, rfl, ?_⟩
              rw [if_pos ec] at hsb
              rw [← hsb] at q
              exact q _ s1
            · rw [if_neg ec] at hsb
              refine dF ec ⟨_, rfl, _, rfl, b0, _, a, rfl, sqT_same (e3.trans (same_new hp1)) hs, rfl, fun p2 hp2 => ?_⟩
              have s2 := s1.trans (same_new (o := .tup (plV p)) hp2)
              obtain ⟨kvs, h1, h2, h3⟩ := hcnt.same ((e3.trans (same_new (o := .tup (plV p)) hp1)).trans (same_new (o := .tup (plV p)) hp2))
              refine ⟨d, _, rfl, DPut.t (k := kP p) h1 upd_same (Nat.lt_of_lt_of_le (m := 17) (by omega) (by decide)), _, rfl, ?_⟩
              refine ⟨some y, p :: over, fun b' o hb' => ?_, ⟨_, upd_same, ?_, fun p' => ?_⟩, by rw [List.length_cons]; omega, ⟨_, _, rfl⟩, hsb⟩
              · rw [upd_ne (ne_of_none hb' hd0)]
                exact s2 _ _ hb'
              · have := length_putK kvs (kP p) (.bl true)
                rw [List.length_cons]
                omega
              · rw [valV_put, List.contains_cons, ← h3 p']
                by_cases ek : p' = p
                · rw [if_pos (kP_inj.mpr ek), ek, beq_self_eq_true]
                  rfl
                · rw [if_neg fun t => ek (kP_inj.mp t), beq_eq_false_iff_ne.mpr ek, Bool.false_or]
      · have eb : Cm10.sureBack A' c (.write a p y :: rs.reverse.drop (i + 1)) cand over = Cm10.sureBack A' c (rs.reverse.drop (i + 1)) cand over := if_pos (.inl ea)
        rw [eb] at hsb
        refine nT (fun z => ea (nV_inj.mp z)) (iteT ?_)
        exact ⟨cand, over, e, hcnt, Nat.le_succ_of_le hov, ⟨_, u, rfl⟩, hsb⟩
  · rintro σ H' ⟨cand, over, e, _, _, ⟨v, u, rfl⟩, hsb⟩
    rw [hlen, List.drop_of_length_le (by rw [List.length_reverse]; exact Nat.le_refl _)] at hsb
    have e0 : none = Cm10.sure rs A' c := hsb
    rw [← e0] at q
    exact q _ e
end
end Seen
/-! Contracts of running.py. -/
namespace Seen
open PySem PySem.Spec PyProof.Rows L2

/-! ### how a run lies in the heap -/
def rF (s : Nat) (w dn dw ls : Addr) : List (Str × V) := [("added", nV s), ("words", .ref w), ("named", .ref dn), ("written", .ref dw), ("said", .ref ls)]
theorem rF_added (s : Nat) (w dn dw ls : Addr) : (rF s w dn dw ls).lookup ("added" : Str) = some (nV s) := by
  have e : (("added" : Str) == "added") = true := beq_self_eq_true _
  simp only [rF, List.lookup, e]
theorem rF_words (s : Nat) (w dn dw ls : Addr) : (rF s w dn dw ls).lookup ("words" : Str) = some (.ref w) := by
  have e : (("words" : Str) == "words") = true := beq_self_eq_true _
  have d1 : (("words" : Str) == "added") = false := by decide +kernel
  simp only [rF, List.lookup, e, d1]
theorem rF_named (s : Nat) (w dn dw ls : Addr) : (rF s w dn dw ls).lookup ("named" : Str) = some (.ref dn) := by
  have e : (("named" : Str) == "named") = true := beq_self_eq_true _
  have d1 : (("named" : Str) == "added") = false := by decide +kernel
  have d2 : (("named" : Str) == "words") = false := by decide +kernel
  simp only [rF, List.lookup, e, d1, d2]
theorem rF_written (s : Nat) (w dn dw ls : Addr) : (rF s w dn dw ls).lookup ("written" : Str) = some (.ref dw) := by
  have e : (("written" : Str) == "written") = true := beq_self_eq_true _
  have d1 : (("written" : Str) == "added") = false := by decide +kernel
  have d2 : (("written" : Str) == "words") = false := by decide +kernel
  have d3 : (("written" : Str) == "named") = false := by decide +kernel
  simp only [rF, List.lookup, e, d1, d2, d3]
theorem rF_said (s : Nat) (w dn dw ls : Addr) : (rF s w dn dw ls).lookup ("said" : Str) = some (.ref ls) := by
  have e : (("said" : Str) == "said") = true := beq_self_eq_true _
  have d1 : (("said" : Str) == "added") = false := by decide +kernel
  have d2 : (("said" : Str) == "words") = false := by decide +kernel
  have d3 : (("said" : Str) == "named") = false := by decide +kernel
  have d4 : (("said" : Str) == "written") = false := by decide +kernel
  simp only [rF, List.lookup, e, d1, d2, d3, d4]
def kC (a i : Nat) : List Key := [Sum.inl (a : Int), Sum.inl (i : Int)]
theorem kC_inj {a i b j : Nat} : kC a i = kC b j ↔ a = b ∧ i = j := by
  constructor
  · intro h
    have h1 := Sum.inl.inj (List.cons.inj h).1
    have h2 := Sum.inl.inj (List.cons.inj (List.cons.inj h).2).1
    exact ⟨by omega, by omega⟩
  · rintro ⟨rfl, rfl⟩
    rfl
/-- where a run's parts lie -/
structure Rn where
  dx : Addr
  w : Addr
  dn : Addr
  dw : Addr
  ls : Addr
/-- the names that stand have their words in the dict -/
def NamedIn (kvs : List (Key × V)) (e : Cm10.Env) (df : Nat → Prop) : Prop := ∀ x, df x → valV kvs (Sum.inl (x : Int)) = some (nV (Cm10.look e x))
/-- the cells written so far have their words in the dict; the others are as at first -/
def WrittenIn (kws : List (List Key × V)) (s : Nat) (m : Cm10.Cells) : Prop := ∀ a i, (valV kws (kC a i)).getD (nV (Cm10.firstCells s a i)) = nV (m a i)
structure RunAt (C : Addr) (H : Hp) (a : Addr) (n : Rn) (s : Nat) (e0 : List Nat) (q : Rs) (df : Nat → Prop) (sz : Nat) : Prop where
  ins : H a = some (.ins C n.dx (rF s n.w n.dn n.dw n.ls))
  words : H n.w = some (.lst (e0.map nV))
  apart : n.w ≠ n.ls
  named : ∃ kvs, H n.dn = some (.dK kvs) ∧ kvs.length ≤ sz ∧ NamedIn kvs q.env df
  written : ∃ kws, H n.dw = some (.dT kws) ∧ kws.length ≤ sz ∧ WrittenIn kws s q.cells
  said : H n.ls = some (.lst (q.said.map nV))
  saidsz : q.said.length ≤ sz
  low : ∀ b, b < e0.length → Cm10.look q.env b = Cm10.look e0 b
theorem RunAt.same {C : Addr} {H H' : Hp} {a : Addr} {n : Rn} {s : Nat} {e0 : List Nat} {q : Rs} {df : Nat → Prop} {sz : Nat} (h : RunAt C H a n s e0 q df sz) (e : Same H H') : RunAt C H' a n s e0 q df sz := by
  obtain ⟨k1, a1, a2⟩ := h.named
  obtain ⟨k2, b1, b2⟩ := h.written
  exact ⟨e _ _ h.ins, e _ _ h.words, h.apart, ⟨k1, e _ _ a1, a2⟩, ⟨k2, e _ _ b1, b2⟩, e _ _ h.said, h.saidsz, h.low⟩
/-- all but a run's own is as it was -/
def Aside (H H' : Hp) (n : Rn) : Prop := ∀ b o, H b = some o → b ≠ n.dn → b ≠ n.dw → b ≠ n.ls → H' b = some o

section
variable {P : Program} {w : World} {K : PySem.W.Frag} {mg : Str → Option Value} {base : Heap} {ACode ARun : Addr}

def sp_first_word (K : PySem.W.Frag) : Sp := fun vs H Q _ => ∃ (s : Nat) (b : Addr) (a i : Nat), vs = [nV s, .ref b] ∧ SqT K H b [nV a, nV i] ∧ Q (nV (Cm10.firstCells s a i)) H
theorem ok_first_word (T : Top K mg ACode ARun) : Kept P w K mg base 1 "first_word" ["added", "key"] (sp_first_word K) := by
  refine kept_of T.f_first_word sc_first_word
    (fun _ _ _ _ _ _ us hl => match us, hl with | [_, _], _ => rfl)
    ?_ fun f cdv A outer s H vs Q E hr h => ?_
  · rintro vs H Q E ⟨s, b, a, i, rfl, _⟩
    rfl
  obtain ⟨s', b, a, i, rfl, hb, q⟩ := h
  refine ⟨_, (pss_one (ps_ret (pe_op op_mod (pe_op op_add (pe_op op_add (pe_op op_mul (pe_con1 T.c_WORD_FOR_ROW_OF_CELLS (by rfl)) (pe_ix ix_tup (pv 1) pe_int (fun _ _ => rfl))) (pe_op op_mul (pe_con1 T.c_WORD_FOR_CELL (by rfl)) (pe_ix ix_tup (pv 1) pe_int (fun _ _ => rfl)))) (pv 0)) (pe_con1 T.c_COUNT_OF_WORDS (by rfl))))), ?_⟩
  refine ⟨_, rfl, b, _, _, _, rfl, rfl, hb, rfl, _, _, rfl, rfl, .inl ⟨(by show -(2 ^ 64) < (1000003 : Int); decide), (by show (1000003 : Int) < 2 ^ 64; decide)⟩,
    _, rfl, b, _, _, _, rfl, rfl, hb, rfl, _, _, rfl, rfl, .inl ⟨(by show -(2 ^ 64) < (7919 : Int); decide), (by show (7919 : Int) < 2 ^ 64; decide)⟩, _, _, rfl, rfl, _, rfl, _, _, rfl, rfl, _, _, rfl, rfl, (by show (0 : Int) < 4294967296; decide), ?_⟩
  have e : V.int ((1000003 * (a : Int) + 7919 * (i : Int) + (s' : Int)) % 4294967296) = nV (Cm10.firstCells s' a i) := by
    refine congrArg V.int ?_
    show _ = (((a * 1000003 + i * 7919 + s') % 4294967296 : Nat) : Int)
    omega
  rw [← e] at q
  exact q

def sp_word_in (C : Addr) : Sp := fun vs H Q _ => ∃ (a b : Addr) (n : Rn) (s : Nat) (e0 : List Nat) (q : Rs) (df : Nat → Prop) (sz c i : Nat), vs = [.ref a, .ref b] ∧ RunAt C H a n s e0 q df sz ∧ H b = some (.tup [nV c, nV i]) ∧ Q (nV (q.cells c i)) H
theorem ok_word_in (T : Top K mg ACode ARun) : Kept P w K mg base 2 "word_in" ["run", "key"] (sp_word_in ARun) := by
  refine kept_of T.f_word_in sc_word_in
    (fun _ _ _ _ _ _ us hl => match us, hl with | [_, _], _ => rfl)
    ?_ fun f cdv A outer s H vs Q E hr h => ?_
  · rintro vs H Q E ⟨a, b, n, s, e0, q, df, sz, c, i, rfl, _⟩
    rfl
  obtain ⟨a, b, n, s', e0, q0, df, sz, c, i, rfl, hr', hb, q⟩ := h
  refine ⟨_, (pss_cons (ps_if (pt_cmp (pc_din (hu_of hr) (pv 1) (pe_fld (pv 0) rfl)))
      (pss_one (ps_ret (pe_dget (hu_of hr) (pe_fld (pv 0) rfl) (pv 1) (fun _ _ => rfl))))
      pss_nil)
      (pss_one (ps_ret (pe_own (ok_first_word T) (hr.mono (by decide)) (by rfl) (pa_cons (pe_fld (pv 0) rfl) (pa_cons (pv 1) pa_nil)))))), ?_⟩
  obtain ⟨kws, hw, _, hv⟩ := hr'.written
  have hv' := hv c i
  refine ⟨_, rfl, _, rfl, a, ARun, n.dx, _, _, rfl, hr'.ins, T.cl_Run, T.n_Run_written, rF_written _ _ _ _ _, n.dw, _, rfl, DGet.t (k := kC c i) hw hb, _, rfl, ?_⟩
  cases k : valV kws (kC c i) with
  | some v =>
    rw [k] at hv'
    refine iteT ⟨_, rfl, a, ARun, n.dx, _, _, rfl, hr'.ins, T.cl_Run, T.n_Run_written, rF_written _ _ _ _ _, _, rfl, n.dw, v, rfl, k ▸ DGet.t (k := kC c i) hw hb, ?_⟩
    have e : v = nV (q0.cells c i) := hv'
    rw [e]
    exact q
  | none =>
    rw [k] at hv'
    refine iteF ⟨_, rfl, a, ARun, n.dx, _, _, rfl, hr'.ins, T.cl_Run, T.n_Run_added, rF_added _ _ _ _ _, _, rfl, s', b, c, i, rfl, SqT.of hb, ?_⟩
    have e : nV (Cm10.firstCells s' c i) = nV (q0.cells c i) := hv'
    rw [e]
    exact q

def sp_cell_key (K : PySem.W.Frag) : Sp := fun vs H Q _ => ∃ (p l : Addr) (r : Cm10.Row) (a : Nat) (e : List Nat), vs = [.ref p, .ref l] ∧ SqT K H p (encR r) ∧ cellsR r = some a ∧ SqL K H l (e.map nV) ∧ PlaceOk e.length (placeR r) ∧
  ∀ b H', H b = none → Same H H' → H' b = some (.tup [nV a, nV (Cm10.cellOf e (placeR r))]) → Q (.ref b) H'
theorem ok_cell_key (T : Top K mg ACode ARun) : Kept P w K mg base 2 "cell_key" ["row", "words"] (sp_cell_key K) := by
  refine kept_of T.f_cell_key sc_cell_key
    (fun _ _ _ _ _ _ us hl => match us, hl with | [_, _], _ => rfl)
    ?_ fun f cdv A outer s H vs Q E hr h => ?_
  · rintro vs H Q E ⟨p, l, r, a, e, rfl, _⟩
    rfl
  obtain ⟨p, l, r, a, e, rfl, hs, hc, hl, hp, q⟩ := h
  refine ⟨_, (pss_one (ps_ret (pe_tup (pa_cons (pe_own (ok_cells_of T) (hr.mono (by decide)) (by rfl) (pa_cons (pv 0) pa_nil)) (pa_cons (pe_own (ok_cell_at T) (hr.mono (by decide)) (by rfl) (pa_cons (pe_own (ok_place_of T) (hr.mono (by decide)) (by rfl) (pa_cons (pv 0) pa_nil)) (pa_cons (pv 1) pa_nil))) pa_nil))))), ?_⟩
  refine ⟨_, rfl, p, r, rfl, hs, _, rfl, p, r, a, rfl, hs, hc, fun p1 hp1 => ⟨_, rfl, p1, l, placeR r, e, rfl, SqT.of upd_same, (same_new hp1).seq hl, hp, (by show 2 ≤ sizeLine; decide), fun p2 hp2 => ?_⟩⟩
  have s1 := same_new (o := .tup (plV (placeR r))) hp1
  refine q p2 _ (s1.free hp2) (s1.trans (same_new hp2)) ?_
  rw [upd_same, hc]
  rfl

/-- one row done: what the heap holds then -/
def sp_do_row (K : PySem.W.Frag) (C : Addr) : Sp := fun vs H Q _ => ∃ (a b : Addr) (n : Rn) (s : Nat) (e0 : List Nat) (q : Rs) (df : Nat → Prop) (sz : Nat) (r : Cm10.Row), vs = [.ref a, .ref b] ∧ RunAt C H a n s e0 q df sz ∧ SqT K H b (encR r) ∧ RowD e0.length df r ∧ sz < 1000 ∧
  ∀ H', Aside H H' n → RunAt C H' a n s e0 (doRow q r) (fun y => df y ∨ r.gives = some y) (sz + 1) → Q .non H'
theorem named_more {kvs : List (Key × V)} {e : Cm10.Env} {df : Nat → Prop} (h : NamedIn kvs e df) (x v : Nat) : NamedIn (putK kvs (Sum.inl (x : Int)) (nV v)) (Cm10.put e x v) (fun y => df y ∨ some x = some y) := fun y hy => by
  rw [valV_put, look_put]
  by_cases c : y = x
  · rw [if_pos (by rw [c]), if_pos c]
  · rw [if_neg fun z => c (by have := Sum.inl.inj z; omega), if_neg c]
    rcases hy with hy | hy
    · exact h y hy
    · exact absurd (Option.some.inj hy).symm c
theorem written_put {kws : List (List Key × V)} {s : Nat} {m : Cm10.Cells} (h : WrittenIn kws s m) (a i v : Nat) : WrittenIn (putK kws (kC a i) (nV v)) s (Cm10.setCell m a i v) := fun b j => by
  rw [valV_put]
  show _ = nV (if b = a ∧ j = i then v else m b j)
  by_cases c : b = a ∧ j = i
  · rw [if_pos c, if_pos (kC_inj.mpr c)]
    rfl
  · rw [if_neg c, if_neg fun z => c (kC_inj.mp z)]
    exact h b j
theorem ok_do_row (T : Top K mg ACode ARun) : Kept P w K mg base 3 "do_row" ["run", "row"] (sp_do_row K ARun) := by
  refine kept_of T.f_do_row sc_do_row
    (fun _ _ _ _ _ _ us hl => match us, hl with | [_, _], _ => rfl)
    ?_ fun f cdv A outer s H vs Q E hr h => ?_
  · rintro vs H Q E ⟨a, b, n, s, e0, q, df, sz, r, rfl, _⟩
    rfl
  obtain ⟨a, b, n, s', e0, q0, df, sz, r, rfl, R, hb, hd, hsz, q⟩ := h
  refine ⟨_, (pss_one (ps_if (pt_cmpR op_eq (pe_ix ix_tup (pv 1) pe_int (fun _ _ => rfl)) (pe_con1 T.c_NUMBER (by rfl)) (nomark _))
      (pss_one (ps_dput (hu_of hr) (pe_fld (pv 0) rfl) (pe_ix ix_tup (pv 1) pe_int (fun _ _ => rfl)) (pe_ix ix_tup (pv 1) pe_int (fun _ _ => rfl)) rfl))
      (pss_one (ps_if (pt_cmpR op_eq (pe_ix ix_tup (pv 1) pe_int (fun _ _ => rfl)) (pe_con1 T.c_READ (by rfl)) (nomark _))
        (pss_one (ps_dput (hu_of hr) (pe_fld (pv 0) rfl) (pe_ix ix_tup (pv 1) pe_int (fun _ _ => rfl)) (pe_own (ok_word_in T) (hr.mono (by decide)) (by rfl) (pa_cons (pv 0) (pa_cons (pe_own (ok_cell_key T) (hr.mono (by decide)) (by rfl) (pa_cons (pv 1) (pa_cons (pe_fld (pv 0) rfl) pa_nil))) pa_nil))) rfl))
        (pss_one (ps_if (pt_cmpR op_eq (pe_ix ix_tup (pv 1) pe_int (fun _ _ => rfl)) (pe_con1 T.c_WRITE (by rfl)) (nomark _))
          (pss_one (ps_dput (hu_of hr) (pe_fld (pv 0) rfl) (pe_own (ok_cell_key T) (hr.mono (by decide)) (by rfl) (pa_cons (pv 1) (pa_cons (pe_fld (pv 0) rfl) pa_nil))) (pe_dget (hu_of hr) (pe_fld (pv 0) rfl) (pe_own (ok_name_used T) (hr.mono (by decide)) (by rfl) (pa_cons (pv 1) pa_nil)) (fun _ _ => rfl)) rfl))
          (pss_one (ps_expr (pe_bm PySem.F.plainAttrs_list PySem.F.slot_list_append PySem.F.type_list_append mt_append (pe_fld (pv 0) rfl) (pa_cons (pe_dget (hu_of hr) (pe_fld (pv 0) rfl) (pe_own (ok_name_used T) (hr.mono (by decide)) (by rfl) (pa_cons (pv 1) pa_nil)) (fun _ _ => rfl)) pa_nil)))))))))), ?_⟩
  have big : sz < sizeLine := Nat.lt_of_lt_of_le hsz (by decide)
  cases r with
  | num x v =>
    obtain ⟨kvs, h1, h2, h3⟩ := R.named
    obtain ⟨kws, g1, g2, g3⟩ := R.written
    refine ⟨_, rfl, b, _, _, _, rfl, rfl, hb, rfl, rfl, _, rfl, iteT ⟨_, rfl, b, _, _, _, rfl, rfl, hb, rfl, _, rfl, a, ARun, n.dx, _, _, rfl, R.ins, T.cl_Run, T.n_Run_named, rF_named _ _ _ _ _, _, rfl, b, _, _, _, rfl, rfl, hb, rfl,
      n.dn, _, rfl, DPut.k (k := Sum.inl (x : Int)) h1 (Nat.lt_of_le_of_lt h2 big), ?_⟩⟩
    have len := length_putK kvs (Sum.inl (x : Int)) (nV v)
    refine q _ (fun c o hc n1 n2 n3 => ?_) ⟨?_, ?_, R.apart, ⟨_, upd_same, by omega, named_more h3 x v⟩, ⟨kws, ?_, by omega, g3⟩, ?_, by have := R.saidsz; show q0.said.length ≤ _; omega, doRow_low hd R.low⟩
    · rw [upd_ne n1]
      exact hc
    · rw [upd_ne (ne_of R.ins h1 (fun z => nomatch z))]
      exact R.ins
    · rw [upd_ne (ne_of R.words h1 (fun z => nomatch z))]
      exact R.words
    · rw [upd_ne (ne_of g1 h1 (fun z => nomatch z))]
      exact g1
    · rw [upd_ne (ne_of R.said h1 (fun z => nomatch z))]
      exact R.said
  | read x c p =>
    refine ⟨_, rfl, b, _, _, _, rfl, rfl, hb, rfl, rfl, _, rfl, iteF ⟨_, rfl, b, _, _, _, rfl, rfl, hb, rfl, rfl, _, rfl, iteT ⟨_, rfl, _, rfl, _, rfl, a, ARun, n.dx, _, _, rfl, R.ins, T.cl_Run, T.n_Run_words, rF_words _ _ _ _ _, b, n.w, _, c, e0, rfl, hb, rfl, SqL.of R.words, hd.2.2, fun p1 H1 hp1 e1 h1' => ?_⟩⟩⟩
    have R1 := R.same e1
    obtain ⟨kvs, h1, h2, h3⟩ := R1.named
    obtain ⟨kws, g1, g2, g3⟩ := R1.written
    have hb1 := sqT_same e1 hb
    refine ⟨a, p1, n, s', e0, q0, df, sz, c, Cm10.cellOf e0 p, rfl, R1, h1', _, rfl, a, ARun, n.dx, _, _, rfl, R1.ins, T.cl_Run, T.n_Run_named, rF_named _ _ _ _ _, _, rfl, b, _, _, _, rfl, rfl, hb1, rfl,
      n.dn, _, rfl, DPut.k (k := Sum.inl (x : Int)) h1 (Nat.lt_of_le_of_lt h2 big), ?_⟩
    have len := length_putK kvs (Sum.inl (x : Int)) (nV (q0.cells c (Cm10.cellOf e0 p)))
    have ce := cellOf_same hd.2.2 R.low
    have nm := named_more h3 x (q0.cells c (Cm10.cellOf e0 p))
    rw [← ce] at nm
    refine q _ (fun c' o hc n1 n2 n3 => ?_) ⟨?_, ?_, R.apart, ⟨_, upd_same, by omega, by rw [← ce]; exact nm⟩, ⟨kws, ?_, by omega, g3⟩, ?_, by have := R.saidsz; show q0.said.length ≤ _; omega, doRow_low hd R.low⟩
    · rw [upd_ne n1]
      exact e1 _ _ hc
    · rw [upd_ne (ne_of R1.ins h1 (fun z => nomatch z))]
      exact R1.ins
    · rw [upd_ne (ne_of R1.words h1 (fun z => nomatch z))]
      exact R1.words
    · rw [upd_ne (ne_of g1 h1 (fun z => nomatch z))]
      exact g1
    · rw [upd_ne (ne_of R1.said h1 (fun z => nomatch z))]
      exact R1.said
  | write c p v =>
    obtain ⟨kvs, h1, h2, h3⟩ := R.named
    refine ⟨_, rfl, b, _, _, _, rfl, rfl, hb, rfl, rfl, _, rfl, iteF ⟨_, rfl, b, _, _, _, rfl, rfl, hb, rfl, rfl, _, rfl, iteF ⟨_, rfl, b, _, _, _, rfl, rfl, hb, rfl, rfl, _, rfl, iteT ⟨_, rfl, a, ARun, n.dx, _, _, rfl, R.ins, T.cl_Run, T.n_Run_named, rF_named _ _ _ _ _, _, rfl, b, _, rfl, hb,
      n.dn, _, rfl, (h3 v hd.2.2) ▸ DGet.k (k := Sum.inl (v : Int)) h1, _, rfl, a, ARun, n.dx, _, _, rfl, R.ins, T.cl_Run, T.n_Run_written, rF_written _ _ _ _ _, _, rfl, _, rfl, a, ARun, n.dx, _, _, rfl, R.ins, T.cl_Run, T.n_Run_words, rF_words _ _ _ _ _, b, n.w, _, c, e0, rfl, hb, rfl, SqL.of R.words, hd.2.1, fun p1 H1 hp1 e1 h1' => ?_⟩⟩⟩⟩
    have R1 := R.same e1
    obtain ⟨kws, g1, g2, g3⟩ := R1.written
    have h1 := e1 _ _ h1
    refine ⟨n.dw, _, rfl, DPut.t (k := kC c (Cm10.cellOf e0 p)) g1 h1' (Nat.lt_of_le_of_lt g2 big), ?_⟩
    have len := length_putK kws (kC c (Cm10.cellOf e0 p)) (nV (Cm10.look q0.env v))
    have ce := cellOf_same hd.2.1 R.low
    have wm := written_put g3 c (Cm10.cellOf e0 p) (Cm10.look q0.env v)
    refine q _ (fun c' o hc n1 n2 n3 => ?_) ⟨?_, ?_, R.apart, ⟨kvs, ?_, by omega, fun y hy => h3 y (hy.elim id fun z => nomatch z)⟩, ⟨_, upd_same, by omega, ?_⟩, ?_, by have := R.saidsz; show q0.said.length ≤ _; omega, doRow_low hd R.low⟩
    · rw [upd_ne n2]
      exact e1 _ _ hc
    · rw [upd_ne (ne_of R1.ins g1 (fun z => nomatch z))]
      exact R1.ins
    · rw [upd_ne (ne_of R1.words g1 (fun z => nomatch z))]
      exact R1.words
    · rw [upd_ne (ne_of h1 g1 (fun z => nomatch z))]
      exact h1
    · show WrittenIn _ _ (Cm10.setCell q0.cells c (Cm10.cellOf q0.env p) _)
      rw [ce]
      exact wm
    · rw [upd_ne (ne_of R1.said g1 (fun z => nomatch z))]
      exact R1.said
  | say v =>
    obtain ⟨kvs, h1, h2, h3⟩ := R.named
    obtain ⟨kws, g1, g2, g3⟩ := R.written
    refine ⟨_, rfl, b, _, _, _, rfl, rfl, hb, rfl, rfl, _, rfl, iteF ⟨_, rfl, b, _, _, _, rfl, rfl, hb, rfl, rfl, _, rfl, iteF ⟨_, rfl, b, _, _, _, rfl, rfl, hb, rfl, rfl, _, rfl, iteF ⟨_, rfl, a, ARun, n.dx, _, _, rfl, R.ins, T.cl_Run, T.n_Run_said, rF_said _ _ _ _ _, .inl ⟨rfl, _, SqL.of R.said⟩,
      _, rfl, a, ARun, n.dx, _, _, rfl, R.ins, T.cl_Run, T.n_Run_named, rF_named _ _ _ _ _, _, rfl, b, _, rfl, hb, n.dn, _, rfl, (h3 v hd) ▸ DGet.k (k := Sum.inl (v : Int)) h1, n.ls, _, _, rfl, rfl, R.said, ?_, ?_⟩⟩⟩⟩
    · rw [List.length_map]
      exact Nat.lt_of_le_of_lt R.saidsz big
    · refine q _ (fun c' o hc n1 n2 n3 => ?_) ⟨?_, ?_, R.apart, ⟨kvs, ?_, by omega, fun y hy => h3 y (hy.elim id fun z => nomatch z)⟩, ⟨kws, ?_, by omega, g3⟩, ?_, ?_, doRow_low hd R.low⟩
      · rw [upd_ne n3]
        exact hc
      · rw [upd_ne (ne_of R.ins R.said (fun z => nomatch z))]
        exact R.ins
      · rw [upd_ne R.apart]
        exact R.words
      · rw [upd_ne (ne_of h1 R.said (fun z => nomatch z))]
        exact h1
      · rw [upd_ne (ne_of g1 R.said (fun z => nomatch z))]
        exact g1
      · rw [upd_same]
        show _ = some (HO.lst ((q0.said ++ [Cm10.look q0.env v]).map nV))
        rw [List.map_append]
        rfl
      · show (q0.said ++ [Cm10.look q0.env v]).length ≤ sz + 1
        have := R.saidsz
        rw [List.length_append, List.length_singleton]
        omega
end
end Seen
/-! Contracts of running.py: Run, the cells told, a run in numbers. -/
namespace Seen
open PySem PySem.Spec PyProof.Rows L2

theorem rF_new (s : Nat) (w dn dw ls : Addr) : putF "said" (.ref ls) (putF "written" (.ref dw) (putF "named" (.ref dn) (putF "words" (.ref w) (putF "added" (nV s) [])))) = rF s w dn dw ls := by
  have a1 : ¬ (("added" : Str) = "words") := by decide +kernel
  have a2 : ¬ (("added" : Str) = "named") := by decide +kernel
  have a3 : ¬ (("added" : Str) = "written") := by decide +kernel
  have a4 : ¬ (("added" : Str) = "said") := by decide +kernel
  have b2 : ¬ (("words" : Str) = "named") := by decide +kernel
  have b3 : ¬ (("words" : Str) = "written") := by decide +kernel
  have b4 : ¬ (("words" : Str) = "said") := by decide +kernel
  have c3 : ¬ (("named" : Str) = "written") := by decide +kernel
  have c4 : ¬ (("named" : Str) = "said") := by decide +kernel
  have d4 : ¬ (("written" : Str) = "said") := by decide +kernel
  simp only [putF, if_neg a1, if_neg a2, if_neg a3, if_neg a4, if_neg b2, if_neg b3, if_neg b4, if_neg c3, if_neg c4, if_neg d4]
  rfl
theorem keepP {H : Hp} {p x : Addr} {o u : HO} (hx : H x = some u) (ne : x ≠ p) : upd H p o x = some u := (upd_ne ne).trans hx

section
variable {P : Program} {w : World} {K : PySem.W.Frag} {mg : Str → Option Value} {base : Heap} {ACode ARun : Addr}

def sp_Run_init (C : Addr) : Sp := fun vs H Q _ => ∃ (p dx : Addr) (s : Nat) (w : Addr) (e0 : List Nat), vs = [.ref p, nV s, .ref w] ∧ H p = some (.ins C dx []) ∧ H w = some (.lst (e0.map nV)) ∧
  ∀ H' n, (∀ b o, H b = some o → b ≠ p → H' b = some o) → H n.dn = none → H n.dw = none → H n.ls = none → RunAt C H' p n s e0 ⟨e0, Cm10.firstCells s, []⟩ (fun y => y < e0.length) e0.length → Q .non H'
theorem ok_Run_init (T : Top K mg ACode ARun) : KeptI P w K mg base 1 ARun ["self", "added", "words"] (sp_Run_init ARun) := by
  refine keptI_of T.f_Run_init sc_Run_init
    (fun _ _ _ _ _ _ us hl => match us, hl with | [_, _, _], _ => rfl)
    ?_ fun f cdv A outer s H vs Q E hr h => ?_
  · rintro vs H Q E ⟨p, dx, s, w, e0, rfl, _⟩
    rfl
  obtain ⟨p, dx, s', l, e0, rfl, hp, hl, q⟩ := h
  refine ⟨_, (pss_cons (ps_fld (pv 0) (pv 1) rfl)
      (pss_cons (ps_fld (pv 0) (pv 2) rfl)
      (pss_cons (ps_fld (pv 0) (pe_dictEnum rfl (by rfl) T.b_dict (by rfl) T.b_enumerate (pv 2)) rfl)
      (pss_cons (ps_fld (pv 0) pe_dnewT rfl)
      (pss_one (ps_fld (pv 0) (pe_lst pa_nil) rfl)))))), ?_⟩
  have nlp : l ≠ p := ne_of hl hp (fun z => nomatch z)
  refine ⟨_, rfl, _, rfl, p, ARun, dx, [], rfl, hp, T.cl_Run, T.n_Run_added, (by show 0 < 1000; decide), ?_⟩
  refine ⟨_, rfl, _, rfl, p, ARun, dx, _, rfl, upd_same, T.cl_Run, T.n_Run_words, (by show 1 < 1000; decide), ?_⟩
  have fr2 : ∀ b o, H b = some o → b ≠ p → upd (upd H p (.ins ARun dx (putF "added" (nV s') []))) p (.ins ARun dx (putF "words" (.ref l) (putF "added" (nV s') []))) b = some o := fun b o hb n => keepP (keepP hb n) n
  have hp2 : upd (upd H p (.ins ARun dx (putF "added" (nV s') []))) p (.ins ARun dx (putF "words" (.ref l) (putF "added" (nV s') []))) p = some (.ins ARun dx (putF "words" (.ref l) (putF "added" (nV s') []))) := upd_same
  generalize upd (upd H p (.ins ARun dx (putF "added" (nV s') []))) p (.ins ARun dx (putF "words" (.ref l) (putF "added" (nV s') []))) = H2 at fr2 hp2 ⊢
  have old : ∀ {H' : Hp} {b : Addr}, (∀ b o, H b = some o → b ≠ p → H' b = some o) → H' b = none → b ≠ p → H b = none := fun {H' b} fr hn ne => by
    cases e : H b with
    | none => rfl
    | some o =>
      rw [fr b o e ne] at hn
      cases hn
  have hl2 := fr2 l _ hl nlp
  refine ⟨_, rfl, l, _, rfl, SqL.of hl2, fun dn hdn => ?_⟩
  have ndn : dn ≠ p := (ne_of_none hp2 hdn).symm
  have odn := old fr2 hdn ndn
  refine ⟨_, rfl, p, ARun, dx, _, rfl, same_new hdn _ _ hp2, T.cl_Run, T.n_Run_named, (by show 2 < 1000; decide), ?_⟩
  intro dw hdw
  have hp3 : upd (upd H2 dn (.dK (mergeK [] (enK 0 (e0.map nV))))) p (.ins ARun dx (putF "named" (.ref dn) (putF "words" (.ref l) (putF "added" (nV s') [])))) p = some (.ins ARun dx (putF "named" (.ref dn) (putF "words" (.ref l) (putF "added" (nV s') [])))) := upd_same
  have fr3 : ∀ b o, H b = some o → b ≠ p → upd (upd H2 dn (.dK (mergeK [] (enK 0 (e0.map nV))))) p (.ins ARun dx (putF "named" (.ref dn) (putF "words" (.ref l) (putF "added" (nV s') [])))) b = some o := fun b o hb n => keepP (same_new hdn _ _ (fr2 b o hb n)) n
  have hdn3 : upd (upd H2 dn (.dK (mergeK [] (enK 0 (e0.map nV))))) p (.ins ARun dx (putF "named" (.ref dn) (putF "words" (.ref l) (putF "added" (nV s') [])))) dn = some (.dK (mergeK [] (enK 0 (e0.map nV)))) := keepP upd_same ndn
  generalize upd (upd H2 dn (.dK (mergeK [] (enK 0 (e0.map nV))))) p (.ins ARun dx (putF "named" (.ref dn) (putF "words" (.ref l) (putF "added" (nV s') [])))) = H3 at hp3 fr3 hdn3 hdw ⊢
  have ndw : dw ≠ p := (ne_of_none hp3 hdw).symm
  have odw := old fr3 hdw ndw
  refine ⟨_, rfl, p, ARun, dx, _, rfl, same_new hdw _ _ hp3, T.cl_Run, T.n_Run_written, (by show 3 < 1000; decide), ?_⟩
  refine ⟨Nat.zero_le _, fun ls hls => ?_⟩
  have hp4 : upd (upd H3 dw (.dT [])) p (.ins ARun dx (putF "written" (.ref dw) (putF "named" (.ref dn) (putF "words" (.ref l) (putF "added" (nV s') []))))) p = some (.ins ARun dx (putF "written" (.ref dw) (putF "named" (.ref dn) (putF "words" (.ref l) (putF "added" (nV s') []))))) := upd_same
  have fr4 : ∀ b o, H b = some o → b ≠ p → upd (upd H3 dw (.dT [])) p (.ins ARun dx (putF "written" (.ref dw) (putF "named" (.ref dn) (putF "words" (.ref l) (putF "added" (nV s') []))))) b = some o := fun b o hb n => keepP (same_new hdw _ _ (fr3 b o hb n)) n
  have hdn4 : upd (upd H3 dw (.dT [])) p (.ins ARun dx (putF "written" (.ref dw) (putF "named" (.ref dn) (putF "words" (.ref l) (putF "added" (nV s') []))))) dn = some (.dK (mergeK [] (enK 0 (e0.map nV)))) := keepP (same_new hdw _ _ hdn3) ndn
  have hdw4 : upd (upd H3 dw (.dT [])) p (.ins ARun dx (putF "written" (.ref dw) (putF "named" (.ref dn) (putF "words" (.ref l) (putF "added" (nV s') []))))) dw = some (.dT []) := keepP upd_same ndw
  generalize upd (upd H3 dw (.dT [])) p (.ins ARun dx (putF "written" (.ref dw) (putF "named" (.ref dn) (putF "words" (.ref l) (putF "added" (nV s') []))))) = H4 at hp4 fr4 hdn4 hdw4 hls ⊢
  have nls : ls ≠ p := (ne_of_none hp4 hls).symm
  have ols := old fr4 hls nls
  refine ⟨_, rfl, p, ARun, dx, _, rfl, same_new hls _ _ hp4, T.cl_Run, T.n_Run_said, (by show 4 < 1000; decide), ?_⟩
  rw [rF_new]
  refine q _ ⟨dx, l, dn, dw, ls⟩ (fun b o hb n => keepP (same_new hls _ _ (fr4 b o hb n)) n) odn odw ols ⟨upd_same, keepP (same_new hls _ _ (fr4 l _ hl nlp)) nlp, ne_of_none (fr4 l _ hl nlp) hls, ⟨_, keepP (same_new hls _ _ hdn4) ndn, ?_, fun x hx => ?_⟩, ⟨_, keepP (same_new hls _ _ hdw4) ndw, Nat.zero_le _, fun _ _ => rfl⟩, keepP upd_same nls, Nat.zero_le _, fun _ _ => rfl⟩
  · refine Nat.le_trans (length_mergeK _ []) ?_
    rw [List.length_nil, Nat.zero_add, enK_len, List.length_map]
    exact Nat.le_refl _
  · have hx' : x < e0.length := hx
    rw [enK_val, if_pos (by rw [List.length_map]; omega), Nat.sub_zero, List.getElem?_map, List.getElem?_eq_getElem hx']
    show some (nV e0[x]) = some (nV (e0.getD x 0))
    rw [List.getD_eq_getElem?_getD, List.getElem?_eq_getElem hx']
    rfl

/-! ### the cells told -/
/-- the dict's keys are the cells of ws -/
structure ToldIn (kvs : List (List Key × V)) (ws : List (Nat × Nat)) : Prop where
  form : ∀ p ∈ kvs, ∃ a i : Nat, p.1 = kC a i
  nodup : (kvs.map (·.1)).Nodup
  mem : ∀ a i, (valV kvs (kC a i)).isSome = true ↔ (a, i) ∈ ws
theorem mem_keys {kvs : List (List Key × V)} {k : List Key} : k ∈ kvs.map (·.1) ↔ (valV kvs k).isSome = true := by
  rw [← valV_any, List.any_eq_true, List.mem_map]
  constructor
  · rintro ⟨x, hx, e⟩
    exact ⟨x, hx, decide_eq_true e⟩
  · rintro ⟨x, hx, e⟩
    exact ⟨x, hx, of_decide_eq_true e⟩
theorem put_keys (kvs : List (List Key × V)) (k : List Key) (v : V) : (k ∈ kvs.map (·.1) ∧ (putK kvs k v).map (·.1) = kvs.map (·.1)) ∨ (¬ k ∈ kvs.map (·.1) ∧ (putK kvs k v).map (·.1) = kvs.map (·.1) ++ [k]) := by
  unfold putK
  by_cases c : k ∈ kvs.map (·.1)
  · refine .inl ⟨c, ?_⟩
    rw [if_pos (by rw [valV_any]; exact mem_keys.mp c), List.map_map]
    refine List.map_congr_left fun x _ => ?_
    show (if x.1 = k then (x.1, v) else x).1 = x.1
    by_cases d : x.1 = k
    · rw [if_pos d]
    · rw [if_neg d]
  · refine .inr ⟨c, ?_⟩
    rw [if_neg (by rw [valV_any]; exact fun z => c (mem_keys.mpr z)), List.map_append]
    rfl
theorem ToldIn.start : ToldIn [] [] := ⟨fun _ h => (by cases h), List.nodup_nil, fun a i => ⟨fun h => (by cases h), fun h => (by cases h)⟩⟩
theorem ToldIn.put {kvs : List (List Key × V)} {ws : List (Nat × Nat)} (h : ToldIn kvs ws) (a i : Nat) (v : V) : ToldIn (putK kvs (kC a i) v) (Cm10.insertPair (a, i) ws) := by
  have hk : ∀ k, k ∈ (putK kvs (kC a i) v).map (·.1) → k ∈ kvs.map (·.1) ∨ k = kC a i := fun k hk => by
    rcases put_keys kvs (kC a i) v with ⟨c, e⟩ | ⟨c, e⟩
    · rw [e] at hk
      exact .inl hk
    · rw [e] at hk
      rcases List.mem_append.mp hk with z | z
      · exact .inl z
      · exact .inr (List.mem_singleton.mp z)
  refine ⟨fun p hp => ?_, ?_, fun b j => ?_⟩
  · rcases hk p.1 (List.mem_map_of_mem hp) with z | z
    · obtain ⟨x, hx, e⟩ := List.mem_map.mp z
      rw [← e]
      exact h.form x hx
    · exact ⟨a, i, z⟩
  · rcases put_keys kvs (kC a i) v with ⟨c, e⟩ | ⟨c, e⟩
    · rw [e]
      exact h.nodup
    · rw [e]
      refine List.nodup_append.mpr ⟨h.nodup, List.nodup_cons.mpr ⟨(fun z => by cases z), List.nodup_nil⟩, fun x hx y hy => ?_⟩
      rw [List.mem_singleton.mp hy]
      intro e
      exact c (e ▸ hx)
  · rw [valV_put, mem_insertPair]
    by_cases c : kC b j = kC a i
    · rw [if_pos c]
      obtain ⟨rfl, rfl⟩ := kC_inj.mp c
      exact ⟨fun _ => .inl rfl, fun _ => rfl⟩
    · rw [if_neg c, h.mem]
      exact ⟨.inr, fun z => z.elim (fun z => absurd (kC_inj.mpr ⟨congrArg Prod.fst z, congrArg Prod.snd z⟩) c) id⟩
def castP (x : Nat × Nat) : Int × Int := ((x.1 : Int), (x.2 : Int))
theorem told_sorted {H : Hp} {kvs : List (List Key × V)} {ws : List (Nat × Nat)} {bs : List Addr} (h : ToldIn kvs ws) (hs : ws.Pairwise ltP2) (k : SortedKeys H kvs bs) : bs.map (pairIn H) = ws.map castP := by
  obtain ⟨k1, k2, k3⟩ := k
  have nd := k2.nodup_iff.mpr h.nodup
  refine sorted_uniq ?_ ?_ fun x => ?_
  · rw [List.pairwise_map]
    have nd' := List.pairwise_map.mp nd
    refine List.Pairwise.imp (fun {a b} hab => ?_) (List.Pairwise.and nd' k3)
    obtain ⟨n1, n2⟩ := hab
    have n1' : ¬ ((pairIn H a).1 = (pairIn H b).1 ∧ (pairIn H a).2 = (pairIn H b).2) := fun z => n1 (by rw [z.1, z.2])
    omega
  · rw [List.pairwise_map]
    refine List.Pairwise.imp (fun {a b} hab => ?_) hs
    unfold ltP2 at hab
    show (a.1 : Int) < b.1 ∨ ((a.1 : Int) = b.1 ∧ (a.2 : Int) < b.2)
    omega
  · constructor
    · intro hx
      obtain ⟨b, hb, rfl⟩ := List.mem_map.mp hx
      have m : ([Sum.inl (pairIn H b).1, Sum.inl (pairIn H b).2] : List Key) ∈ kvs.map (·.1) := k2.mem_iff.mp (List.mem_map_of_mem (f := fun b => ([Sum.inl (pairIn H b).1, Sum.inl (pairIn H b).2] : List Key)) hb)
      obtain ⟨p, hp, e⟩ := List.mem_map.mp m
      obtain ⟨a, i, e2⟩ := h.form p hp
      have e3 : kC a i = [Sum.inl (pairIn H b).1, Sum.inl (pairIn H b).2] := e2.symm.trans e
      have hm := (h.mem a i).mp (mem_keys.mp (by rw [← e2]; exact List.mem_map_of_mem hp))
      have h1 := Sum.inl.inj (List.cons.inj e3).1
      have h2 := Sum.inl.inj (List.cons.inj (List.cons.inj e3).2).1
      exact List.mem_map.mpr ⟨(a, i), hm, Prod.ext h1 h2⟩
    · intro hx
      obtain ⟨⟨a, i⟩, hm, rfl⟩ := List.mem_map.mp hx
      have m := k2.mem_iff.mpr (mem_keys.mpr ((h.mem a i).mpr hm))
      obtain ⟨b, hb, e⟩ := List.mem_map.mp m
      have h1 := Sum.inl.inj (List.cons.inj e).1
      have h2 := Sum.inl.inj (List.cons.inj (List.cons.inj e).2).1
      exact List.mem_map.mpr ⟨b, hb, Prod.ext h1 h2⟩
/-- at bs the tuples of the cells ws stand -/
def CellsAt (H : Hp) (bs : List Addr) (ws : List (Nat × Nat)) : Prop := bs.length = ws.length ∧ ∀ (i : Nat) (b : Addr) (x : Nat × Nat), bs[i]? = some b → ws[i]? = some x → H b = some (.tup [nV x.1, nV x.2])
theorem CellsAt.same {H H' : Hp} {bs : List Addr} {ws : List (Nat × Nat)} (h : CellsAt H bs ws) (e : Same H H') : CellsAt H' bs ws := ⟨h.1, fun i b x h1 h2 => e _ _ (h.2 i b x h1 h2)⟩
theorem cells_of_sorted {H : Hp} {kvs : List (List Key × V)} {ws : List (Nat × Nat)} {bs : List Addr} (h : ToldIn kvs ws) (hs : ws.Pairwise ltP2) (k : SortedKeys H kvs bs) : CellsAt H bs ws := by
  have e := told_sorted h hs k
  refine ⟨by have := congrArg List.length e; simpa using this, fun i b x h1 h2 => ?_⟩
  have q := congrArg (fun l => l[i]?) e
  simp only [List.getElem?_map, h1, h2] at q
  have q' : pairIn H b = castP x := Option.some.inj q
  have := k.1 b (List.mem_of_getElem? h1)
  rw [q'] at this
  exact this

/-- writes at places that the words tell -/
def PlacesOk (k : Nat) (rs : List Cm10.Row) : Prop := ∀ r ∈ rs, ∀ a p v, r = .write a p v → PlaceOk k p
theorem Df.places {k : Nat} {rs : List Cm10.Row} (h : Df k rs) : PlacesOk k rs := fun r hr a p v e => by
  have := h.mem r hr
  rw [e] at this
  exact this.2.1
def sp_cells_to_tell (K : PySem.W.Frag) : Sp := fun vs H Q _ => ∃ (l w : Addr) (as : List Addr) (rs : List Cm10.Row) (e0 : List Nat), vs = [.ref l, .ref w] ∧ SqL K H l (as.map V.ref) ∧ Rw K H as rs ∧ rs.length ≤ 16 ∧ SqL K H w (e0.map nV) ∧ PlacesOk e0.length rs ∧
  ∀ p bs H', H p = none → Same H H' → H' p = some (.lst (bs.map V.ref)) → CellsAt H' bs (Cm10.written e0 rs) → Q (.ref p) H'
theorem ok_cells_to_tell (T : Top K mg ACode ARun) : Kept P w K mg base 3 "cells_to_tell" ["rows", "words"] (sp_cells_to_tell K) := by
  refine kept_of T.f_cells_to_tell sc_cells_to_tell
    (fun _ _ _ _ _ _ us hl => match us, hl with | [_, _], _ => rfl)
    ?_ fun f cdv A outer s H vs Q E hr h => ?_
  · rintro vs H Q E ⟨l, w, as, rs, e0, rfl, _⟩
    rfl
  obtain ⟨l, wd, as, rs, e0, rfl, hl, hw, h16, hwd, hpl, q⟩ := h
  refine ⟨_, (pss_cons (ps_set (i := 2) sc_cells_to_tell.nd rfl (Or.inl rfl) pe_dnewT)
      (pss_cons (ps_for PassesOwn.never rfl (pi_list (pv 0)) (pg_name (i := 3) sc_cells_to_tell.nd rfl (Or.inl rfl))
      (pss_one (ps_if (PW.pt (pw_and (pt_cmpR op_eq (pe_ix ix_tup (pv 3) pe_int (fun _ _ => rfl)) (pe_con1 T.c_WRITE (by rfl)) (nomark _)) (pw_and1 (pt_val (pe_own (ok_is_looked_at T) (hr.mono (by decide)) (by rfl) (pa_cons (pv 3) pa_nil))))))
        (pss_one (ps_dput (hu_of hr) (pv 2) (pe_own (ok_cell_key T) (hr.mono (by decide)) (by rfl) (pa_cons (pv 3) (pa_cons (pv 1) pa_nil))) pe_bl rfl))
        pss_nil)))
      (pss_one (ps_ret (pe_sortKeys rfl (by rfl) T.b_sorted (pv 2)))))), ?_⟩
  intro d hd0
  have s0 := same_new (o := .dT []) hd0
  have hlen : (as.map V.ref).length = rs.length := by rw [List.length_map, hw.1]
  refine ⟨_, rfl, l, rfl, ⟨_, s0.seq hl⟩, ?_⟩
  refine for_list (K := K) (a := l) (xs := as.map V.ref) (fun i σ H' => Same H H' ∧ (∃ kvs, H' d = some (.dT kvs) ∧ kvs.length ≤ i ∧ ToldIn kvs (Cm10.written e0 (rs.take i))) ∧ ∃ v : Option V, σ = [some (.ref l), some (.ref wd), some (.ref d), v])
    ⟨s0, ⟨[], upd_same, Nat.le_refl _, by rw [List.take_zero]; exact ToldIn.start⟩, none, rfl⟩ (fun i σ H' _ ⟨e, _⟩ => e.seq hl) ?_ ?_
  · rintro i y σ H' hi ⟨e, ⟨kvs, h1, h2, h3⟩, v, rfl⟩
    obtain ⟨b, r, rfl, hr', hs⟩ := (hw.same e).at hi
    have hi' := (List.getElem?_eq_some_iff.mp hr').1
    have more := written_more (e := e0) hr'
    cases r with
    | num x k =>
      refine ⟨_, rfl, b, _, _, _, rfl, rfl, hs, rfl, rfl, _, rfl, iteF (iteF ?_)⟩
      exact ⟨e, ⟨kvs, h1, Nat.le_succ_of_le h2, by rw [more]; exact h3⟩, _, rfl⟩
    | read x a p =>
      refine ⟨_, rfl, b, _, _, _, rfl, rfl, hs, rfl, rfl, _, rfl, iteF (iteF ?_)⟩
      exact ⟨e, ⟨kvs, h1, Nat.le_succ_of_le h2, by rw [more]; exact h3⟩, _, rfl⟩
    | say x =>
      refine ⟨_, rfl, b, _, _, _, rfl, rfl, hs, rfl, rfl, _, rfl, iteF (iteF ?_)⟩
      exact ⟨e, ⟨kvs, h1, Nat.le_succ_of_le h2, by rw [more]; exact h3⟩, _, rfl⟩
    | write a p x =>
      refine ⟨_, rfl, b, _, _, _, rfl, rfl, hs, rfl, rfl, _, rfl, iteT ⟨_, rfl, b, _, a, rfl, hs, rfl, _, rfl, ?_⟩⟩
      have more' : Cm10.written e0 (rs.take (i + 1)) = if Cm10.lasts a then Cm10.insertPair (a, Cm10.cellOf e0 p) (Cm10.written e0 (rs.take i)) else Cm10.written e0 (rs.take i) := more
      cases k : Cm10.lasts a with
      | false =>
        rw [k, if_neg Bool.false_ne_true] at more'
        exact iteF ⟨e, ⟨kvs, h1, Nat.le_succ_of_le h2, by rw [more']; exact h3⟩, _, rfl⟩
      | true =>
        rw [k, if_pos rfl] at more'
        refine iteT ⟨_, rfl, _, rfl, _, rfl, b, wd, _, a, e0, rfl, hs, rfl, e.seq hwd, hpl _ (List.mem_of_getElem? hr') _ _ _ rfl, fun p1 H1 hp1 e1 h1' => ?_⟩
        refine ⟨d, _, rfl, DPut.t (k := kC a (Cm10.cellOf e0 p)) (e1 _ _ h1) h1' (Nat.lt_of_lt_of_le (m := 17) (by omega) (by decide)), ?_⟩
        refine ⟨fun b' o hb' => ?_, ⟨_, upd_same, ?_, by rw [more']; exact h3.put _ _ _⟩, _, rfl⟩
        · rw [upd_ne (ne_of_none hb' hd0)]
          exact e1 _ _ (e _ _ hb')
        · have := length_putK kvs (kC a (Cm10.cellOf e0 p)) (.bl true)
          omega
  · rintro σ H' ⟨e, ⟨kvs, h1, h2, h3⟩, v, rfl⟩
    have hsort := written_sorted e0 rs _ (Nat.le_of_eq hlen)
    rw [hlen, List.take_length] at h3 hsort
    refine ⟨_, rfl, d, kvs, rfl, .inl h1, fun p hp => ?_, fun p bs hp hk => ?_⟩
    · obtain ⟨a, i, e2⟩ := h3.form p hp
      exact ⟨a, i, e2⟩
    · exact q p bs _ (e.free hp) (e.trans (same_new hp)) upd_same ((cells_of_sorted h3 hsort hk).same (same_new hp))

/-! ### a run in numbers -/
def cellNums (m : Cm10.Cells) (ws : List (Nat × Nat)) : List Nat := ws.flatMap fun x => [x.1, x.2, m x.1 x.2]
def runNums (said : List Nat) (m : Cm10.Cells) (ws : List (Nat × Nat)) : List Nat := Cm10.counted said ++ (ws.length :: cellNums m ws)
theorem cellNums_more {m : Cm10.Cells} {ws : List (Nat × Nat)} {i : Nat} {x : Nat × Nat} (h : ws[i]? = some x) : cellNums m (ws.take (i + 1)) = cellNums m (ws.take i) ++ [x.1, x.2, m x.1 x.2] := by
  unfold cellNums
  rw [take_succ h, List.flatMap_append]
  simp
theorem cellNums_len (m : Cm10.Cells) : ∀ ws : List (Nat × Nat), (cellNums m ws).length = 3 * ws.length
  | [] => rfl
  | x :: ws => by
    have := cellNums_len m ws
    unfold cellNums at this ⊢
    rw [List.flatMap_cons, List.length_append, this]
    simp only [List.length_cons, List.length_nil]
    omega
theorem addCell_len (e : Cm10.Env) (l : List (Nat × Nat)) (r : Cm10.Row) : (addCell e l r).length ≤ l.length + 1 := by
  have ins : ∀ (x : Nat × Nat) (l : List (Nat × Nat)), (Cm10.insertPair x l).length ≤ l.length + 1 := by
    intro x l
    induction l with
    | nil => exact Nat.le_refl _
    | cons y l ih =>
      unfold Cm10.insertPair
      by_cases c : x = y
      · rw [if_pos c]
        exact Nat.le_succ _
      · rw [if_neg c]
        by_cases d : x.1 < y.1 ∨ (x.1 = y.1 ∧ x.2 < y.2)
        · rw [if_pos d]
          exact Nat.le_refl _
        · rw [if_neg d]
          exact Nat.succ_le_succ ih
  cases r with
  | write a p v =>
    show (if Cm10.lasts a then _ else _ : List (Nat × Nat)).length ≤ _
    cases c : Cm10.lasts a with
    | true => exact ins _ _
    | false => exact Nat.le_succ _
  | _ => exact Nat.le_succ _
theorem written_len (e : Cm10.Env) (rs : List Cm10.Row) : ∀ i, i ≤ rs.length → (Cm10.written e (rs.take i)).length ≤ i
  | 0, _ => by
    rw [List.take_zero]
    exact Nat.le_refl _
  | i + 1, h => by
    rw [written_more (List.getElem?_eq_getElem (show i < rs.length by omega))]
    exact Nat.le_trans (addCell_len _ _ _) (Nat.succ_le_succ (written_len e rs i (by omega)))
def sp_run_told (K : PySem.W.Frag) : Sp := fun vs H Q _ => ∃ (l l2 w : Addr) (as as2 : List Addr) (rs rs2 : List Cm10.Row) (s : Nat) (e0 : List Nat), vs = [.ref l, .ref l2, nV s, .ref w] ∧ SqL K H l (as.map V.ref) ∧ Rw K H as rs ∧ rs.length ≤ 16 ∧ Df e0.length rs ∧
  SqL K H l2 (as2.map V.ref) ∧ Rw K H as2 rs2 ∧ rs2.length ≤ 16 ∧ PlacesOk e0.length rs2 ∧ H w = some (.lst (e0.map nV)) ∧ e0.length ≤ 40 ∧
  ∀ p H', H p = none → Same H H' → H' p = some (.lst ((runNums (Cm10.doRows rs e0 (Cm10.firstCells s)).2.2 (Cm10.doRows rs e0 (Cm10.firstCells s)).2.1 (Cm10.written e0 rs2)).map nV)) → Q (.ref p) H'
theorem ok_run_told (T : Top K mg ACode ARun) : Kept P w K mg base 4 "run_told" ["rows", "told_rows", "added", "words"] (sp_run_told K) := by
  refine kept_of T.f_run_told sc_run_told
    (fun _ _ _ _ _ _ us hl => match us, hl with | [_, _, _, _], _ => rfl)
    ?_ fun f cdv A outer s H vs Q E hr h => ?_
  · rintro vs H Q E ⟨l, l2, w, as, as2, rs, rs2, s, e0, rfl, _⟩
    rfl
  obtain ⟨l, l2, wd, as, as2, rs, rs2, s', e0, rfl, hl, hw, h16, hdf, hl2, hw2, h16', hpl, hwd, h40, q⟩ := h
  refine ⟨_, (pss_cons (ps_set (i := 4) sc_run_told.nd rfl (Or.inl rfl) (pe_mk (ok_Run_init T) T.cls_Run (hr.mono (by decide)) (by rfl) (pa_cons (pv 2) (pa_cons (pv 3) pa_nil))))
      (pss_cons (ps_for PassesOwn.never rfl (pi_list (pv 0)) (pg_name (i := 5) sc_run_told.nd rfl (Or.inl rfl))
      (pss_one (ps_expr (pe_own (ok_do_row T) (hr.mono (by decide)) (by rfl) (pa_cons (pv 4) (pa_cons (pv 5) pa_nil))))))
      (pss_cons (ps_set (i := 6) sc_run_told.nd rfl (Or.inl rfl) (pe_own (ok_cells_to_tell T) (hr.mono (by decide)) (by rfl) (pa_cons (pv 1) (pa_cons (pv 3) pa_nil))))
      (pss_cons (ps_set (i := 7) sc_run_told.nd rfl (Or.inl rfl) (pe_op op_cat (pe_op op_cat (pe_lst (pa_cons (pe_callB call_len_seq (by rfl) T.b_len (by decide +kernel) (pa_cons (pe_fld (pv 4) rfl) pa_nil)) pa_nil)) (pe_fld (pv 4) rfl)) (pe_lst (pa_cons (pe_callB call_len_seq (by rfl) T.b_len (by decide +kernel) (pa_cons (pv 6) pa_nil)) pa_nil))))
      (pss_cons (ps_for PassesOwn.never rfl (pi_list (pv 6)) (pg_name (i := 8) sc_run_told.nd rfl (Or.inl rfl))
      (pss_one (ps_expr (pe_bm PySem.F.plainAttrs_list PySem.F.slot_list_extend PySem.F.type_list_extend mt_extend (pv 7) (pa_cons (pe_lst (pa_cons (pe_ix ix_tup (pv 8) pe_int (fun _ _ => rfl)) (pa_cons (pe_ix ix_tup (pv 8) pe_int (fun _ _ => rfl)) (pa_cons (pe_own (ok_word_in T) (hr.mono (by decide)) (by rfl) (pa_cons (pv 4) (pa_cons (pv 8) pa_nil))) pa_nil)))) pa_nil)))))
      (pss_one (ps_ret (pv 7)))))))), ?_⟩
  refine ⟨_, rfl, _, rfl, fun x dx nx ndx nex => ?_⟩
  have hwd1 : upd (upd H dx (.own x)) x (.ins ARun dx []) wd = some (.lst (e0.map nV)) := by
    rw [upd_ne (ne_of_none hwd nx), upd_ne (ne_of_none hwd ndx)]
    exact hwd
  refine ⟨x, dx, s', wd, e0, rfl, upd_same, hwd1, fun H1 n fr ndn ndw nls R => ⟨rfl, ?_⟩⟩
  have s1 : Same H H1 := Same.made nx ndx fr
  have free1 : ∀ {b : Addr}, upd (upd H dx (.own x)) x (.ins ARun dx []) b = none → H b = none := fun {b} hb => by
    cases e : H b with
    | none => rfl
    | some o =>
      rw [upd_ne (ne_of_none e nx), upd_ne (ne_of_none e ndx), e] at hb
      cases hb
  have odn := free1 ndn
  have odw := free1 ndw
  have ols := free1 nls
  have hlen : (as.map V.ref).length = rs.length := by rw [List.length_map, hw.1]
  refine ⟨_, rfl, l, rfl, ⟨_, s1.seq hl⟩, ?_⟩
  refine for_list (K := K) (a := l) (xs := as.map V.ref) (fun i σ H' => ∃ q' : Rs, Same H H' ∧ RunAt ARun H' x n s' e0 q' (Has e0.length (rs.take i)) (e0.length + i) ∧ All (rs.drop i) q' = Cm10.doRows rs e0 (Cm10.firstCells s') ∧
    ∃ v : Option V, σ = [some (.ref l), some (.ref l2), some (nV s'), some (.ref wd), some (.ref x), v, none, none, none])
    ⟨⟨e0, Cm10.firstCells s', []⟩, s1, ?_, ?_, none, rfl⟩ (fun i σ H' _ ⟨_, e, _⟩ => e.seq hl) ?_ ?_
  · obtain ⟨kvs, h1, h2, h3⟩ := R.named
    refine ⟨R.ins, R.words, R.apart, ⟨kvs, h1, h2, fun y hy => h3 y ?_⟩, R.written, R.said, R.saidsz, R.low⟩
    rw [List.take_zero] at hy
    rcases hy with hy | ⟨_, hs, _⟩
    · exact hy
    · cases hs
  · rw [List.drop_zero]
    rfl
  · rintro i y σ H' hi ⟨q', e, R', ha, v, rfl⟩
    obtain ⟨b, r, rfl, hr', hs⟩ := (hw.same e).at hi
    have hi' := (List.getElem?_eq_some_iff.mp hr').1
    refine ⟨_, rfl, _, rfl, x, b, n, s', e0, q', _, _, r, rfl, R', hs, hdf i r hr', (by omega), fun H2 as2' R2 => ⟨doRow q' r, fun b' o hb' => ?_, ?_, ?_, _, rfl⟩⟩
    · exact as2' b' o (e _ _ hb') (ne_of_none hb' odn) (ne_of_none hb' odw) (ne_of_none hb' ols)
    · obtain ⟨kvs, h1, h2, h3⟩ := R2.named
      refine ⟨R2.ins, R2.words, R2.apart, ⟨kvs, h1, h2, fun y hy => h3 y ?_⟩, R2.written, R2.said, R2.saidsz, R2.low⟩
      rw [take_succ hr'] at hy
      exact has_snoc hy
    · rw [Srt.drop_at _ _ _ hr', All.cons] at ha
      exact ha
  · rintro σ H2 ⟨q', s2, R2, ha, v, rfl⟩
    rw [hlen, List.drop_of_length_le (Nat.le_refl _), All.nil] at ha
    have hq : q = q := rfl
    rw [← ha] at q
    refine ⟨_, rfl, _, rfl, l2, wd, as2, rs2, e0, rfl, s2.seq hl2, hw2.same s2, h16', (s2.seq (SqL.of hwd)), hpl, fun pk bs H3 hpk e3 hk3 hc3 => ?_⟩
    have R3 := R2.same e3
    have wl := written_len e0 rs2 rs2.length (Nat.le_refl _)
    rw [List.take_length] at wl
    have bl : (bs.map V.ref).length = (Cm10.written e0 rs2).length := by rw [List.length_map, hc3.1]
    have ssz : (q'.said.map nV).length ≤ 60 := by
      have := R3.saidsz
      rw [List.length_map]
      rw [List.length_map, hw.1] at this
      omega
    refine ⟨_, rfl, x, ARun, n.dx, _, _, rfl, R3.ins, T.cl_Run, T.n_Run_said, rF_said _ _ _ _ _, n.ls, _, rfl, .inl (SqL.of R3.said), (by show 1 ≤ sizeLine; decide), fun p1 hp1 => ?_⟩
    have e4 := same_new (o := .lst [nV (q'.said.map nV).length]) hp1
    have R4 := R3.same e4
    refine ⟨_, rfl, x, ARun, n.dx, _, _, rfl, R4.ins, T.cl_Run, T.n_Run_said, rF_said _ _ _ _ _, p1, n.ls, _, _, rfl, rfl, upd_same, R4.said, ?_, fun p2 hp2 => ?_⟩
    · refine Nat.le_trans (m := 100) ?_ (by decide)
      rw [List.length_singleton]
      omega
    have e5 := same_new (o := .lst ([nV (q'.said.map nV).length] ++ q'.said.map nV)) hp2
    refine ⟨_, rfl, pk, _, rfl, .inl (SqL.of (e5 _ _ (e4 _ _ hk3))), (by show 1 ≤ sizeLine; decide), fun p3 hp3 => ?_⟩
    have e6 := same_new (o := .lst [nV (bs.map V.ref).length]) hp3
    refine ⟨p2, p3, _, _, rfl, rfl, e6 _ _ upd_same, upd_same, ?_, fun nm hnm => ?_⟩
    · refine Nat.le_trans (m := 100) ?_ (by decide)
      rw [List.length_append, List.length_singleton, List.length_singleton]
      omega
    have e36 := (e4.trans e5).trans e6
    generalize upd (upd (upd H3 p1 (.lst [nV (q'.said.map nV).length])) p2 (.lst ([nV (q'.said.map nV).length] ++ q'.said.map nV))) p3 (.lst [nV (bs.map V.ref).length]) = H6 at e36 hnm ⊢
    have e7 := same_new (o := .lst ([nV (q'.said.map nV).length] ++ q'.said.map nV ++ [nV (bs.map V.ref).length])) hnm
    refine ⟨_, rfl, pk, rfl, ⟨_, SqL.of (e7 _ _ (e36 _ _ hk3))⟩, ?_⟩
    refine for_list (K := K) (a := pk) (xs := bs.map V.ref) (fun i σ H' => Same H6 H' ∧ H' nm = some (.lst ([nV (q'.said.map nV).length] ++ q'.said.map nV ++ [nV (bs.map V.ref).length] ++ (cellNums q'.cells ((Cm10.written e0 rs2).take i)).map nV)) ∧
      ∃ v v2 : Option V, σ = [some (.ref l), some (.ref l2), some (nV s'), some (.ref wd), some (.ref x), v, some (.ref pk), some (.ref nm), v2])
      ⟨e7, ?_, v, none, rfl⟩ (fun i σ H' _ ⟨e, _⟩ => e.seq (SqL.of (e36 _ _ hk3))) ?_ ?_
    · rw [upd_same, List.take_zero]
      show _ = some (HO.lst (_ ++ []))
      rw [List.append_nil]
    · rintro i y σ H' hi ⟨e, hn, v1, v2, rfl⟩
      rw [List.getElem?_map] at hi
      cases hb : bs[i]? with
      | none =>
        rw [hb] at hi
        cases hi
      | some b =>
        rw [hb] at hi
        cases hi
        have hib := (List.getElem?_eq_some_iff.mp hb).1
        have hx : (Cm10.written e0 rs2)[i]? = some ((Cm10.written e0 rs2)[i]'(by rw [← hc3.1]; exact hib)) := List.getElem?_eq_getElem _
        generalize (Cm10.written e0 rs2)[i]'(by rw [← hc3.1]; exact hib) = z at hx
        have ht := e _ _ (e36 _ _ (hc3.2 i b z hb hx))
        have R7 := R3.same (e36.trans e)
        refine ⟨_, rfl, .inl ⟨rfl, _, SqL.of hn⟩, _, rfl, b, _, _, _, rfl, rfl, SqT.of ht, rfl, _, rfl, b, _, _, _, rfl, rfl, SqT.of ht, rfl, _, rfl, _, rfl, x, b, n, s', e0, q', _, _, z.1, z.2, rfl, R7, ht, (by show 3 ≤ sizeLine; decide), fun p4 hp4 => ?_⟩
        have e8 := same_new (o := .lst [nV z.1, nV z.2, nV (q'.cells z.1 z.2)]) hp4
        refine ⟨nm, p4, _, _, rfl, rfl, e8 _ _ hn, upd_same, ?_, ⟨fun b' o hb' => ?_, ?_, _, _, rfl⟩⟩
        · refine Nat.le_trans (m := 200) ?_ (by decide)
          have cl := cellNums_len q'.cells ((Cm10.written e0 rs2).take i)
          rw [List.length_take] at cl
          simp only [List.length_append, List.length_cons, List.length_nil, List.length_map] at ssz ⊢
          omega
        · rw [upd_ne (ne_of_none hb' hnm)]
          exact e8 _ _ (e _ _ hb')
        · rw [upd_same, cellNums_more hx, List.map_append, ← List.append_assoc]
          rfl
    · rintro σ H' ⟨e, hn, v1, v2, rfl⟩
      have f : H nm = none := s2.free (e3.free (e36.free hnm))
      refine ⟨_, rfl, q nm H' f (((s2.trans e3).trans e36).trans e) ?_⟩
      rw [bl, List.take_length] at hn
      rw [hn]
      unfold runNums Cm10.counted
      rw [List.length_map]
      simp only [List.map_append, List.map_cons, List.singleton_append, List.cons_append, List.append_assoc, List.nil_append]
end
end Seen
/-! Contracts of smaller.py. -/
namespace Seen
open PySem PySem.Spec PyProof.Rows L2

/-! ### what is known goes: one row -/
def renR (s : Cm10.Stand) : Cm10.Row → Cm10.Row
  | .write a p v => .write a p (Cm10.meant s v)
  | .say v => .say (Cm10.meant s v)
  | r => r
def knownO (kept : List Cm10.Row) : Cm10.Row → Option Nat
  | .num _ n => Cm10.numIn kept n
  | .say _ => none
  | .read _ a p => Cm10.sure kept a p
  | .write a p _ => Cm10.sure kept a p
def fstep (kept : List Cm10.Row) (s : Cm10.Stand) (r : Cm10.Row) : List Cm10.Row × Cm10.Stand := match knownO kept (renR s r), r.gives with
  | none, _ => (kept ++ [renR s r], s)
  | some y, some x => (kept, (x, y) :: s)
  | some y, none => if used (renR s r) = some y then (kept, s) else (kept ++ [renR s r], s)
theorem forward_cons (r : Cm10.Row) (l kept : List Cm10.Row) (s : Cm10.Stand) : Cm10.forward (r :: l) kept s = Cm10.forward l (fstep kept s r).1 (fstep kept s r).2 := by
  cases r with
  | num x n =>
    unfold fstep
    show (match Cm10.numIn kept n with
      | some y => Cm10.forward l kept ((x, y) :: s)
      | none => Cm10.forward l (kept ++ [Cm10.Row.num x n]) s) = _
    have e : knownO kept (renR s (.num x n)) = Cm10.numIn kept n := rfl
    rw [e]
    cases Cm10.numIn kept n <;> rfl
  | read x a p =>
    unfold fstep
    show (match Cm10.sure kept a p with
      | some y => Cm10.forward l kept ((x, y) :: s)
      | none => Cm10.forward l (kept ++ [Cm10.Row.read x a p]) s) = _
    have e : knownO kept (renR s (.read x a p)) = Cm10.sure kept a p := rfl
    rw [e]
    cases Cm10.sure kept a p <;> rfl
  | write a p v =>
    unfold fstep
    show (if Cm10.sure kept a p = some (Cm10.meant s v) then Cm10.forward l kept s else Cm10.forward l (kept ++ [Cm10.Row.write a p (Cm10.meant s v)]) s) = _
    have e : knownO kept (renR s (.write a p v)) = Cm10.sure kept a p := rfl
    rw [e]
    cases k : Cm10.sure kept a p with
    | none =>
      rw [if_neg fun z => nomatch z]
      rfl
    | some y =>
      show _ = Cm10.forward l (if some (Cm10.meant s v) = some y then (kept, s) else (kept ++ [Cm10.Row.write a p (Cm10.meant s v)], s)).1 (if some (Cm10.meant s v) = some y then (kept, s) else (kept ++ [Cm10.Row.write a p (Cm10.meant s v)], s)).2
      by_cases c : some y = some (Cm10.meant s v)
      · rw [if_pos c, if_pos c.symm]
      · rw [if_neg c, if_neg fun z => c z.symm]
  | say v => rfl
theorem gives_at {r : Cm10.Row} {x : Nat} (h : r.gives = some x) : atI (encR r) 1 = some (nV x) := by
  cases r with
  | num y n =>
    cases h
    rfl
  | read y a p =>
    cases h
    rfl
  | write => cases h
  | say => cases h
/-- the dict at d says which names stand for others -/
def StandAt (H : Hp) (d : Addr) (s : Cm10.Stand) (sz : Nat) : Prop := ∃ kvs, H d = some (.dK kvs) ∧ kvs.length ≤ sz ∧ ∀ x : Nat, (valV kvs (Sum.inl (x : Int))).getD (nV x) = nV (Cm10.meant s x)
theorem StandAt.same {H H' : Hp} {d : Addr} {s : Cm10.Stand} {sz : Nat} (h : StandAt H d s sz) (e : Same H H') : StandAt H' d s sz := by
  obtain ⟨kvs, h1, h2⟩ := h
  exact ⟨kvs, e _ _ h1, h2⟩

section
variable {P : Program} {w : World} {K : PySem.W.Frag} {mg : Str → Option Value} {base : Heap} {ACode ARun : Addr}

def sp_renamed (K : PySem.W.Frag) : Sp := fun vs H Q _ => ∃ (p d : Addr) (r : Cm10.Row) (s : Cm10.Stand) (sz : Nat), vs = [.ref p, .ref d] ∧ SqT K H p (encR r) ∧ StandAt H d s sz ∧ ∀ b H', Same H H' → SqT K H' b (encR (renR s r)) → Q (.ref b) H'
theorem ok_renamed (T : Top K mg ACode ARun) : Kept P w K mg base 2 "renamed" ["row", "stands_for"] (sp_renamed K) := by
  refine kept_of T.f_renamed sc_renamed
    (fun _ _ _ _ _ _ us hl => match us, hl with | [_, _], _ => rfl)
    ?_ fun f cdv A outer s H vs Q E hr h => ?_
  · rintro vs H Q E ⟨p, d, r, s, sz, rfl, _⟩
    rfl
  obtain ⟨p, d, r, st, sz, rfl, hs, ⟨kvs, h1, h2, h3⟩, q⟩ := h
  refine ⟨_, (pss_cons (ps_if (PW.pt (pw_and (pt_cmpR op_ne (pe_ix ix_tup (pv 0) pe_int (fun _ _ => rfl)) (pe_con1 T.c_WRITE (by rfl)) (nomark _)) (pw_and1 (pt_cmpR op_ne (pe_ix ix_tup (pv 0) pe_int (fun _ _ => rfl)) (pe_con1 T.c_SAY (by rfl)) (nomark _)))))
      (pss_one (ps_ret (pv 0)))
      pss_nil)
      (pss_cons (ps_set (i := 2) sc_renamed.nd rfl (Or.inl rfl) (pe_own (ok_name_used T) (hr.mono (by decide)) (by rfl) (pa_cons (pv 0) pa_nil)))
      (pss_one (ps_ret (pe_op op_catT (pe_slice sl_tup (pv 0) po_none (po_some (pe_un un_neg pe_int))) (pe_tup (pa_cons (pe_dget2 (hu_of hr) (pv 1) (pv 2) (pv 2) ⟨rfl, rfl, rfl, rfl⟩) pa_nil))))))), ?_⟩
  cases r with
  | num x k => exact ⟨_, rfl, p, _, _, _, rfl, rfl, hs, rfl, rfl, _, rfl, iteT ⟨_, rfl, p, _, _, _, rfl, rfl, hs, rfl, rfl, _, rfl, iteT ⟨_, rfl, q p H (Same.refl H) hs⟩⟩⟩
  | read x a c => exact ⟨_, rfl, p, _, _, _, rfl, rfl, hs, rfl, rfl, _, rfl, iteT ⟨_, rfl, p, _, _, _, rfl, rfl, hs, rfl, rfl, _, rfl, iteT ⟨_, rfl, q p H (Same.refl H) hs⟩⟩⟩
  | write a c v =>
    refine ⟨_, rfl, p, _, _, _, rfl, rfl, hs, rfl, rfl, _, rfl, iteF (iteF ⟨_, rfl, p, _, rfl, hs, _, rfl, _, rfl, _, rfl, p, _, rfl, hs, fun z => absurd (show (4 : Nat) = 5 from z.2) (by decide), fun p1 hp1 => ?_⟩)⟩
    have s1 := same_new (o := .tup (cutV (encR (.write a c v)) none (some (-1)))) hp1
    refine ⟨_, rfl, d, rfl, .inl ⟨kvs, .inl (s1 _ _ h1)⟩, _, rfl, _, rfl, _, DGet.k (k := Sum.inl (v : Int)) (s1 _ _ h1), (by show 1 ≤ sizeLine; decide), fun p2 hp2 => ?_⟩
    refine ⟨p1, p2, _, _, rfl, rfl, SqT.of (same_new hp2 _ _ upd_same), SqT.of upd_same, (fun z => nomatch z), (by show 5 ≤ sizeLine; decide), (fun z => nomatch z), fun _ p3 hp3 => q p3 _ ((s1.trans (same_new hp2)).trans (same_new hp3)) (SqT.of ?_)⟩
    rw [upd_same]
    have e : (valV kvs (Sum.inl (v : Int))).getD (oV (used (.write a c v))) = nV (Cm10.meant st v) := h3 v
    rw [e]
    rfl
  | say v =>
    refine ⟨_, rfl, p, _, _, _, rfl, rfl, hs, rfl, rfl, _, rfl, iteT ⟨_, rfl, p, _, _, _, rfl, rfl, hs, rfl, rfl, _, rfl, iteF ⟨_, rfl, p, _, rfl, hs, _, rfl, _, rfl, _, rfl, p, _, rfl, hs, fun z => absurd (show (1 : Nat) = 2 from z.2) (by decide), fun p1 hp1 => ?_⟩⟩⟩
    have s1 := same_new (o := .tup (cutV (encR (.say v)) none (some (-1)))) hp1
    refine ⟨_, rfl, d, rfl, .inl ⟨kvs, .inl (s1 _ _ h1)⟩, _, rfl, _, rfl, _, DGet.k (k := Sum.inl (v : Int)) (s1 _ _ h1), (by show 1 ≤ sizeLine; decide), fun p2 hp2 => ?_⟩
    refine ⟨p1, p2, _, _, rfl, rfl, SqT.of (same_new hp2 _ _ upd_same), SqT.of upd_same, (fun z => nomatch z), (by show 2 ≤ sizeLine; decide), (fun z => nomatch z), fun _ p3 hp3 => q p3 _ ((s1.trans (same_new hp2)).trans (same_new hp3)) (SqT.of ?_)⟩
    rw [upd_same]
    have e : (valV kvs (Sum.inl (v : Int))).getD (oV (used (.say v))) = nV (Cm10.meant st v) := h3 v
    rw [e]
    rfl

theorem numIn_cons (r : Cm10.Row) (l : List Cm10.Row) (k : Nat) : Cm10.numIn (r :: l) k = match r with
    | .num x n => if n = k then some x else Cm10.numIn l k
    | _ => Cm10.numIn l k := by
  unfold Cm10.numIn
  rw [List.findSome?_cons]
  cases r with
  | num x n =>
    by_cases c : n = k
    · simp only [if_pos c]
    · simp only [if_neg c]
  | _ => rfl
def sp_name_of_number (K : PySem.W.Frag) : Sp := fun vs H Q _ => ∃ (l : Addr) (as : List Addr) (rs : List Cm10.Row) (n : Nat), vs = [.ref l, nV n] ∧ SqL K H l (as.map V.ref) ∧ Rw K H as rs ∧ Q (oV (Cm10.numIn rs n)) H
theorem ok_name_of_number (T : Top K mg ACode ARun) : Kept P w K mg base 1 "name_of_number" ["kept", "number"] (sp_name_of_number K) := by
  refine kept_of T.f_name_of_number sc_name_of_number
    (fun _ _ _ _ _ _ us hl => match us, hl with | [_, _], _ => rfl)
    ?_ fun f cdv A outer s H vs Q E hr h => ?_
  · rintro vs H Q E ⟨l, as, rs, n, rfl, _⟩
    rfl
  obtain ⟨l, as, rs, n, rfl, hl, hw, q⟩ := h
  refine ⟨_, (pss_cons (ps_for PassesOwn.never rfl (pi_list (pv 0)) (pg_name (i := 2) sc_name_of_number.nd rfl (Or.inl rfl))
      (pss_one (ps_if (PW.pt (pw_and (pt_cmpR op_eq (pe_ix ix_tup (pv 2) pe_int (fun _ _ => rfl)) (pe_con1 T.c_NUMBER (by rfl)) (nomark _)) (pw_and1 (pt_cmpR op_eq (pe_ix ix_tup (pv 2) pe_int (fun _ _ => rfl)) (pv 1) (nomark _)))))
        (pss_one (ps_ret (pe_ix ix_tup (pv 2) pe_int (fun _ _ => rfl))))
        pss_nil)))
      (pss_one (ps_ret pe_non))), ?_⟩
  have hlen : (as.map V.ref).length = rs.length := by rw [List.length_map, hw.1]
  refine ⟨_, rfl, l, rfl, ⟨_, hl⟩, ?_⟩
  refine for_list (K := K) (a := l) (xs := as.map V.ref) (fun i σ H' => H' = H ∧ Cm10.numIn (rs.drop i) n = Cm10.numIn rs n ∧ ∃ v : Option V, σ = [some (.ref l), some (nV n), v])
    ⟨rfl, by rw [List.drop_zero], none, rfl⟩ (fun i σ H' _ ⟨e, _⟩ => by rw [e]; exact hl) ?_ ?_
  · rintro i y σ H' hi ⟨rfl, hn, v, rfl⟩
    obtain ⟨b, r, rfl, hr', hs⟩ := hw.at hi
    rw [Srt.drop_at _ _ _ hr', numIn_cons] at hn
    cases r with
    | num x m =>
      refine ⟨_, rfl, b, _, _, _, rfl, rfl, hs, rfl, rfl, _, rfl, iteT ⟨_, rfl, b, _, _, _, rfl, rfl, hs, rfl, _, rfl, rfl, _, rfl, ?_⟩⟩
      have hn' : (if m = n then some x else Cm10.numIn (rs.drop (i + 1)) n) = Cm10.numIn rs n := hn
      by_cases c : m = n
      · refine dT (nV_inj.mpr c) ⟨_, rfl, b, _, _, _, rfl, rfl, hs, rfl, ?_⟩
        rw [if_pos c] at hn'
        rw [← hn'] at q
        exact q
      · rw [if_neg c] at hn'
        exact dF (fun z => c (nV_inj.mp z)) ⟨rfl, hn', _, rfl⟩
    | read x a p => exact ⟨_, rfl, b, _, _, _, rfl, rfl, hs, rfl, rfl, _, rfl, iteF (iteF ⟨rfl, hn, _, rfl⟩)⟩
    | write a p x => exact ⟨_, rfl, b, _, _, _, rfl, rfl, hs, rfl, rfl, _, rfl, iteF (iteF ⟨rfl, hn, _, rfl⟩)⟩
    | say x => exact ⟨_, rfl, b, _, _, _, rfl, rfl, hs, rfl, rfl, _, rfl, iteF (iteF ⟨rfl, hn, _, rfl⟩)⟩
  · rintro σ H' ⟨rfl, hn, v, rfl⟩
    rw [hlen, List.drop_of_length_le (Nat.le_refl _)] at hn
    have hn' : none = Cm10.numIn rs n := hn
    rw [← hn'] at q
    exact q

def sp_known_name (K : PySem.W.Frag) : Sp := fun vs H Q _ => ∃ (l p : Addr) (as : List Addr) (rs : List Cm10.Row) (r : Cm10.Row), vs = [.ref l, .ref p] ∧ SqL K H l (as.map V.ref) ∧ Rw K H as rs ∧ rs.length ≤ 16 ∧ SqT K H p (encR r) ∧ ∀ H', Same H H' → Q (oV (knownO rs r)) H'
theorem ok_known_name (T : Top K mg ACode ARun) : Kept P w K mg base 4 "known_name" ["kept", "row"] (sp_known_name K) := by
  refine kept_of T.f_known_name sc_known_name
    (fun _ _ _ _ _ _ us hl => match us, hl with | [_, _], _ => rfl)
    ?_ fun f cdv A outer s H vs Q E hr h => ?_
  · rintro vs H Q E ⟨l, p, as, rs, r, rfl, _⟩
    rfl
  obtain ⟨l, p, as, rs, r, rfl, hl, hw, h16, hs, q⟩ := h
  refine ⟨_, (pss_cons (ps_if (pt_cmpR op_eq (pe_ix ix_tup (pv 1) pe_int (fun _ _ => rfl)) (pe_con1 T.c_NUMBER (by rfl)) (nomark _))
      (pss_one (ps_ret (pe_own (ok_name_of_number T) (hr.mono (by decide)) (by rfl) (pa_cons (pv 0) (pa_cons (pe_ix ix_tup (pv 1) pe_int (fun _ _ => rfl)) pa_nil)))))
      pss_nil)
      (pss_cons (ps_if (pt_cmpR op_eq (pe_ix ix_tup (pv 1) pe_int (fun _ _ => rfl)) (pe_con1 T.c_SAY (by rfl)) (nomark _))
      (pss_one (ps_ret pe_non))
      pss_nil)
      (pss_one (ps_ret (pe_own (ok_sure_name T) (hr.mono (by decide)) (by rfl) (pa_cons (pv 0) (pa_cons (pe_own (ok_cells_of T) (hr.mono (by decide)) (by rfl) (pa_cons (pv 1) pa_nil)) (pa_cons (pe_own (ok_place_of T) (hr.mono (by decide)) (by rfl) (pa_cons (pv 1) pa_nil)) pa_nil)))))))), ?_⟩
  cases r with
  | num x n => exact ⟨_, rfl, p, _, _, _, rfl, rfl, hs, rfl, rfl, _, rfl, iteT ⟨_, rfl, _, rfl, p, _, _, _, rfl, rfl, hs, rfl, l, as, rs, n, rfl, hl, hw, q H (Same.refl H)⟩⟩
  | say x => exact ⟨_, rfl, p, _, _, _, rfl, rfl, hs, rfl, rfl, _, rfl, iteF ⟨_, rfl, p, _, _, _, rfl, rfl, hs, rfl, rfl, _, rfl, iteT (q H (Same.refl H))⟩⟩
  | read x a c => exact ⟨_, rfl, p, _, _, _, rfl, rfl, hs, rfl, rfl, _, rfl, iteF ⟨_, rfl, p, _, _, _, rfl, rfl, hs, rfl, rfl, _, rfl, iteF ⟨_, rfl, _, rfl, p, _, rfl, hs, _, rfl, p, _, a, rfl, hs, rfl, fun p1 hp1 => ⟨l, p1, as, rs, a, c, rfl, (same_new hp1).seq hl, hw.same (same_new hp1), h16, SqT.of upd_same, fun H' e => q H' ((same_new hp1).trans e)⟩⟩⟩⟩
  | write a c x => exact ⟨_, rfl, p, _, _, _, rfl, rfl, hs, rfl, rfl, _, rfl, iteF ⟨_, rfl, p, _, _, _, rfl, rfl, hs, rfl, rfl, _, rfl, iteF ⟨_, rfl, _, rfl, p, _, rfl, hs, _, rfl, p, _, a, rfl, hs, rfl, fun p1 hp1 => ⟨l, p1, as, rs, a, c, rfl, (same_new hp1).seq hl, hw.same (same_new hp1), h16, SqT.of upd_same, fun H' e => q H' ((same_new hp1).trans e)⟩⟩⟩⟩

def sp_without_known (K : PySem.W.Frag) : Sp := fun vs H Q _ => ∃ (l : Addr) (as : List Addr) (rs : List Cm10.Row), vs = [.ref l] ∧ SqL K H l (as.map V.ref) ∧ Rw K H as rs ∧ rs.length ≤ 16 ∧
  ∀ p bs H', H p = none → Same H H' → H' p = some (.lst (bs.map V.ref)) → Rw K H' bs (Cm10.forward rs [] []) → Q (.ref p) H'
theorem ok_without_known (T : Top K mg ACode ARun) : Kept P w K mg base 5 "without_known" ["rows"] (sp_without_known K) := by
  refine kept_of T.f_without_known sc_without_known
    (fun _ _ _ _ _ _ us hl => match us, hl with | [_], _ => rfl)
    ?_ fun f cdv A outer s H vs Q E hr h => ?_
  · rintro vs H Q E ⟨l, as, rs, rfl, _⟩
    rfl
  obtain ⟨l, as, rs, rfl, hl, hw, h16, q⟩ := h
  refine ⟨_, (pss_cons (ps_set (i := 1) sc_without_known.nd rfl (Or.inl rfl) (pe_lst pa_nil))
      (pss_cons (ps_set (i := 2) sc_without_known.nd rfl (Or.inl rfl) pe_dnewK)
      (pss_cons (ps_for PassesOwn.never rfl (pi_list (pv 0)) (pg_name (i := 3) sc_without_known.nd rfl (Or.inl rfl))
      (pss_cons (ps_set (i := 4) sc_without_known.nd rfl (Or.inl rfl) (pe_own (ok_renamed T) (hr.mono (by decide)) (by rfl) (pa_cons (pv 3) (pa_cons (pv 2) pa_nil))))
        (pss_cons (ps_set (i := 5) sc_without_known.nd rfl (Or.inl rfl) (pe_own (ok_known_name T) (hr.mono (by decide)) (by rfl) (pa_cons (pv 1) (pa_cons (pv 4) pa_nil))))
        (pss_one (ps_if (PW.pt (pw_and (pt_cmpR op_notN (pv 5) pe_non (nomark _)) (pw_and1 (pt_val (pe_own (ok_gives_name T) (hr.mono (by decide)) (by rfl) (pa_cons (pv 3) pa_nil))))))
        (pss_one (ps_dput (hu_of hr) (pv 2) (pe_ix ix_tup (pv 3) pe_int (fun _ _ => rfl)) (pv 5) rfl))
        (pss_one (ps_if (PW.pt (pw_or (pt_cmpR op_isN (pv 5) pe_non (nomark _)) (pw_or1 (pt_cmpR op_ne (pv 5) (pe_own (ok_name_used T) (hr.mono (by decide)) (by rfl) (pa_cons (pv 4) pa_nil)) (nomark _)))))
          (pss_one (ps_expr (pe_bm PySem.F.plainAttrs_list PySem.F.slot_list_append PySem.F.type_list_append mt_append (pv 1) (pa_cons (pv 4) pa_nil))))
          pss_nil)))))))
      (pss_one (ps_ret (pv 1)))))), ?_⟩
  have hlen : (as.map V.ref).length = rs.length := by rw [List.length_map, hw.1]
  refine ⟨Nat.zero_le _, fun pk hpk => ?_⟩
  intro d hd0
  have s1 := same_new (o := .lst []) hpk
  have s2 := s1.trans (same_new (o := .dK []) hd0)
  have hd : H d = none := s1.free hd0
  have ndk : d ≠ pk := fun z => by
    rw [z, upd_same] at hd0
    cases hd0
  refine ⟨_, rfl, l, rfl, ⟨_, s2.seq hl⟩, ?_⟩
  refine for_list (K := K) (a := l) (xs := as.map V.ref) (fun i σ H' => ∃ (kept : List Cm10.Row) (st : Cm10.Stand) (bs : List Addr), Same H H' ∧ H' pk = some (.lst (bs.map V.ref)) ∧ Rw K H' bs kept ∧ kept.length ≤ i ∧ StandAt H' d st i ∧
    Cm10.forward (rs.drop i) kept st = Cm10.forward rs [] [] ∧ ∃ v1 v2 v3 : Option V, σ = [some (.ref l), some (.ref pk), some (.ref d), v1, v2, v3])
    ⟨[], [], [], s2, same_new hd0 _ _ upd_same, Rw.nil, Nat.le_refl _, ⟨[], upd_same, Nat.le_refl _, fun _ => rfl⟩, by rw [List.drop_zero], none, none, none, rfl⟩ (fun i σ H' _ ⟨_, _, _, e, _⟩ => e.seq hl) ?_ ?_
  · rintro i y σ H' hi ⟨kept, st, bs, e, hk, hwk, hkl, hst, hf, v1, v2, v3, rfl⟩
    obtain ⟨b, r, rfl, hr', hs⟩ := (hw.same e).at hi
    have hi' := (List.getElem?_eq_some_iff.mp hr').1
    rw [Srt.drop_at _ _ _ hr', forward_cons] at hf
    refine ⟨_, rfl, _, rfl, b, d, r, st, i, rfl, hs, hst, fun b1 H1 e1 hs1 => ⟨_, rfl, _, rfl, pk, b1, bs, kept, renR st r, rfl, SqL.of (e1 _ _ hk), hwk.same e1, by omega, hs1, fun H2 e2 => ?_⟩⟩
    have e12 := e1.trans e2
    have hk2 := e12 _ _ hk
    have hs2 := sqT_same e12 hs
    have hb2 := sqT_same e2 hs1
    have ss := e.trans e12
    refine ⟨_, rfl, rfl, _, rfl, ?_⟩
    have app : fstep kept st r = (kept ++ [renR st r], st) → ∃ (l' : Addr) (xs : List V) (y : V), V.ref pk = .ref l' ∧ [V.ref b1] = [y] ∧ H2 l' = some (.lst xs) ∧ xs.length < sizeLine ∧ (∃ (kept : List Cm10.Row) (st : Cm10.Stand) (bs : List Addr), Same H (upd H2 l' (.lst (xs ++ [y]))) ∧ (upd H2 l' (.lst (xs ++ [y]))) pk = some (.lst (bs.map V.ref)) ∧ Rw K (upd H2 l' (.lst (xs ++ [y]))) bs kept ∧ kept.length ≤ i + 1 ∧ StandAt (upd H2 l' (.lst (xs ++ [y]))) d st (i + 1) ∧
        Cm10.forward (rs.drop (i + 1)) kept st = Cm10.forward rs [] []) := fun ef => by
      rw [ef] at hf
      refine ⟨pk, _, _, rfl, rfl, hk2, ?_, kept ++ [renR st r], st, bs ++ [b1], fun b' o hb' => ?_, ?_, ?_, ?_, ?_, hf⟩
      · rw [List.length_map, hwk.1]
        exact Nat.lt_of_lt_of_le (m := 17) (by omega) (by decide)
      · rw [upd_ne (ne_of_none hb' hpk)]
        exact ss _ _ hb'
      · rw [upd_same, List.map_append]
        rfl
      · have bt : But H2 (upd H2 pk (.lst (bs.map V.ref ++ [.ref b1]))) pk pk := fun b' o hb' n _ => by
          rw [upd_ne n]
          exact hb'
        have tk : ∀ {c : Addr} {xs : List V}, SqT K H2 c xs → SqT K (upd H2 pk (.lst (bs.map V.ref ++ [.ref b1]))) c xs := fun h => sqT_but bt hk2 hk2 (fun _ z => nomatch z) (fun _ _ z => nomatch z) (fun _ z => nomatch z) (fun _ _ z => nomatch z) h
        have w2 := hwk.same e12
        exact Rw.snoc ⟨w2.1, fun j a r' h1 h2 => tk (w2.2 j a r' h1 h2)⟩ (tk hb2)
      · rw [List.length_append, List.length_singleton]
        omega
      · obtain ⟨kvs, h1, h2, h3⟩ := hst.same e12
        exact ⟨kvs, by rw [upd_ne ndk]; exact h1, by omega, h3⟩
    cases k : knownO kept (renR st r) with
    | none =>
      obtain ⟨l', xs, y', x1, x2, x3, x4, kp, st', bs', y1, y2, y3, y4, y5, y6⟩ := app (by unfold fstep; rw [k])
      exact nF rfl (iteF ⟨_, rfl, rfl, _, rfl, dT rfl (iteT ⟨_, rfl, .inl ⟨rfl, _, SqL.of hk2⟩, _, rfl, l', xs, y', x1, x2, x3, x4, kp, st', bs', y1, y2, y3, y4, y5, y6, _, _, _, rfl⟩)⟩)
    | some y =>
      refine nT (fun z => nomatch z) ⟨_, rfl, b, r, rfl, hs2, _, rfl, ?_⟩
      cases g : r.gives with
      | some x =>
        have ef : fstep kept st r = (kept, (x, y) :: st) := by unfold fstep; rw [k, g]
        rw [ef] at hf
        obtain ⟨kvs, h1, h2, h3⟩ := hst.same e12
        refine iteT ⟨_, rfl, _, rfl, _, rfl, b, _, _, _, rfl, rfl, hs2, gives_at g, d, _, rfl, DPut.k (k := Sum.inl (x : Int)) h1 (Nat.lt_of_lt_of_le (m := 17) (by omega) (by decide)), ?_⟩
        refine ⟨kept, (x, y) :: st, bs, fun b' o hb' => ?_, ?_, ?_, by omega, ⟨_, upd_same, ?_, fun z => ?_⟩, hf, _, _, _, rfl⟩
        · rw [upd_ne (ne_of_none hb' hd)]
          exact ss _ _ hb'
        · rw [upd_ne ndk.symm]
          exact hk2
        · have bt : But H2 (upd H2 d (.dK (putK kvs (Sum.inl (x : Int)) (oV (some y))))) d d := fun b' o hb' n _ => by
            rw [upd_ne n]
            exact hb'
          have w2 := hwk.same e12
          exact ⟨w2.1, fun j a r' g1 g2 => sqT_but bt h1 h1 (fun _ z => nomatch z) (fun _ _ z => nomatch z) (fun _ z => nomatch z) (fun _ _ z => nomatch z) (w2.2 j a r' g1 g2)⟩
        · have := length_putK kvs (Sum.inl (x : Int)) (oV (some y))
          omega
        · rw [valV_put, meant_cons]
          by_cases c : x = z
          · rw [if_pos c, if_pos (by rw [c])]
            rfl
          · rw [if_neg c, if_neg fun t => c (by have := Sum.inl.inj t; omega)]
            exact h3 z
      | none =>
        refine iteF ⟨_, rfl, rfl, _, rfl, dF (fun z => nomatch z) ⟨_, rfl, _, rfl, b1, _, rfl, hb2, scal_oV (some y) _, _, rfl, ?_⟩⟩
        by_cases c : used (renR st r) = some y
        · have ef : fstep kept st r = (kept, st) := by unfold fstep; rw [k, g]; exact if_pos c
          rw [ef] at hf
          refine nF (oV_inj.mpr c.symm) ?_
          exact ⟨kept, st, bs, ss, hk2, hwk.same e12, by omega, ⟨_, (hst.same e12).choose_spec.1, Nat.le_succ_of_le (hst.same e12).choose_spec.2.1, (hst.same e12).choose_spec.2.2⟩, hf, _, _, _, rfl⟩
        · obtain ⟨l', xs, y', x1, x2, x3, x4, kp, st', bs', y1, y2, y3, y4, y5, y6⟩ := app (by unfold fstep; rw [k, g]; exact if_neg c)
          exact nT (fun z => c (oV_inj.mp z).symm) ⟨_, rfl, .inl ⟨rfl, _, SqL.of hk2⟩, _, rfl, l', xs, y', x1, x2, x3, x4, kp, st', bs', y1, y2, y3, y4, y5, y6, _, _, _, rfl⟩
  · rintro σ H' ⟨kept, st, bs, e, hk, hwk, hkl, hst, hf, v1, v2, v3, rfl⟩
    rw [hlen, List.drop_of_length_le (Nat.le_refl _)] at hf
    have hf' : kept = Cm10.forward rs [] [] := hf
    exact ⟨_, rfl, q pk bs H' hpk e hk (hf' ▸ hwk)⟩
end
end Seen
/-! Contracts of smaller.py: what nobody sees goes. -/
namespace Seen
open PySem PySem.Spec PyProof.Rows L2
section
variable {P : Program} {w : World} {K : PySem.W.Frag} {mg : Str → Option Value} {base : Heap} {ACode ARun : Addr}

theorem eqV_oV (o : Option Nat) (x : Nat) : eqV (oV o) (nV x) = decide (o = some x) := by
  cases o with
  | none => rfl
  | some y =>
    show ((y : Int) == (x : Int)) = decide (some y = some x)
    rw [Bool.eq_iff_iff, beq_iff_eq, decide_eq_true_iff, Option.some.injEq]
    omega
theorem inV_used (rs : List Cm10.Row) (x : Nat) : inV (nV x) (rs.map fun r => oV (used r)) = usedIn rs x := by
  unfold inV usedIn
  rw [List.any_map]
  congr 1
  funext r
  exact eqV_oV _ _
theorem flat_used (rs : List Cm10.Row) : (rs.map fun r => oV (used r)).all flatV = true := by
  rw [List.all_eq_true]
  intro v hv
  obtain ⟨r, _, rfl⟩ := List.mem_map.mp hv
  cases used r <;> rfl
def sp_is_name_used (K : PySem.W.Frag) : Sp := fun vs H Q _ => ∃ (x : Nat) (l : Addr) (as : List Addr) (rs : List Cm10.Row), vs = [nV x, .ref l] ∧ SqL K H l (as.map V.ref) ∧ Rw K H as rs ∧ rs.length ≤ 16 ∧ ∀ H', Same H H' → Q (.bl (usedIn rs x)) H'
theorem ok_is_name_used (T : Top K mg ACode ARun) : Kept P w K mg base 2 "is_name_used" ["name", "rows"] (sp_is_name_used K) := by
  refine kept_of T.f_is_name_used sc_is_name_used
    (fun _ _ _ _ _ _ us hl => match us, hl with | [_, _], _ => rfl)
    ?_ fun f cdv A outer s H vs Q E hr h => ?_
  · rintro vs H Q E ⟨x, l, as, rs, rfl, _⟩
    rfl
  obtain ⟨x, l, as, rs, rfl, hl, hw, h16, q⟩ := h
  refine ⟨_, (pss_one (ps_ret (pe_cmpR op_in_seq (pv 0) (pe_lc (own := [("row", 2)]) (g := gName 2) rfl sc_is_name_used.nd (pi_list (pv 1)) (blkOk_by (own := [("row", 2)]) (N := ["name", "rows", "row"]) (sc := defScope s_is_name_used) (by decide +kernel)) (fun _ _ _ _ _ => (pg_name (i := 2) sc_is_name_used.nd rfl (Or.inl rfl))) (fun _ _ _ _ _ => pts_nil) (fun _ _ _ _ _ => (pe_own (ok_name_used T) (hr.mono (by decide)) (by rfl) (pa_cons (pv 2) pa_nil)))) (by rfl)))), ?_⟩
  have hlen : (as.map V.ref).length = rs.length := by rw [List.length_map, hw.1]
  refine ⟨_, rfl, _, rfl, l, rfl, ⟨_, hl⟩, fun D hD => ?_⟩
  refine lc_list (K := K) (a := l) (xs := as.map V.ref) (fun i H' => Same H H' ∧ H' D = some (.lst ((rs.take i).map fun r => oV (used r)))) ⟨same_new hD, by rw [upd_same, List.take_zero]; rfl⟩ (fun i H' _ ⟨e, _⟩ => e.seq hl) ?_ ?_
  · rintro i y H' hi ⟨e, hd⟩
    obtain ⟨b, r, rfl, hr', hs⟩ := (hw.same e).at hi
    have hi' := (List.getElem?_eq_some_iff.mp hr').1
    refine ⟨rfl, ?_⟩
    unfold tYes
    refine iteT ⟨_, rfl, b, r, rfl, hs, _, hd, ?_, fun b' o hb' => ?_, ?_⟩
    · rw [List.length_map, List.length_take]
      exact Nat.lt_of_lt_of_le (m := 17) (by omega) (by decide)
    · rw [upd_ne (ne_of_none hb' hD)]
      exact e _ _ hb'
    · rw [upd_same, take_succ hr', List.map_append]
      rfl
  · rintro H' ⟨e, hd⟩
    rw [hlen, List.take_length] at hd
    refine ⟨D, _, rfl, .inl (SqL.of hd), rfl, flat_used rs, ?_⟩
    have qe : (if false = true then !inV (nV x) (rs.map fun r => oV (used r)) else inV (nV x) (rs.map fun r => oV (used r))) = usedIn rs x := by
      rw [if_neg Bool.false_ne_true]
      exact inV_used rs x
    rw [← qe] at q
    exact q H' e

def sp_is_left (K : PySem.W.Frag) : Sp := fun vs H Q _ => ∃ (p l : Addr) (a : Nat) (c : Cm10.Place) (v : Nat) (as : List Addr) (rs : List Cm10.Row), vs = [.ref p, .ref l] ∧ SqT K H p (encR (.write a c v)) ∧ SqL K H l (as.map V.ref) ∧ Rw K H as rs ∧ rs.length ≤ 16 ∧
  ∀ H', Same H H' → Q (.bl (Cm10.lasts a && !rs.any (wAt a c))) H'
theorem ok_is_left (T : Top K mg ACode ARun) : Kept P w K mg base 3 "is_left" ["row", "behind"] (sp_is_left K) := by
  refine kept_of T.f_is_left sc_is_left
    (fun _ _ _ _ _ _ us hl => match us, hl with | [_, _], _ => rfl)
    ?_ fun f cdv A outer s H vs Q E hr h => ?_
  · rintro vs H Q E ⟨p, l, a, c, v, as, rs, rfl, _⟩
    rfl
  obtain ⟨p, l, a, c, v, as, rs, rfl, hs, hl, hw, h16, q⟩ := h
  refine ⟨_, (pss_one (ps_ret (pe_and (pe_own (ok_is_looked_at T) (hr.mono (by decide)) (by rfl) (pa_cons (pv 0) pa_nil)) (pe_one (pe_not (pe_callB (cr_any rfl) (by rfl) T.b_any (by decide +kernel) (pa_cons (pe_lc (own := [("other", 2)]) (g := gName 2) rfl sc_is_left.nd (pi_list (pv 1)) (blkOk_by (own := [("other", 2)]) (N := ["row", "behind", "other"]) (sc := defScope s_is_left) (by decide +kernel)) (fun _ _ _ _ _ => (pg_name (i := 2) sc_is_left.nd rfl (Or.inl rfl))) (fun _ _ _ _ _ => pts_nil) (fun _ _ _ _ _ => (pe_own (ok_is_write_alike T) (hr.mono (by decide)) (by rfl) (pa_cons (pv 2) (pa_cons (pv 0) pa_nil))))) pa_nil))))))), ?_⟩
  have hlen : (as.map V.ref).length = rs.length := by rw [List.length_map, hw.1]
  refine ⟨_, rfl, p, _, a, rfl, hs, rfl, _, rfl, ?_⟩
  cases k : Cm10.lasts a with
  | false =>
    rw [k] at q
    exact iteF (q H (Same.refl H))
  | true =>
    rw [k, Bool.true_and] at q
    refine iteT ⟨_, rfl, l, rfl, ⟨_, hl⟩, fun D hD => ?_⟩
    refine lc_list (K := K) (a := l) (xs := as.map V.ref) (fun i H' => Same H H' ∧ H' D = some (.lst (((rs.take i).map (wAt a c)).map V.bl))) ⟨same_new hD, by rw [upd_same, List.take_zero]; rfl⟩ (fun i H' _ ⟨e, _⟩ => e.seq hl) ?_ ?_
    · rintro i y H' hi ⟨e, hd⟩
      obtain ⟨b, r, rfl, hr', hs'⟩ := (hw.same e).at hi
      have hi' := (List.getElem?_eq_some_iff.mp hr').1
      refine ⟨rfl, ?_⟩
      unfold tYes
      refine iteT ⟨_, rfl, _, rfl, b, p, r, _, a, rfl, hs', sqT_same e hs, rfl, fun H2 e2 => ⟨_, e2 _ _ hd, ?_, fun b' o hb' => ?_, ?_⟩⟩
      · rw [List.length_map, List.length_map, List.length_take]
        exact Nat.lt_of_lt_of_le (m := 17) (by omega) (by decide)
      · rw [upd_ne (ne_of_none hb' hD)]
        exact e2 _ _ (e _ _ hb')
      · rw [upd_same, take_succ hr', List.map_append, List.map_append]
        rfl
    · rintro H' ⟨e, hd⟩
      rw [hlen, List.take_length] at hd
      refine ⟨D, _, rfl, SqL.of hd, _, rfl, ?_⟩
      have qe : (rs.map (wAt a c)).any id = rs.any (wAt a c) := by
        rw [List.any_map]
        rfl
      rw [← qe] at q
      exact q H' e

theorem readSees_end (a : Nat) (p : Cm10.Place) (pre : List Cm10.Row) : readSees a p pre [] = false := rfl
def sp_is_seen (K : PySem.W.Frag) : Sp := fun vs H Q _ => ∃ (p l : Addr) (a : Nat) (c : Cm10.Place) (v : Nat) (as : List Addr) (rs : List Cm10.Row), vs = [.ref p, .ref l] ∧ SqT K H p (encR (.write a c v)) ∧ H l = some (.lst (as.map V.ref)) ∧ Rw K H as rs ∧ rs.length ≤ 16 ∧
  ∀ H', Same H H' → Q (.bl (readSees a c [] rs)) H'
theorem Rw.cons {H : Hp} {as : List Addr} {rs : List Cm10.Row} {a : Addr} {r : Cm10.Row} (h : Rw K H as rs) (ha : SqT K H a (encR r)) : Rw K H (a :: as) (r :: rs) := by
  refine ⟨by rw [List.length_cons, List.length_cons, h.1], fun i b q x y => ?_⟩
  cases i with
  | zero =>
    cases x
    cases y
    exact ha
  | succ i => exact h.2 i b q x y
theorem ok_is_seen (T : Top K mg ACode ARun) : Kept P w K mg base 4 "is_seen" ["row", "behind"] (sp_is_seen K) := by
  refine kept_of T.f_is_seen sc_is_seen
    (fun _ _ _ _ _ _ us hl => match us, hl with | [_, _], _ => rfl)
    ?_ fun f cdv A outer s H vs Q E hr h => ?_
  · rintro vs H Q E ⟨p, l, a, c, v, as, rs, rfl, _⟩
    rfl
  obtain ⟨p, l, a, c, v, as, rs, rfl, hs, hl, hw, h16, q⟩ := h
  refine ⟨_, (pss_cons (ps_set (i := 2) sc_is_seen.nd rfl (Or.inl rfl) (pe_op op_cat (pe_lst (pa_cons (pv 0) pa_nil)) (pv 1)))
      (pss_cons (ps_for PassesOwn.never rfl (pi_range2 (by rfl) T.b_range (pa_cons pe_int (pa_cons (pe_callB call_len_seq (by rfl) T.b_len (by decide +kernel) (pa_cons (pv 2) pa_nil)) pa_nil))) (pg_name (i := 3) sc_is_seen.nd rfl (Or.inl rfl))
      (pss_one (ps_if (PW.pt (pw_and (pt_cmpR op_eq (pe_ix ix_tup (pe_ix ix_list (pv 2) (pv 3) (fun _ _ => rfl)) pe_int (fun _ _ => rfl)) (pe_con1 T.c_READ (by rfl)) (nomark _)) (pw_and1 (pt_val (pe_own (ok_may_see T) (hr.mono (by decide)) (by rfl) (pa_cons (pv 2) (pa_cons (pv 3) (pa_cons pe_int pa_nil))))))))
        (pss_one (ps_ret pe_bl))
        pss_nil)))
      (pss_one (ps_ret pe_bl)))), ?_⟩
  refine ⟨_, rfl, (by show 1 ≤ sizeLine; decide), fun p1 hp1 => ⟨_, rfl, p1, l, _, _, rfl, rfl, upd_same, same_new hp1 _ _ hl, ?_, fun p2 hp2 => ?_⟩⟩
  · rw [List.length_singleton, List.length_map, hw.1]
    exact Nat.le_trans (m := 17) (by omega) (by decide)
  have s2 := (same_new (o := .lst [.ref p]) hp1).trans (same_new (o := .lst ([.ref p] ++ as.map V.ref)) hp2)
  have hl2 : SqL K (upd (upd H p1 (.lst [.ref p])) p2 (.lst ([.ref p] ++ as.map V.ref))) p2 ((p :: as).map V.ref) := SqL.of upd_same
  generalize upd (upd H p1 (.lst [.ref p])) p2 (.lst ([.ref p] ++ as.map V.ref)) = H2 at s2 hl2 ⊢
  have w2 := (hw.same s2).cons (sqT_same s2 hs)
  have hlen : ((p :: as).map V.ref).length = rs.length + 1 := by rw [List.length_map, List.length_cons, hw.1]
  refine ⟨_, rfl, p2, _, rfl, .inl hl2, 1, _, rfl, ⟨by decide, by decide, ?_, ?_⟩, ?_⟩
  · rw [hlen]
    omega
  · rw [hlen]
    omega
  have en : ((((p :: as).map V.ref).length : Nat) : Int) - 1 = (rs.length : Int) := by
    rw [hlen]
    omega
  rw [en, Int.toNat_natCast]
  refine for_range (lo := 1) (n := rs.length) (fun i σ H' => Same H2 H' ∧ readSees a c (rs.take i) (rs.drop i) = readSees a c [] rs ∧ ∃ u : Option V, σ = [some (.ref p), some (.ref l), some (.ref p2), u])
    ⟨Same.refl _, by rw [List.take_zero, List.drop_zero], none, rfl⟩ ?_ ?_
  · rintro i σ H' hi ⟨e, hrs, u, rfl⟩
    have hri : rs[i]? = some rs[i] := List.getElem?_eq_getElem hi
    generalize rs[i] = r at hri
    have hri2 : (Cm10.Row.write a c v :: rs)[i + 1]? = some r := hri
    obtain ⟨b, hb, hsb⟩ := (w2.same e).get hri2
    have ei : (1 : Int) + (i : Int) = ((i + 1 : Nat) : Int) := by omega
    rw [Srt.drop_at _ _ _ hri] at hrs
    rw [ei]
    have eT : rs.take i ++ [r] = rs.take (i + 1) := (take_succ hri).symm
    have stay : readSees a c (rs.take i ++ [r]) (rs.drop (i + 1)) = readSees a c [] rs → ∀ H3, Same H' H3 → Same H2 H3 ∧ readSees a c (rs.take (i + 1)) (rs.drop (i + 1)) = readSees a c [] rs := fun z H3 e3 => ⟨e.trans e3, by rw [← eT]; exact z⟩
    cases r with
    | num x k =>
      have st := stay hrs H' (Same.refl _)
      exact ⟨_, rfl, _, rfl, p2, _, _, _, rfl, rfl, e.seq hl2, at_ref hb, b, _, _, _, rfl, rfl, hsb, rfl, rfl, _, rfl, iteF (iteF ⟨st.1, st.2, _, rfl⟩)⟩
    | write d p' x =>
      have st := stay hrs H' (Same.refl _)
      exact ⟨_, rfl, _, rfl, p2, _, _, _, rfl, rfl, e.seq hl2, at_ref hb, b, _, _, _, rfl, rfl, hsb, rfl, rfl, _, rfl, iteF (iteF ⟨st.1, st.2, _, rfl⟩)⟩
    | say x =>
      have st := stay hrs H' (Same.refl _)
      exact ⟨_, rfl, _, rfl, p2, _, _, _, rfl, rfl, e.seq hl2, at_ref hb, b, _, _, _, rfl, rfl, hsb, rfl, rfl, _, rfl, iteF (iteF ⟨st.1, st.2, _, rfl⟩)⟩
    | read x d p' =>
      refine ⟨_, rfl, _, rfl, p2, _, _, _, rfl, rfl, e.seq hl2, at_ref hb, b, _, _, _, rfl, rfl, hsb, rfl, rfl, _, rfl, iteT ⟨_, rfl, _, rfl, p2, p :: as, .write a c v :: rs, i + 1, 0, d, .read x d p', .write a c v, rfl, e.seq hl2, w2.same e, hri2, rfl, rfl, fun H3 e3 => ⟨_, rfl, ?_⟩⟩⟩
      have hrs' : ((decide (d = a) && (!Cm10.never c p' && !(rs.take i).any fun s => wAt a c s || wAt a p' s)) || readSees a c (rs.take i ++ [.read x d p']) (rs.drop (i + 1))) = readSees a c [] rs := hrs
      have sb : seesB (.write a c v :: rs) (i + 1) d (placeR (.read x d p')) 0 = (decide (d = a) && (!Cm10.never c p' && !(rs.take i).any fun s => wAt a c s || wAt a p' s)) := by
        show (decide (a = d) && (!Cm10.never c p' && !(((Cm10.Row.write a c v :: rs).take (i + 1)).drop 1).any fun s => wAt d c s || wAt d p' s)) = _
        rw [List.take_succ_cons, List.drop_succ_cons, List.drop_zero]
        by_cases z : d = a
        · rw [z]
        · rw [decide_eq_false z, decide_eq_false fun t => z t.symm]
          rfl
      rw [sb]
      cases k : (decide (d = a) && (!Cm10.never c p' && !(rs.take i).any fun s => wAt a c s || wAt a p' s)) with
      | true =>
        rw [k, Bool.true_or] at hrs'
        rw [← hrs'] at q
        exact iteT (q _ ((s2.trans e).trans e3))
      | false =>
        rw [k, Bool.false_or] at hrs'
        have st := stay hrs' H3 e3
        exact iteF ⟨st.1, st.2, _, rfl⟩
  · rintro σ H' ⟨e, hrs, u, rfl⟩
    rw [List.drop_of_length_le (Nat.le_refl _), readSees_end] at hrs
    rw [← hrs] at q
    exact q _ (s2.trans e)

def sp_is_wanted (K : PySem.W.Frag) : Sp := fun vs H Q _ => ∃ (p l : Addr) (r : Cm10.Row) (as : List Addr) (rs : List Cm10.Row), vs = [.ref p, .ref l] ∧ SqT K H p (encR r) ∧ H l = some (.lst (as.map V.ref)) ∧ Rw K H as rs ∧ rs.length ≤ 16 ∧ ∀ H', Same H H' → Q (.bl (wantedB rs r)) H'
theorem ok_is_wanted (T : Top K mg ACode ARun) : Kept P w K mg base 5 "is_wanted" ["row", "behind"] (sp_is_wanted K) := by
  refine kept_of T.f_is_wanted sc_is_wanted
    (fun _ _ _ _ _ _ us hl => match us, hl with | [_, _], _ => rfl)
    ?_ fun f cdv A outer s H vs Q E hr h => ?_
  · rintro vs H Q E ⟨p, l, r, as, rs, rfl, _⟩
    rfl
  obtain ⟨p, l, r, as, rs, rfl, hs, hl, hw, h16, q⟩ := h
  refine ⟨_, (pss_cons (ps_if (pt_cmpR op_eq (pe_ix ix_tup (pv 0) pe_int (fun _ _ => rfl)) (pe_con1 T.c_SAY (by rfl)) (nomark _))
      (pss_one (ps_ret pe_bl))
      pss_nil)
      (pss_cons (ps_if (pt_cmpR op_eq (pe_ix ix_tup (pv 0) pe_int (fun _ _ => rfl)) (pe_con1 T.c_WRITE (by rfl)) (nomark _))
      (pss_one (ps_ret (pe_or (pe_own (ok_is_seen T) (hr.mono (by decide)) (by rfl) (pa_cons (pv 0) (pa_cons (pv 1) pa_nil))) (pe_one (pe_own (ok_is_left T) (hr.mono (by decide)) (by rfl) (pa_cons (pv 0) (pa_cons (pv 1) pa_nil)))))))
      pss_nil)
      (pss_one (ps_ret (pe_own (ok_is_name_used T) (hr.mono (by decide)) (by rfl) (pa_cons (pe_ix ix_tup (pv 0) pe_int (fun _ _ => rfl)) (pa_cons (pv 1) pa_nil))))))), ?_⟩
  cases r with
  | num x n => exact ⟨_, rfl, p, _, _, _, rfl, rfl, hs, rfl, rfl, _, rfl, iteF ⟨_, rfl, p, _, _, _, rfl, rfl, hs, rfl, rfl, _, rfl, iteF ⟨_, rfl, p, _, _, _, rfl, rfl, hs, rfl, _, rfl, x, l, as, rs, rfl, SqL.of hl, hw, h16, q⟩⟩⟩
  | read x a c => exact ⟨_, rfl, p, _, _, _, rfl, rfl, hs, rfl, rfl, _, rfl, iteF ⟨_, rfl, p, _, _, _, rfl, rfl, hs, rfl, rfl, _, rfl, iteF ⟨_, rfl, p, _, _, _, rfl, rfl, hs, rfl, _, rfl, x, l, as, rs, rfl, SqL.of hl, hw, h16, q⟩⟩⟩
  | say x => exact ⟨_, rfl, p, _, _, _, rfl, rfl, hs, rfl, rfl, _, rfl, iteT (q H (Same.refl H))⟩
  | write a c v =>
    refine ⟨_, rfl, p, _, _, _, rfl, rfl, hs, rfl, rfl, _, rfl, iteF ⟨_, rfl, p, _, _, _, rfl, rfl, hs, rfl, rfl, _, rfl, iteT ⟨_, rfl, _, rfl, p, l, a, c, v, as, rs, rfl, hs, hl, hw, h16, fun H2 e2 => ⟨_, rfl, ?_⟩⟩⟩⟩
    have qe : wantedB rs (.write a c v) = (readSees a c [] rs || (Cm10.lasts a && !rs.any (wAt a c))) := rfl
    rw [qe] at q
    cases k : readSees a c [] rs with
    | true =>
      rw [k, Bool.true_or] at q
      exact iteT (q _ e2)
    | false =>
      rw [k, Bool.false_or] at q
      exact iteF ⟨_, rfl, _, rfl, p, l, a, c, v, as, rs, rfl, sqT_same e2 hs, SqL.of (e2 _ _ hl), hw.same e2, h16, fun H3 e3 => q H3 (e2.trans e3)⟩

def sp_without_unseen (K : PySem.W.Frag) : Sp := fun vs H Q _ => ∃ (l : Addr) (as : List Addr) (rs : List Cm10.Row) (k : Nat), vs = [.ref l] ∧ SqL K H l (as.map V.ref) ∧ Rw K H as rs ∧ rs.length ≤ 16 ∧ Df k rs ∧
  ∀ p bs H', H p = none → Same H H' → H' p = some (.lst (bs.map V.ref)) → Rw K H' bs (Cm10.backward rs.reverse [] []) → Q (.ref p) H'
theorem ok_without_unseen (T : Top K mg ACode ARun) : Kept P w K mg base 6 "without_unseen" ["rows"] (sp_without_unseen K) := by
  refine kept_of T.f_without_unseen sc_without_unseen
    (fun _ _ _ _ _ _ us hl => match us, hl with | [_], _ => rfl)
    ?_ fun f cdv A outer s H vs Q E hr h => ?_
  · rintro vs H Q E ⟨l, as, rs, k, rfl, _⟩
    rfl
  obtain ⟨l, as, rs, kk, rfl, hl, hw, h16, hdf, q⟩ := h
  refine ⟨_, (pss_cons (ps_set (i := 1) sc_without_unseen.nd rfl (Or.inl rfl) (pe_lst pa_nil))
      (pss_cons (ps_for PassesOwn.never rfl (pi_reversed (by rfl) T.b_reversed (pa_cons (pv 0) pa_nil)) (pg_name (i := 2) sc_without_unseen.nd rfl (Or.inl rfl))
      (pss_one (ps_if (pt_val (pe_own (ok_is_wanted T) (hr.mono (by decide)) (by rfl) (pa_cons (pv 2) (pa_cons (pv 1) pa_nil))))
        (pss_one (ps_expr (pe_bm PySem.F.plainAttrs_list PySem.F.slot_list_insert PySem.F.type_list_insert mt_insert (pv 1) (pa_cons pe_int (pa_cons (pv 2) pa_nil)))))
        pss_nil)))
      (pss_one (ps_ret (pv 1))))), ?_⟩
  have hlen : (as.map V.ref).length = rs.length := by rw [List.length_map, hw.1]
  refine ⟨Nat.zero_le _, fun pk hpk => ?_⟩
  have s1 := same_new (o := .lst []) hpk
  refine ⟨_, rfl, l, _, rfl, s1.seq hl, ?_⟩
  refine for_it (walk_rev (K := K) (a := l) (xs := as.map V.ref)) (fun i σ H' => ∃ (kept : List Cm10.Row) (wn : List Nat) (bs : List Addr), Same H H' ∧ H' pk = some (.lst (bs.map V.ref)) ∧ Rw K H' bs kept ∧ kept.length ≤ i ∧ Wants kk kept wn ∧
    Cm10.backward (rs.reverse.drop i) kept wn = Cm10.backward rs.reverse [] [] ∧ ∃ v : Option V, σ = [some (.ref l), some (.ref pk), v])
    ⟨[], [], [], s1, upd_same, Rw.nil, Nat.le_refl _, Wants.start _, by rw [List.drop_zero], none, rfl⟩ (fun i σ H' _ ⟨_, _, _, e, _⟩ => e.seq hl) ?_ ?_
  · rintro i x σ H1 H2 hi ⟨kept, wn, bs, e, hk, hwk, hkl, hwn, hb, v, rfl⟩ ⟨rfl, hx⟩
    obtain ⟨b0, r, rfl, hr', hs⟩ := (hw.same e).at hx
    have hrev : rs.reverse[i]? = some r := by
      rw [List.getElem?_reverse (by omega), ← hlen]
      exact hr'
    have hd := hdf _ r hr'
    rw [Srt.drop_at _ _ _ hrev, backward_cons hwn hd] at hb
    refine ⟨_, rfl, _, rfl, b0, pk, r, bs, kept, rfl, hs, hk, hwk, by omega, fun H3 e3 => ⟨_, rfl, ?_⟩⟩
    cases k : wantedB kept r with
    | false =>
      rw [k, if_neg Bool.false_ne_true] at hb
      exact iteF ⟨kept, wn, bs, e.trans e3, e3 _ _ hk, hwk.same e3, Nat.le_succ_of_le hkl, hwn, hb, _, rfl⟩
    | true =>
      rw [k, if_pos rfl] at hb
      have hk3 := e3 _ _ hk
      refine iteT ⟨_, rfl, .inl ⟨rfl, _, SqL.of hk3⟩, _, rfl, pk, _, 0, _, rfl, rfl, hk3, ?_, (by decide), (by decide), ?_⟩
      · rw [List.length_map, hwk.1]
        exact Nat.lt_of_lt_of_le (m := 17) (by omega) (by decide)
      · have bt : But H3 (upd H3 pk (.lst (.ref b0 :: bs.map V.ref))) pk pk := fun b' o hb' n _ => by
          rw [upd_ne n]
          exact hb'
        have tk : ∀ {c : Addr} {xs : List V}, SqT K H3 c xs → SqT K (upd H3 pk (.lst (.ref b0 :: bs.map V.ref))) c xs := fun h => sqT_but bt hk3 hk3 (fun _ z => nomatch z) (fun _ _ z => nomatch z) (fun _ z => nomatch z) (fun _ _ z => nomatch z) h
        have w3 := hwk.same e3
        refine ⟨r :: kept, r.uses ++ wn, b0 :: bs, fun b' o hb' => ?_, upd_same, Rw.cons ⟨w3.1, fun j a r' g1 g2 => tk (w3.2 j a r' g1 g2)⟩ (tk (sqT_same e3 hs)), by rw [List.length_cons]; omega, hwn.more hd, hb, _, rfl⟩
        rw [upd_ne (ne_of_none hb' hpk)]
        exact e3 _ _ (e _ _ hb')
  · rintro σ H' ⟨kept, wn, bs, e, hk, hwk, hkl, hwn, hb, v, rfl⟩
    rw [hlen, List.drop_of_length_le (by rw [List.length_reverse]; exact Nat.le_refl _)] at hb
    have hb' : kept = Cm10.backward rs.reverse [] [] := hb
    exact ⟨_, rfl, q pk bs H' hpk e hk (hb' ▸ hwk)⟩

def sp_made_smaller (K : PySem.W.Frag) : Sp := fun vs H Q _ => ∃ (l : Addr) (as : List Addr) (s : Cm10.St), vs = [.ref l] ∧ SqL K H l (as.map V.ref) ∧ Rw K H as s.code.rows ∧ Good s ∧
  ∀ p bs H', H p = none → Same H H' → H' p = some (.lst (bs.map V.ref)) → Rw K H' bs (Cm10.better s.code).rows → Q (.ref p) H'
theorem ok_made_smaller (T : Top K mg ACode ARun) : Kept P w K mg base 7 "made_smaller" ["rows"] (sp_made_smaller K) := by
  refine kept_of T.f_made_smaller sc_made_smaller
    (fun _ _ _ _ _ _ us hl => match us, hl with | [_], _ => rfl)
    ?_ fun f cdv A outer s H vs Q E hr h => ?_
  · rintro vs H Q E ⟨l, as, s, rfl, _⟩
    rfl
  obtain ⟨l, as, st, rfl, hl, hw, g, q⟩ := h
  refine ⟨_, (pss_one (ps_ret (pe_own (ok_without_unseen T) (hr.mono (by decide)) (by rfl) (pa_cons (pe_own (ok_without_known T) (hr.mono (by decide)) (by rfl) (pa_cons (pv 0) pa_nil)) pa_nil)))), ?_⟩
  refine ⟨_, rfl, l, as, st.code.rows, rfl, hl, hw, g.rows, fun p bs H1 hp e1 h1 w1 => ?_⟩
  exact ⟨p, bs, _, st.code.args, rfl, SqL.of h1, w1, g.fwd.2, g.fwd.1, fun p2 bs2 H2 hp2 e2 h2 w2 => q p2 bs2 H2 (e1.free hp2) (e1.trans e2) h2 w2⟩
end
end Seen
/-! Contracts of asking.py and of code.py but its loop. -/
namespace Seen
open PySem PySem.Spec PyProof.Rows L2

/-- a new list of these numbers; all else is as it was -/
def Tells (H : Hp) (Q : VK) (ns : List Int) : Prop := ∀ p H', H p = none → Same H H' → H' p = some (.lst (ns.map V.int)) → Q (.ref p) H'
theorem Tells.one {H : Hp} {Q : VK} {z : Int} {p : Addr} (q : Tells H Q [z]) (hp : H p = none) : Q (.ref p) (upd H p (.lst [.int z])) := q p _ hp (same_new hp) upd_same
theorem ints_V (l : List Nat) : (Cm10.ints l).map V.int = l.map nV := by
  unfold Cm10.ints
  rw [List.map_map]
  rfl
theorem placeOf_le {s : Cm10.St} {b : Nat} (c : Nat) (h : b ≤ s.code.args) : Cm10.placeOf s b c = some (plc b c) := by
  cases e : Cm10.placeOf s b c with
  | none => exact absurd h (placeOf_none e)
  | some p => rw [(placeOf_plc e).2]
theorem placeOf_gt {s : Cm10.St} {b : Nat} (c : Nat) (h : ¬ b ≤ s.code.args) : Cm10.placeOf s b c = none := by
  cases e : Cm10.placeOf s b c with
  | none => rfl
  | some p => exact absurd (placeOf_plc e).1 h
theorem plV_plc (b c : Nat) : plV (plc b c) = [nV b, nV c] := by
  have := congrArg (List.map nV) (plc_nums b c)
  exact this

section
variable {P : Program} {w : World} {K : PySem.W.Frag} {mg : Str → Option Value} {base : Heap} {ACode ARun : Addr}

def sp_ask_shows (K : PySem.W.Frag) (C : Addr) : Sp := fun vs H Q _ => ∃ (a l : Addr) (s : Cm10.St), vs = [.ref a] ∧ CodeAt K C H a l s.code ∧ Good s ∧ Tells H Q (Cm10.step s .shows).2
theorem ok_ask_shows (T : Top K mg ACode ARun) : Kept P w K mg base 2 "ask_shows" ["code"] (sp_ask_shows K ACode) := by
  refine kept_of T.f_ask_shows sc_ask_shows
    (fun _ _ _ _ _ _ us hl => match us, hl with | [_], _ => rfl)
    ?_ fun f cdv A outer s H vs Q E hr h => ?_
  · rintro vs H Q E ⟨a, l, s, rfl, _⟩
    rfl
  obtain ⟨a, l, st, rfl, ⟨dx, as, ha, hl, hw⟩, g, q⟩ := h
  refine ⟨_, (pss_one (ps_ret (pe_own (ok_in_numbers T) (hr.mono (by decide)) (by rfl) (pa_cons (pe_fld (pv 0) rfl) (pa_cons (pe_fld (pv 0) rfl) pa_nil))))), ?_⟩
  refine ⟨_, rfl, a, ACode, dx, _, _, rfl, ha, T.cl_Code, T.n_Code_handed, cF_handed _ _, _, rfl, a, ACode, dx, _, _, rfl, ha, T.cl_Code, T.n_Code_rows, cF_rows _ _, st.code.args, l, as, st.code.rows, rfl, SqL.of hl, hw, g.rows, fun p H' hp e h => q p H' hp e ?_⟩
  rw [h, codeV_is]
  rfl

theorem ran_ok {s : Cm10.St} {c : Cm10.Code} {n : Nat} {l : List Nat} (h : l.length = s.code.args) : Cm10.ran s c n l = Cm10.ints (runNums (Cm10.doRows c.rows l (Cm10.firstCells n)).2.2 (Cm10.doRows c.rows l (Cm10.firstCells n)).2.1 (Cm10.written l s.code.rows)) := if_neg fun z => z h
theorem ran_no {s : Cm10.St} {c : Cm10.Code} {n : Nat} {l : List Nat} (h : ¬ l.length = s.code.args) : Cm10.ran s c n l = [-5] := if_pos h
def sp_ask_run (K : PySem.W.Frag) (C : Addr) : Sp := fun vs H Q _ => ∃ (a l wd : Addr) (s : Cm10.St) (n : Nat) (e0 : List Nat), vs = [.ref a, nV n, .ref wd] ∧ CodeAt K C H a l s.code ∧ Good s ∧ H wd = some (.lst (e0.map nV)) ∧ e0.length ≤ 40 ∧ Tells H Q (Cm10.step s (.run n e0)).2
theorem ok_ask_run (T : Top K mg ACode ARun) : Kept P w K mg base 5 "ask_run" ["code", "added", "words"] (sp_ask_run K ACode) := by
  refine kept_of T.f_ask_run sc_ask_run
    (fun _ _ _ _ _ _ us hl => match us, hl with | [_, _, _], _ => rfl)
    ?_ fun f cdv A outer s H vs Q E hr h => ?_
  · rintro vs H Q E ⟨a, l, wd, s, n, e0, rfl, _⟩
    rfl
  obtain ⟨a, l, wd, st, n, e0, rfl, ⟨dx, as, ha, hl, hw⟩, g, hwd, h40, q⟩ := h
  refine ⟨_, (pss_cons (ps_if (pt_cmpR op_ne (pe_callB call_len_seq (by rfl) T.b_len (by decide +kernel) (pa_cons (pv 2) pa_nil)) (pe_fld (pv 0) rfl) (nomark _))
      (pss_one (ps_ret (pe_lst (pa_cons (pe_con1 T.c_OTHER_COUNT_OF_WORDS (by rfl)) pa_nil))))
      pss_nil)
      (pss_one (ps_ret (pe_own (ok_run_told T) (hr.mono (by decide)) (by rfl) (pa_cons (pe_fld (pv 0) rfl) (pa_cons (pe_fld (pv 0) rfl) (pa_cons (pv 1) (pa_cons (pv 2) pa_nil)))))))), ?_⟩
  have q' : Tells H Q (Cm10.ran st st.code n e0) := q
  have el : (e0.map nV).length = e0.length := List.length_map _
  refine ⟨_, rfl, wd, _, rfl, .inl (SqL.of hwd), _, rfl, a, ACode, dx, _, _, rfl, ha, T.cl_Code, T.n_Code_handed, cF_handed _ _, rfl, _, rfl, ?_⟩
  by_cases c : e0.length = st.code.args
  · rw [ran_ok c] at q'
    refine nF (nV_inj.mpr (by rw [el, c])) ⟨_, rfl, a, ACode, dx, _, _, rfl, ha, T.cl_Code, T.n_Code_rows, cF_rows _ _, _, rfl, a, ACode, dx, _, _, rfl, ha, T.cl_Code, T.n_Code_rows, cF_rows _ _, _, rfl, _, rfl,
      l, l, wd, as, as, st.code.rows, st.code.rows, n, e0, rfl, SqL.of hl, hw, g.rows, c ▸ g.df, SqL.of hl, hw, g.rows, c ▸ g.df.places, hwd, h40, fun p H' hp e h => q' p H' hp e ?_⟩
    rw [h, ints_V]
  · rw [ran_no c] at q'
    exact nT (fun z => c (by have := nV_inj.mp z; rw [el] at this; exact this)) ⟨by decide, fun p hp => q'.one hp⟩

def sp_ask_runbetter (K : PySem.W.Frag) (C : Addr) : Sp := fun vs H Q _ => ∃ (a l wd : Addr) (s : Cm10.St) (n : Nat) (e0 : List Nat), vs = [.ref a, nV n, .ref wd] ∧ CodeAt K C H a l s.code ∧ Good s ∧ H wd = some (.lst (e0.map nV)) ∧ e0.length ≤ 40 ∧ Tells H Q (Cm10.step s (.runBetter n e0)).2
theorem ok_ask_runbetter (T : Top K mg ACode ARun) : Kept P w K mg base 8 "ask_runbetter" ["code", "added", "words"] (sp_ask_runbetter K ACode) := by
  refine kept_of T.f_ask_runbetter sc_ask_runbetter
    (fun _ _ _ _ _ _ us hl => match us, hl with | [_, _, _], _ => rfl)
    ?_ fun f cdv A outer s H vs Q E hr h => ?_
  · rintro vs H Q E ⟨a, l, wd, s, n, e0, rfl, _⟩
    rfl
  obtain ⟨a, l, wd, st, n, e0, rfl, ⟨dx, as, ha, hl, hw⟩, g, hwd, h40, q⟩ := h
  refine ⟨_, (pss_cons (ps_if (pt_cmpR op_ne (pe_callB call_len_seq (by rfl) T.b_len (by decide +kernel) (pa_cons (pv 2) pa_nil)) (pe_fld (pv 0) rfl) (nomark _))
      (pss_one (ps_ret (pe_lst (pa_cons (pe_con1 T.c_OTHER_COUNT_OF_WORDS (by rfl)) pa_nil))))
      pss_nil)
      (pss_one (ps_ret (pe_own (ok_run_told T) (hr.mono (by decide)) (by rfl) (pa_cons (pe_own (ok_made_smaller T) (hr.mono (by decide)) (by rfl) (pa_cons (pe_fld (pv 0) rfl) pa_nil)) (pa_cons (pe_fld (pv 0) rfl) (pa_cons (pv 1) (pa_cons (pv 2) pa_nil)))))))), ?_⟩
  have q' : Tells H Q (Cm10.ran st (Cm10.better st.code) n e0) := q
  have el : (e0.map nV).length = e0.length := List.length_map _
  refine ⟨_, rfl, wd, _, rfl, .inl (SqL.of hwd), _, rfl, a, ACode, dx, _, _, rfl, ha, T.cl_Code, T.n_Code_handed, cF_handed _ _, rfl, _, rfl, ?_⟩
  by_cases c : e0.length = st.code.args
  · rw [ran_ok c] at q'
    refine nF (nV_inj.mpr (by rw [el, c])) ⟨_, rfl, a, ACode, dx, _, _, rfl, ha, T.cl_Code, T.n_Code_rows, cF_rows _ _, l, as, st, rfl, SqL.of hl, hw, g, fun pb bs H1 hpb e1 h1 w1 => ?_⟩
    refine ⟨_, rfl, a, ACode, dx, _, _, rfl, e1 _ _ ha, T.cl_Code, T.n_Code_rows, cF_rows _ _, _, rfl, _, rfl,
      pb, l, wd, bs, as, _, st.code.rows, n, e0, rfl, SqL.of h1, w1, g.better.2, c ▸ g.better.1, SqL.of (e1 _ _ hl), hw.same e1, g.rows, c ▸ g.df.places, e1 _ _ hwd, h40, fun p H' hp e h => q' p H' (e1.free hp) (e1.trans e) ?_⟩
    rw [h, ints_V]
  · rw [ran_no c] at q'
    exact nT (fun z => c (by have := nV_inj.mp z; rw [el] at this; exact this)) ⟨by decide, fun p hp => q'.one hp⟩

def sp_ask_better (K : PySem.W.Frag) (C : Addr) : Sp := fun vs H Q _ => ∃ (a l : Addr) (s : Cm10.St), vs = [.ref a] ∧ CodeAt K C H a l s.code ∧ Good s ∧ Tells H Q (Cm10.step s .better).2
theorem ok_ask_better (T : Top K mg ACode ARun) : Kept P w K mg base 8 "ask_better" ["code"] (sp_ask_better K ACode) := by
  refine kept_of T.f_ask_better sc_ask_better
    (fun _ _ _ _ _ _ us hl => match us, hl with | [_], _ => rfl)
    ?_ fun f cdv A outer s H vs Q E hr h => ?_
  · rintro vs H Q E ⟨a, l, s, rfl, _⟩
    rfl
  obtain ⟨a, l, st, rfl, ⟨dx, as, ha, hl, hw⟩, g, q⟩ := h
  refine ⟨_, (pss_one (ps_ret (pe_own (ok_in_numbers T) (hr.mono (by decide)) (by rfl) (pa_cons (pe_fld (pv 0) rfl) (pa_cons (pe_own (ok_made_smaller T) (hr.mono (by decide)) (by rfl) (pa_cons (pe_fld (pv 0) rfl) pa_nil)) pa_nil))))), ?_⟩
  refine ⟨_, rfl, a, ACode, dx, _, _, rfl, ha, T.cl_Code, T.n_Code_handed, cF_handed _ _, _, rfl, a, ACode, dx, _, _, rfl, ha, T.cl_Code, T.n_Code_rows, cF_rows _ _, l, as, st, rfl, SqL.of hl, hw, g, fun pb bs H1 hpb e1 h1 w1 => ?_⟩
  refine ⟨st.code.args, pb, bs, _, rfl, SqL.of h1, w1, g.better.2, fun p H' hp e h => q p H' (e1.free hp) (e1.trans e) ?_⟩
  rw [h]
  have := codeV_is (Cm10.better st.code)
  exact congrArg (fun z => some (HO.lst z)) this

def sp_ask_sees (K : PySem.W.Frag) (C : Addr) : Sp := fun vs H Q _ => ∃ (a l : Addr) (s : Cm10.St) (n : Nat), vs = [.ref a, nV n] ∧ CodeAt K C H a l s.code ∧ Good s ∧ Tells H Q (Cm10.step s (.sees n)).2
theorem ok_ask_sees (T : Top K mg ACode ARun) : Kept P w K mg base 5 "ask_sees" ["code", "reading"] (sp_ask_sees K ACode) := by
  refine kept_of T.f_ask_sees sc_ask_sees
    (fun _ _ _ _ _ _ us hl => match us, hl with | [_, _], _ => rfl)
    ?_ fun f cdv A outer s H vs Q E hr h => ?_
  · rintro vs H Q E ⟨a, l, s, n, rfl, _⟩
    rfl
  obtain ⟨a, l, st, n, rfl, ⟨dx, as, ha, hl, hw⟩, g, q⟩ := h
  refine ⟨_, (pss_cons (ps_if (PW.pt (pw_or (pt_cmpR op_ge (pv 1) (pe_callB call_len_seq (by rfl) T.b_len (by decide +kernel) (pa_cons (pe_fld (pv 0) rfl) pa_nil)) (nomark _)) (pw_or1 (pt_cmpR op_ne (pe_ix ix_tup (pe_ix ix_list (pe_fld (pv 0) rfl) (pv 1) (fun _ _ => rfl)) pe_int (fun _ _ => rfl)) (pe_con1 T.c_READ (by rfl)) (nomark _)))))
      (pss_one (ps_ret (pe_lst (pa_cons (pe_con1 T.c_NO_SUCH_ROW (by rfl)) pa_nil))))
      pss_nil)
      (pss_cons (ps_set (i := 2) sc_ask_sees.nd rfl (Or.inl rfl) (pe_own (ok_writes_seen T) (hr.mono (by decide)) (by rfl) (pa_cons (pe_fld (pv 0) rfl) (pa_cons (pv 1) pa_nil))))
      (pss_one (ps_ret (pe_op op_cat (pe_lst (pa_cons (pe_callTy call_int1 (by rfl) T.b_int (by decide +kernel) (pa_cons (pe_own (ok_may_see_first T) (hr.mono (by decide)) (by rfl) (pa_cons (pe_fld (pv 0) rfl) (pa_cons (pv 1) pa_nil))) pa_nil)) (pa_cons (pe_callB call_len_seq (by rfl) T.b_len (by decide +kernel) (pa_cons (pv 2) pa_nil)) pa_nil))) (pv 2)))))), ?_⟩
  have hlen : (as.map V.ref).length = st.code.rows.length := by rw [List.length_map, hw.1]
  refine ⟨_, rfl, _, rfl, a, ACode, dx, _, _, rfl, ha, T.cl_Code, T.n_Code_rows, cF_rows _ _, l, _, rfl, .inl (SqL.of hl), _, _, rfl, rfl, _, rfl, ?_⟩
  by_cases c : st.code.rows.length ≤ n
  · have e : (Cm10.step st (.sees n)).2 = [-3] := by
      show (match st.code.rows[n]? with
        | some (.read _ a p) => Cm10.ints ((Cm10.mayFirst st.code n a p).toNat :: Cm10.counted (Cm10.maySee st.code n a p))
        | _ => [-3]) = _
      rw [List.getElem?_eq_none c]
    rw [e] at q
    exact dT (by rw [hlen]; omega) (iteT ⟨by decide, fun p hp => q.one hp⟩)
  · have hn : st.code.rows[n]? = some (st.code.rows[n]'(by omega)) := List.getElem?_eq_getElem _
    generalize (st.code.rows[n]'(by omega)) = r at hn
    obtain ⟨b, hb, hsb⟩ := hw.get hn
    refine dF (by rw [hlen]; omega) ⟨_, rfl, a, ACode, dx, _, _, rfl, ha, T.cl_Code, T.n_Code_rows, cF_rows _ _, _, rfl, l, _, _, _, rfl, rfl, SqL.of hl, at_ref hb, ?_⟩
    cases r with
    | num x k =>
      have e : (Cm10.step st (.sees n)).2 = [-3] := by
        show (match st.code.rows[n]? with
          | some (.read _ a p) => Cm10.ints ((Cm10.mayFirst st.code n a p).toNat :: Cm10.counted (Cm10.maySee st.code n a p))
          | _ => [-3]) = _
        rw [hn]
      rw [e] at q
      exact ⟨b, _, _, _, rfl, rfl, hsb, rfl, rfl, _, rfl, iteT ⟨by decide, fun p hp => q.one hp⟩⟩
    | write x k y =>
      have e : (Cm10.step st (.sees n)).2 = [-3] := by
        show (match st.code.rows[n]? with
          | some (.read _ a p) => Cm10.ints ((Cm10.mayFirst st.code n a p).toNat :: Cm10.counted (Cm10.maySee st.code n a p))
          | _ => [-3]) = _
        rw [hn]
      rw [e] at q
      exact ⟨b, _, _, _, rfl, rfl, hsb, rfl, rfl, _, rfl, iteT ⟨by decide, fun p hp => q.one hp⟩⟩
    | say x =>
      have e : (Cm10.step st (.sees n)).2 = [-3] := by
        show (match st.code.rows[n]? with
          | some (.read _ a p) => Cm10.ints ((Cm10.mayFirst st.code n a p).toNat :: Cm10.counted (Cm10.maySee st.code n a p))
          | _ => [-3]) = _
        rw [hn]
      rw [e] at q
      exact ⟨b, _, _, _, rfl, rfl, hsb, rfl, rfl, _, rfl, iteT ⟨by decide, fun p hp => q.one hp⟩⟩
    | read x k pl =>
      have e : (Cm10.step st (.sees n)).2 = Cm10.ints ((Cm10.mayFirst st.code n k pl).toNat :: Cm10.counted (Cm10.maySee st.code n k pl)) := by
        show (match st.code.rows[n]? with
          | some (.read _ a p) => Cm10.ints ((Cm10.mayFirst st.code n a p).toNat :: Cm10.counted (Cm10.maySee st.code n a p))
          | _ => [-3]) = _
        rw [hn]
      rw [e, mayFirst_is, maySee_is st.code n k pl (by omega)] at q
      refine ⟨b, _, _, _, rfl, rfl, hsb, rfl, rfl, _, rfl, iteF ⟨_, rfl, a, ACode, dx, _, _, rfl, ha, T.cl_Code, T.n_Code_rows, cF_rows _ _, _, rfl, l, as, st.code.rows, n, k, _, rfl, SqL.of hl, hw, hn, rfl, g.rows, fun ps H1 hps e1 h1 => ?_⟩⟩
      refine ⟨_, rfl, a, ACode, dx, _, _, rfl, e1 _ _ ha, T.cl_Code, T.n_Code_rows, cF_rows _ _, _, rfl, l, as, st.code.rows, n, k, _, rfl, SqL.of (e1 _ _ hl), hw.same e1, hn, rfl, fun H2 e2 => .inr ⟨_, rfl, ?_⟩⟩
      have h2 := e2 _ _ h1
      refine ⟨_, rfl, ps, _, rfl, .inl (SqL.of h2), (by show 2 ≤ sizeLine; decide), fun p3 hp3 => ⟨_, rfl, p3, ps, _, _, rfl, rfl, upd_same, same_new hp3 _ _ h2, ?_, fun p4 hp4 => ?_⟩⟩
      · refine Nat.le_trans (m := 100) ?_ (by decide)
        have fl := List.length_filter_le (seesB st.code.rows n k pl) (List.range n)
        rw [List.length_range] at fl
        have g16 := g.rows
        simp only [List.length_cons, List.length_nil, List.length_map]
        show 0 + 1 + 1 + ((List.range n).filter (seesB st.code.rows n k pl)).length ≤ 100
        omega
      · refine q p4 _ (e1.free (e2.free ((same_new hp3).free hp4))) (((e1.trans e2).trans (same_new hp3)).trans (same_new hp4)) ?_
        rw [upd_same, ints_V]
        show some (HO.lst (V.int (if (!(st.code.rows.take n).any (wAt k pl)) = true then 1 else 0) :: nV (((List.range n).filter (seesB st.code.rows n k pl)).map nV).length :: ((List.range n).filter (seesB st.code.rows n k pl)).map nV)) = _
        rw [List.length_map]
        have eb : V.int (if (!(st.code.rows.take n).any (wAt k pl)) = true then 1 else 0) = nV (!(st.code.rows.take n).any (wAt k pl)).toNat := by
          cases (!(st.code.rows.take n).any (wAt k pl)) <;> rfl
        rw [eb]
        rfl

def sp_ask_sure (K : PySem.W.Frag) (C : Addr) : Sp := fun vs H Q _ => ∃ (a l : Addr) (s : Cm10.St) (A b c : Nat), vs = [.ref a, nV A, nV b, nV c] ∧ CodeAt K C H a l s.code ∧ Good s ∧ Tells H Q (Cm10.step s (.sure A b c)).2
theorem ok_ask_sure (T : Top K mg ACode ARun) : Kept P w K mg base 4 "ask_sure" ["code", "cells", "base", "number"] (sp_ask_sure K ACode) := by
  refine kept_of T.f_ask_sure sc_ask_sure
    (fun _ _ _ _ _ _ us hl => match us, hl with | [_, _, _, _], _ => rfl)
    ?_ fun f cdv A outer s H vs Q E hr h => ?_
  · rintro vs H Q E ⟨a, l, s, A, b, c, rfl, _⟩
    rfl
  obtain ⟨a, l, st, A', b, c, rfl, hc, g, q⟩ := h
  refine ⟨_, (pss_cons (ps_if (pt_not (pt_val (pe_own (ok_tells_place T) (hr.mono (by decide)) (by rfl) (pa_cons (pv 0) (pa_cons (pv 1) (pa_cons (pv 2) pa_nil))))))
      (pss_one (ps_ret (pe_lst (pa_cons (pe_con1 T.c_NOT_THERE (by rfl)) pa_nil))))
      pss_nil)
      (pss_cons (ps_set (i := 4) sc_ask_sure.nd rfl (Or.inl rfl) (pe_own (ok_sure_name T) (hr.mono (by decide)) (by rfl) (pa_cons (pe_fld (pv 0) rfl) (pa_cons (pv 1) (pa_cons (pe_tup (pa_cons (pv 2) (pa_cons (pv 3) pa_nil))) pa_nil)))))
      (pss_cons (ps_if (pt_cmpR op_isN (pv 4) pe_non (nomark _))
      (pss_one (ps_ret (pe_lst (pa_cons pe_int pa_nil))))
      pss_nil)
      (pss_one (ps_ret (pe_lst (pa_cons pe_int (pa_cons (pv 4) pa_nil)))))))), ?_⟩
  refine ⟨_, rfl, _, rfl, _, rfl, a, l, st.code, A', b, rfl, hc, _, rfl, ?_⟩
  obtain ⟨dx, as, ha, hl, hw⟩ := hc
  have q0 : Tells H Q (match Cm10.placeOf st b c with
    | none => [-2]
    | some p => if 3 < A' then [-2] else match Cm10.sure st.code.rows A' p with
      | some v => Cm10.ints [1, v]
      | none => [0]) := q
  by_cases d : A' < 4 ∧ b ≤ st.code.args
  · rw [decide_eq_true d.1, decide_eq_true d.2]
    rw [placeOf_le c d.2] at q0
    have q1 : Tells H Q (match Cm10.sure st.code.rows A' (plc b c) with
      | some v => Cm10.ints [1, v]
      | none => [0]) := by
      have z : ¬ 3 < A' := by omega
      simp only [if_neg z] at q0
      exact q0
    refine iteF ⟨_, rfl, a, ACode, dx, _, _, rfl, ha, T.cl_Code, T.n_Code_rows, cF_rows _ _, _, rfl, _, rfl, _, rfl, (by show 2 ≤ sizeLine; decide), fun p1 hp1 => ?_⟩
    have s1 := same_new (o := .tup [nV b, nV c]) hp1
    refine ⟨l, p1, as, st.code.rows, A', plc b c, rfl, s1.seq (SqL.of hl), hw.same s1, g.rows, SqT.of (by rw [plV_plc]; exact upd_same), fun H2 e2 => ⟨_, rfl, rfl, _, rfl, ?_⟩⟩
    have s2 := s1.trans e2
    cases k : Cm10.sure st.code.rows A' (plc b c) with
    | none =>
      rw [k] at q1
      exact iteT ⟨by decide, fun p hp => q1 p _ (s2.free hp) (s2.trans (same_new hp)) upd_same⟩
    | some v =>
      rw [k] at q1
      exact iteF ⟨_, rfl, (by show 2 ≤ sizeLine; decide), fun p hp => q1 p _ (s2.free hp) (s2.trans (same_new hp)) upd_same⟩
  · have e : (decide (A' < 4) && decide (b ≤ st.code.args)) = false := by
      rw [← Bool.not_eq_true, Bool.and_eq_true, decide_eq_true_iff, decide_eq_true_iff]
      exact d
    rw [e]
    have q1 : Tells H Q [-2] := by
      by_cases d2 : b ≤ st.code.args
      · rw [placeOf_le c d2] at q0
        have z : 3 < A' := by omega
        simp only [if_pos z] at q0
        exact q0
      · rw [placeOf_gt c d2] at q0
        exact q0
    exact iteT ⟨by decide, fun p hp => q1.one hp⟩

def sp_ask_trade (K : PySem.W.Frag) (C : Addr) : Sp := fun vs H Q _ => ∃ (a l : Addr) (s : Cm10.St) (n : Nat), vs = [.ref a, nV n] ∧ CodeAt K C H a l s.code ∧ Good s ∧ Tells H Q (Cm10.step s (.trade n)).2
theorem ok_ask_trade (T : Top K mg ACode ARun) : Kept P w K mg base 4 "ask_trade" ["code", "at"] (sp_ask_trade K ACode) := by
  refine kept_of T.f_ask_trade sc_ask_trade
    (fun _ _ _ _ _ _ us hl => match us, hl with | [_, _], _ => rfl)
    ?_ fun f cdv A outer s H vs Q E hr h => ?_
  · rintro vs H Q E ⟨a, l, s, n, rfl, _⟩
    rfl
  obtain ⟨a, l, st, n, rfl, ⟨dx, as, ha, hl, hw⟩, g, q⟩ := h
  refine ⟨_, (pss_cons (ps_if (pt_cmpR op_ge (pe_op op_add (pv 1) pe_int) (pe_callB call_len_seq (by rfl) T.b_len (by decide +kernel) (pa_cons (pe_fld (pv 0) rfl) pa_nil)) (nomark _))
      (pss_one (ps_ret (pe_lst (pa_cons (pe_con1 T.c_NO_SUCH_ROW (by rfl)) pa_nil))))
      pss_nil)
      (pss_one (ps_ret (pe_lst (pa_cons (pe_callTy call_int1 (by rfl) T.b_int (by decide +kernel) (pa_cons (pe_own (ok_may_trade T) (hr.mono (by decide)) (by rfl) (pa_cons (pe_ix ix_list (pe_fld (pv 0) rfl) (pv 1) (fun _ _ => rfl)) (pa_cons (pe_ix ix_list (pe_fld (pv 0) rfl) (pe_op op_add (pv 1) pe_int) (fun _ _ => rfl)) pa_nil))) pa_nil)) pa_nil))))), ?_⟩
  have hlen : (as.map V.ref).length = st.code.rows.length := by rw [List.length_map, hw.1]
  have q0 : Tells H Q (match st.code.rows[n]?, st.code.rows[n + 1]? with
    | some x, some y => Cm10.ints [(Cm10.trade x y).toNat]
    | _, _ => [-3]) := q
  refine ⟨_, rfl, _, _, rfl, rfl, _, rfl, a, ACode, dx, _, _, rfl, ha, T.cl_Code, T.n_Code_rows, cF_rows _ _, l, _, rfl, .inl (SqL.of hl), _, _, rfl, rfl, _, rfl, ?_⟩
  by_cases c : st.code.rows.length ≤ n + 1
  · rw [List.getElem?_eq_none (l := st.code.rows) (i := n + 1) c] at q0
    have q1 : Tells H Q [-3] := by
      cases e : st.code.rows[n]? with
      | none =>
        rw [e] at q0
        exact q0
      | some x =>
        rw [e] at q0
        exact q0
    exact dT (by rw [hlen]; omega) ⟨by decide, fun p hp => q1.one hp⟩
  · have hn : st.code.rows[n]? = some (st.code.rows[n]'(by omega)) := List.getElem?_eq_getElem _
    have hn1 : st.code.rows[n + 1]? = some (st.code.rows[n + 1]'(by omega)) := List.getElem?_eq_getElem _
    generalize (st.code.rows[n]'(by omega)) = r at hn
    generalize (st.code.rows[n + 1]'(by omega)) = t at hn1
    obtain ⟨b, hb, hsb⟩ := hw.get hn
    obtain ⟨b1, hb1, hsb1⟩ := hw.get hn1
    rw [hn, hn1] at q0
    have q1 : Tells H Q (Cm10.ints [(Cm10.trade r t).toNat]) := q0
    rw [trade_is (g.df n r hn) (g.df (n + 1) t hn1)] at q1
    have en : ((n : Int) + 1) = ((n + 1 : Nat) : Int) := by omega
    refine dF (by rw [hlen]; omega) ⟨_, rfl, a, ACode, dx, _, _, rfl, ha, T.cl_Code, T.n_Code_rows, cF_rows _ _, _, rfl, l, _, _, _, rfl, rfl, SqL.of hl, at_ref hb, _, rfl, a, ACode, dx, _, _, rfl, ha, T.cl_Code, T.n_Code_rows, cF_rows _ _, _, rfl, _, _, rfl, rfl, l, _, _, _, rfl, rfl, SqL.of hl, (by rw [en]; exact at_ref hb1),
      b, b1, r, t, rfl, hsb, hsb1, fun H2 e2 => .inr ⟨_, rfl, (by show 1 ≤ sizeLine; decide), fun p hp => q1 p _ (e2.free hp) (e2.trans (same_new hp)) ?_⟩⟩
    rw [upd_same, ints_V]
    cases (!needsB r t && (!sayTwoB r t && !clashB r t)) <;> rfl

/-! ### a call, by its number and its numbers -/
def callNo : Cm10.Call → Nat
  | .code _ => 0
  | .num _ => 1
  | .read _ _ _ => 2
  | .write _ _ _ _ => 3
  | .say _ => 4
  | .shows => 5
  | .run _ _ => 6
  | .sees _ => 7
  | .sure _ _ _ => 8
  | .trade _ => 9
  | .better => 10
  | .runBetter _ _ => 11
def callArgs : Cm10.Call → List Nat
  | .code k => [k]
  | .num k => [k]
  | .read a b c => [a, b, c]
  | .write a b c v => [a, b, c, v]
  | .say v => [v]
  | .shows => []
  | .run s l => s :: l.length :: l
  | .sees r => [r]
  | .sure a b c => [a, b, c]
  | .trade r => [r]
  | .better => []
  | .runBetter s l => s :: l.length :: l
def callOk : Cm10.Call → Prop
  | .run _ l => l.length ≤ 40
  | .runBetter _ l => l.length ≤ 40
  | _ => True
theorem After.tells {H : Hp} {a l : Addr} {Q : VK} {c : Cm10.Code} {ns : List Int} (hc : CodeAt K ACode H a l c) (q : After K ACode H a l Q c ns) : Tells H Q ns := fun p H' hp e h => q p H' l (.inl rfl) (hc.same e) (But.of_same e) hp h
def sp_answer_building (K : PySem.W.Frag) (C : Addr) : Sp := fun vs H Q _ => ∃ (a l gv : Addr) (s : Cm10.St) (x : Cm10.Call), vs = [.ref a, nV (callNo x), .ref gv] ∧ CodeAt K C H a l s.code ∧ Good s ∧ SqL K H gv ((callArgs x).map nV) ∧ callNo x ≤ 4 ∧
  After K C H a l Q (Cm10.step s x).1.code (Cm10.step s x).2
theorem ok_answer_building (T : Top K mg ACode ARun) : Kept P w K mg base 5 "answer_building" ["code", "call", "given"] (sp_answer_building K ACode) := by
  refine kept_of T.f_answer_building sc_answer_building
    (fun _ _ _ _ _ _ us hl => match us, hl with | [_, _, _], _ => rfl)
    ?_ fun f cdv A outer s H vs Q E hr h => ?_
  · rintro vs H Q E ⟨a, l, gv, s, x, rfl, _⟩
    rfl
  obtain ⟨a, l, gv, st, x, rfl, hc, g, hg, h4, q⟩ := h
  refine ⟨_, (pss_cons (ps_if (pt_cmpR op_eq (pv 1) (pe_con1 T.c_CALL_CODE (by rfl)) (nomark _))
      (pss_one (ps_ret (pe_own (ok_begin_code T) (hr.mono (by decide)) (by rfl) (pa_cons (pv 0) (pa_cons (pe_ix ix_list (pv 2) pe_int (fun _ _ => rfl)) pa_nil)))))
      pss_nil)
      (pss_cons (ps_if (pt_cmpR op_eq (pv 1) (pe_con1 T.c_CALL_NUM (by rfl)) (nomark _))
      (pss_one (ps_ret (pe_own (ok_put_number T) (hr.mono (by decide)) (by rfl) (pa_cons (pv 0) (pa_cons (pe_ix ix_list (pv 2) pe_int (fun _ _ => rfl)) pa_nil)))))
      pss_nil)
      (pss_cons (ps_if (pt_cmpR op_eq (pv 1) (pe_con1 T.c_CALL_READ (by rfl)) (nomark _))
      (pss_one (ps_ret (pe_own (ok_put_read T) (hr.mono (by decide)) (by rfl) (pa_cons (pv 0) (pa_cons (pe_ix ix_list (pv 2) pe_int (fun _ _ => rfl)) (pa_cons (pe_ix ix_list (pv 2) pe_int (fun _ _ => rfl)) (pa_cons (pe_ix ix_list (pv 2) pe_int (fun _ _ => rfl)) pa_nil)))))))
      pss_nil)
      (pss_cons (ps_if (pt_cmpR op_eq (pv 1) (pe_con1 T.c_CALL_WRITE (by rfl)) (nomark _))
      (pss_one (ps_ret (pe_own (ok_put_write T) (hr.mono (by decide)) (by rfl) (pa_cons (pv 0) (pa_cons (pe_ix ix_list (pv 2) pe_int (fun _ _ => rfl)) (pa_cons (pe_ix ix_list (pv 2) pe_int (fun _ _ => rfl)) (pa_cons (pe_ix ix_list (pv 2) pe_int (fun _ _ => rfl)) (pa_cons (pe_ix ix_list (pv 2) pe_int (fun _ _ => rfl)) pa_nil))))))))
      pss_nil)
      (pss_one (ps_ret (pe_own (ok_put_say T) (hr.mono (by decide)) (by rfl) (pa_cons (pv 0) (pa_cons (pe_ix ix_list (pv 2) pe_int (fun _ _ => rfl)) pa_nil))))))))), ?_⟩
  cases x with
  | code k =>
    have e := step_code st k
    rw [show (Cm10.step st (.code k)).1.code = (begunC st.code k).1 from congrArg Prod.fst e, show (Cm10.step st (.code k)).2 = (begunC st.code k).2 from congrArg Prod.snd e] at q
    exact ⟨_, rfl, rfl, _, rfl, iteT ⟨_, rfl, _, rfl, gv, _, _, _, rfl, rfl, hg, rfl, a, l, st.code, k, rfl, hc, q⟩⟩
  | num k =>
    have e := step_num g k
    rw [show (Cm10.step st (.num k)).1.code = (numC st.code k).1 from congrArg Prod.fst e, show (Cm10.step st (.num k)).2 = (numC st.code k).2 from congrArg Prod.snd e] at q
    exact ⟨_, rfl, rfl, _, rfl, iteF ⟨_, rfl, rfl, _, rfl, iteT ⟨_, rfl, _, rfl, gv, _, _, _, rfl, rfl, hg, rfl, a, l, st.code, k, rfl, hc, q⟩⟩⟩
  | read A' b c =>
    have e := step_read g A' b c
    rw [show (Cm10.step st (.read A' b c)).1.code = (readC st.code A' b c).1 from congrArg Prod.fst e, show (Cm10.step st (.read A' b c)).2 = (readC st.code A' b c).2 from congrArg Prod.snd e] at q
    exact ⟨_, rfl, rfl, _, rfl, iteF ⟨_, rfl, rfl, _, rfl, iteF ⟨_, rfl, rfl, _, rfl, iteT ⟨_, rfl, _, rfl, gv, _, _, _, rfl, rfl, hg, rfl, _, rfl, gv, _, _, _, rfl, rfl, hg, rfl, _, rfl, gv, _, _, _, rfl, rfl, hg, rfl, a, l, st.code, A', b, c, rfl, hc, q⟩⟩⟩⟩
  | write A' b c v =>
    have e := step_write g A' b c v
    rw [show (Cm10.step st (.write A' b c v)).1.code = (writeC st.code A' b c v).1 from congrArg Prod.fst e, show (Cm10.step st (.write A' b c v)).2 = (writeC st.code A' b c v).2 from congrArg Prod.snd e] at q
    exact ⟨_, rfl, rfl, _, rfl, iteF ⟨_, rfl, rfl, _, rfl, iteF ⟨_, rfl, rfl, _, rfl, iteF ⟨_, rfl, rfl, _, rfl, iteT ⟨_, rfl, _, rfl, gv, _, _, _, rfl, rfl, hg, rfl, _, rfl, gv, _, _, _, rfl, rfl, hg, rfl, _, rfl, gv, _, _, _, rfl, rfl, hg, rfl, _, rfl, gv, _, _, _, rfl, rfl, hg, rfl, a, l, st.code, A', b, c, v, rfl, hc, q⟩⟩⟩⟩⟩
  | say v =>
    have e := step_say g v
    rw [show (Cm10.step st (.say v)).1.code = (sayC st.code v).1 from congrArg Prod.fst e, show (Cm10.step st (.say v)).2 = (sayC st.code v).2 from congrArg Prod.snd e] at q
    exact ⟨_, rfl, rfl, _, rfl, iteF ⟨_, rfl, rfl, _, rfl, iteF ⟨_, rfl, rfl, _, rfl, iteF ⟨_, rfl, rfl, _, rfl, iteF ⟨_, rfl, _, rfl, gv, _, _, _, rfl, rfl, hg, rfl, a, l, st.code, v, rfl, hc, q⟩⟩⟩⟩⟩
  | shows => exact absurd (show (5 : Nat) ≤ 4 from h4) (by decide)
  | run _ _ => exact absurd (show (6 : Nat) ≤ 4 from h4) (by decide)
  | sees _ => exact absurd (show (7 : Nat) ≤ 4 from h4) (by decide)
  | sure _ _ _ => exact absurd (show (8 : Nat) ≤ 4 from h4) (by decide)
  | trade _ => exact absurd (show (9 : Nat) ≤ 4 from h4) (by decide)
  | better => exact absurd (show (10 : Nat) ≤ 4 from h4) (by decide)
  | runBetter _ _ => exact absurd (show (11 : Nat) ≤ 4 from h4) (by decide)

def sp_answer_asking (K : PySem.W.Frag) (C : Addr) : Sp := fun vs H Q _ => ∃ (a l gv : Addr) (s : Cm10.St) (x : Cm10.Call), vs = [.ref a, nV (callNo x), .ref gv] ∧ CodeAt K C H a l s.code ∧ Good s ∧ SqL K H gv ((callArgs x).map nV) ∧ ¬ callNo x ≤ 4 ∧ callOk x ∧
  Tells H Q (Cm10.step s x).2
theorem ok_answer_asking (T : Top K mg ACode ARun) : Kept P w K mg base 9 "answer_asking" ["code", "call", "given"] (sp_answer_asking K ACode) := by
  refine kept_of T.f_answer_asking sc_answer_asking
    (fun _ _ _ _ _ _ us hl => match us, hl with | [_, _, _], _ => rfl)
    ?_ fun f cdv A outer s H vs Q E hr h => ?_
  · rintro vs H Q E ⟨a, l, gv, s, x, rfl, _⟩
    rfl
  obtain ⟨a, l, gv, st, x, rfl, hc, g, hg, h4, hok, q⟩ := h
  refine ⟨_, (pss_cons (ps_if (pt_cmpR op_eq (pv 1) (pe_con1 T.c_CALL_SHOWS (by rfl)) (nomark _))
      (pss_one (ps_ret (pe_own (ok_ask_shows T) (hr.mono (by decide)) (by rfl) (pa_cons (pv 0) pa_nil))))
      pss_nil)
      (pss_cons (ps_if (pt_cmpR op_eq (pv 1) (pe_con1 T.c_CALL_RUN (by rfl)) (nomark _))
      (pss_one (ps_ret (pe_own (ok_ask_run T) (hr.mono (by decide)) (by rfl) (pa_cons (pv 0) (pa_cons (pe_ix ix_list (pv 2) pe_int (fun _ _ => rfl)) (pa_cons (pe_slice sl_list (pv 2) (po_some pe_int) po_none) pa_nil))))))
      pss_nil)
      (pss_cons (ps_if (pt_cmpR op_eq (pv 1) (pe_con1 T.c_CALL_SEES (by rfl)) (nomark _))
      (pss_one (ps_ret (pe_own (ok_ask_sees T) (hr.mono (by decide)) (by rfl) (pa_cons (pv 0) (pa_cons (pe_ix ix_list (pv 2) pe_int (fun _ _ => rfl)) pa_nil)))))
      pss_nil)
      (pss_cons (ps_if (pt_cmpR op_eq (pv 1) (pe_con1 T.c_CALL_SURE (by rfl)) (nomark _))
      (pss_one (ps_ret (pe_own (ok_ask_sure T) (hr.mono (by decide)) (by rfl) (pa_cons (pv 0) (pa_cons (pe_ix ix_list (pv 2) pe_int (fun _ _ => rfl)) (pa_cons (pe_ix ix_list (pv 2) pe_int (fun _ _ => rfl)) (pa_cons (pe_ix ix_list (pv 2) pe_int (fun _ _ => rfl)) pa_nil)))))))
      pss_nil)
      (pss_cons (ps_if (pt_cmpR op_eq (pv 1) (pe_con1 T.c_CALL_TRADE (by rfl)) (nomark _))
      (pss_one (ps_ret (pe_own (ok_ask_trade T) (hr.mono (by decide)) (by rfl) (pa_cons (pv 0) (pa_cons (pe_ix ix_list (pv 2) pe_int (fun _ _ => rfl)) pa_nil)))))
      pss_nil)
      (pss_cons (ps_if (pt_cmpR op_eq (pv 1) (pe_con1 T.c_CALL_BETTER (by rfl)) (nomark _))
      (pss_one (ps_ret (pe_own (ok_ask_better T) (hr.mono (by decide)) (by rfl) (pa_cons (pv 0) pa_nil))))
      pss_nil)
      (pss_one (ps_ret (pe_own (ok_ask_runbetter T) (hr.mono (by decide)) (by rfl) (pa_cons (pv 0) (pa_cons (pe_ix ix_list (pv 2) pe_int (fun _ _ => rfl)) (pa_cons (pe_slice sl_list (pv 2) (po_some pe_int) po_none) pa_nil)))))))))))), ?_⟩
  cases x with
  | code _ => exact absurd (show (0 : Nat) ≤ 4 by decide) h4
  | num _ => exact absurd (show (1 : Nat) ≤ 4 by decide) h4
  | read _ _ _ => exact absurd (show (2 : Nat) ≤ 4 by decide) h4
  | write _ _ _ _ => exact absurd (show (3 : Nat) ≤ 4 by decide) h4
  | say _ => exact absurd (show (4 : Nat) ≤ 4 by decide) h4
  | shows => exact ⟨_, rfl, rfl, _, rfl, iteT ⟨_, rfl, a, l, st, rfl, hc, g, q⟩⟩
  | run n e0 =>
    refine ⟨_, rfl, rfl, _, rfl, iteF ⟨_, rfl, rfl, _, rfl, iteT ⟨_, rfl, _, rfl, gv, _, _, _, rfl, rfl, hg, (show atI ((callArgs (.run n e0)).map nV) ((0 : Nat) : Int) = some (nV n) from atI_nat rfl), _, rfl, _, rfl, gv, _, rfl, hg, fun p hp => ?_⟩⟩⟩
    have s1 := same_new (o := .lst (cutV ((callArgs (.run n e0)).map nV) (some 2) none)) hp
    have ec : cutV ((callArgs (.run n e0)).map nV) (some 2) none = e0.map nV := cut_from _ 2
    exact ⟨a, l, p, st, n, e0, rfl, hc.same s1, g, by rw [upd_same, ec], hok, fun p2 H2 hp2 e2 h2 => q p2 H2 (s1.free hp2) (s1.trans e2) h2⟩
  | sees n => exact ⟨_, rfl, rfl, _, rfl, iteF ⟨_, rfl, rfl, _, rfl, iteF ⟨_, rfl, rfl, _, rfl, iteT ⟨_, rfl, _, rfl, gv, _, _, _, rfl, rfl, hg, rfl, a, l, st, n, rfl, hc, g, q⟩⟩⟩⟩
  | sure A' b c => exact ⟨_, rfl, rfl, _, rfl, iteF ⟨_, rfl, rfl, _, rfl, iteF ⟨_, rfl, rfl, _, rfl, iteF ⟨_, rfl, rfl, _, rfl, iteT ⟨_, rfl, _, rfl, gv, _, _, _, rfl, rfl, hg, rfl, _, rfl, gv, _, _, _, rfl, rfl, hg, rfl, _, rfl, gv, _, _, _, rfl, rfl, hg, rfl, a, l, st, A', b, c, rfl, hc, g, q⟩⟩⟩⟩⟩
  | trade n => exact ⟨_, rfl, rfl, _, rfl, iteF ⟨_, rfl, rfl, _, rfl, iteF ⟨_, rfl, rfl, _, rfl, iteF ⟨_, rfl, rfl, _, rfl, iteF ⟨_, rfl, rfl, _, rfl, iteT ⟨_, rfl, _, rfl, gv, _, _, _, rfl, rfl, hg, rfl, a, l, st, n, rfl, hc, g, q⟩⟩⟩⟩⟩⟩
  | better => exact ⟨_, rfl, rfl, _, rfl, iteF ⟨_, rfl, rfl, _, rfl, iteF ⟨_, rfl, rfl, _, rfl, iteF ⟨_, rfl, rfl, _, rfl, iteF ⟨_, rfl, rfl, _, rfl, iteF ⟨_, rfl, rfl, _, rfl, iteT ⟨_, rfl, a, l, st, rfl, hc, g, q⟩⟩⟩⟩⟩⟩⟩
  | runBetter n e0 =>
    refine ⟨_, rfl, rfl, _, rfl, iteF ⟨_, rfl, rfl, _, rfl, iteF ⟨_, rfl, rfl, _, rfl, iteF ⟨_, rfl, rfl, _, rfl, iteF ⟨_, rfl, rfl, _, rfl, iteF ⟨_, rfl, rfl, _, rfl, iteF ⟨_, rfl, _, rfl, gv, _, _, _, rfl, rfl, hg, (show atI ((callArgs (.runBetter n e0)).map nV) ((0 : Nat) : Int) = some (nV n) from atI_nat rfl), _, rfl, _, rfl, gv, _, rfl, hg, fun p hp => ?_⟩⟩⟩⟩⟩⟩⟩
    have s1 := same_new (o := .lst (cutV ((callArgs (.runBetter n e0)).map nV) (some 2) none)) hp
    have ec : cutV ((callArgs (.runBetter n e0)).map nV) (some 2) none = e0.map nV := cut_from _ 2
    exact ⟨a, l, p, st, n, e0, rfl, hc.same s1, g, by rw [upd_same, ec], hok, fun p2 H2 hp2 e2 h2 => q p2 H2 (s1.free hp2) (s1.trans e2) h2⟩

theorem step_keeps {s : Cm10.St} {x : Cm10.Call} (h : ¬ callNo x ≤ 4) : (Cm10.step s x).1 = s := by
  cases x with
  | code _ => exact absurd (show (0 : Nat) ≤ 4 by decide) h
  | num _ => exact absurd (show (1 : Nat) ≤ 4 by decide) h
  | read _ _ _ => exact absurd (show (2 : Nat) ≤ 4 by decide) h
  | write _ _ _ _ => exact absurd (show (3 : Nat) ≤ 4 by decide) h
  | say _ => exact absurd (show (4 : Nat) ≤ 4 by decide) h
  | _ => rfl
def sp_answer_call (K : PySem.W.Frag) (C : Addr) : Sp := fun vs H Q _ => ∃ (a l gv : Addr) (s : Cm10.St) (x : Cm10.Call), vs = [.ref a, nV (callNo x), .ref gv] ∧ CodeAt K C H a l s.code ∧ Good s ∧ SqL K H gv ((callArgs x).map nV) ∧ callOk x ∧
  After K C H a l Q (Cm10.step s x).1.code (Cm10.step s x).2
theorem ok_answer_call (T : Top K mg ACode ARun) : Kept P w K mg base 10 "answer_call" ["code", "call", "given"] (sp_answer_call K ACode) := by
  refine kept_of T.f_answer_call sc_answer_call
    (fun _ _ _ _ _ _ us hl => match us, hl with | [_, _, _], _ => rfl)
    ?_ fun f cdv A outer s H vs Q E hr h => ?_
  · rintro vs H Q E ⟨a, l, gv, s, x, rfl, _⟩
    rfl
  obtain ⟨a, l, gv, st, x, rfl, hc, g, hg, hok, q⟩ := h
  refine ⟨_, (pss_cons (ps_if (pt_cmpR op_le (pv 1) (pe_con1 T.c_CALL_SAY (by rfl)) (nomark _))
      (pss_one (ps_ret (pe_own (ok_answer_building T) (hr.mono (by decide)) (by rfl) (pa_cons (pv 0) (pa_cons (pv 1) (pa_cons (pv 2) pa_nil))))))
      pss_nil)
      (pss_one (ps_ret (pe_own (ok_answer_asking T) (hr.mono (by decide)) (by rfl) (pa_cons (pv 0) (pa_cons (pv 1) (pa_cons (pv 2) pa_nil))))))), ?_⟩
  refine ⟨_, rfl, _, _, rfl, rfl, _, rfl, ?_⟩
  by_cases c : callNo x ≤ 4
  · exact dT (by omega) ⟨_, rfl, _, rfl, _, rfl, a, l, gv, st, x, rfl, hc, g, hg, c, q⟩
  · rw [step_keeps c] at q
    exact dF (by omega) ⟨_, rfl, _, rfl, _, rfl, a, l, gv, st, x, rfl, hc, g, hg, c, hok, q.tells hc⟩
end
end Seen
/-! code.py: a call's numbers taken from the list; the loop over the calls. -/
namespace Seen
open PySem PySem.Spec PyProof.Rows L2

theorem parsed_form {L t : List Int} {x : Cm10.Call} (h : Parsed L x t) : L = (callNo x : Int) :: ((callArgs x).map (fun (n : Nat) => (n : Int)) ++ t) := by
  cases h <;> rfl
theorem parsed_ok {L t : List Int} {x : Cm10.Call} (h : Parsed L x t) : callOk x := by
  cases h with
  | run s l t _ h40 _ => exact h40
  | runBetter s l t _ h40 _ => exact h40
  | _ => trivial
theorem drop_more {ns L : List Int} {i : Nat} {z : Int} (h : ns.drop i = z :: L) : ns[i]? = some z ∧ ns.drop (i + 1) = L := by
  have e1 : (ns.drop i)[0]? = ns[i + 0]? := List.getElem?_drop
  rw [h] at e1
  refine ⟨e1.symm, ?_⟩
  have e2 : (ns.drop i).drop 1 = ns.drop (i + 1) := List.drop_drop
  rw [← e2, h]
  rfl
/-- how many numbers a call has: by the table, and by one of them where words follow -/
theorem counts_of (x : Cm10.Call) : ∃ cn : Nat, atI ([.int 1, .int 1, .int 3, .int 4, .int 1, .int 0, .int 2, .int 1, .int 3, .int 1, .int 0, .int 2] : List V) (callNo x : Int) = some (.int (cn : Int)) ∧
    ((inV (nV (callNo x)) [.int 6, .int 11] = false ∧ (callArgs x).length = cn) ∨ (inV (nV (callNo x)) [.int 6, .int 11] = true ∧ 1 ≤ cn ∧ ∃ m, (callArgs x)[cn - 1]? = some m ∧ (callArgs x).length = cn + m)) := by
  cases x with
  | code k => exact ⟨1, rfl, .inl ⟨rfl, rfl⟩⟩
  | num k => exact ⟨1, rfl, .inl ⟨rfl, rfl⟩⟩
  | read a b c => exact ⟨3, rfl, .inl ⟨rfl, rfl⟩⟩
  | write a b c v => exact ⟨4, rfl, .inl ⟨rfl, rfl⟩⟩
  | say v => exact ⟨1, rfl, .inl ⟨rfl, rfl⟩⟩
  | shows => exact ⟨0, rfl, .inl ⟨rfl, rfl⟩⟩
  | run s l => exact ⟨2, rfl, .inr ⟨rfl, by decide, l.length, rfl, by show l.length + 1 + 1 = _; omega⟩⟩
  | sees r => exact ⟨1, rfl, .inl ⟨rfl, rfl⟩⟩
  | sure a b c => exact ⟨3, rfl, .inl ⟨rfl, rfl⟩⟩
  | trade r => exact ⟨1, rfl, .inl ⟨rfl, rfl⟩⟩
  | better => exact ⟨0, rfl, .inl ⟨rfl, rfl⟩⟩
  | runBetter s l => exact ⟨2, rfl, .inr ⟨rfl, by decide, l.length, rfl, by show l.length + 1 + 1 = _; omega⟩⟩

section
variable {P : Program} {w : World} {K : PySem.W.Frag} {mg : Str → Option Value} {base : Heap} {ACode ARun : Addr}

def sp_arguments_at (K : PySem.W.Frag) : Sp := fun vs H Q _ => ∃ (c : Addr) (ns : List Int) (i : Nat) (x : Cm10.Call) (t : List Int), vs = [.ref c, nV i] ∧ SqL K H c (ns.map V.int) ∧ Parsed (ns.drop i) x t ∧ ∀ p, H p = none → Q (.ref p) (upd H p (.lst ((callArgs x).map nV)))
theorem ok_arguments_at (T : Top K mg ACode ARun) : Kept P w K mg base 1 "arguments_at" ["calls", "at"] (sp_arguments_at K) := by
  refine kept_of T.f_arguments_at sc_arguments_at
    (fun _ _ _ _ _ _ us hl => match us, hl with | [_, _], _ => rfl)
    ?_ fun f cdv A outer s H vs Q E hr h => ?_
  · rintro vs H Q E ⟨c, ns, i, x, t, rfl, _⟩
    rfl
  obtain ⟨c, ns, i, x, t, rfl, hc, hp, q⟩ := h
  refine ⟨_, (pss_cons (ps_set (i := 2) sc_arguments_at.nd rfl (Or.inl rfl) (pe_op op_add (pv 1) pe_int))
      (pss_cons (ps_set (i := 3) sc_arguments_at.nd rfl (Or.inl rfl) (pe_op op_add (pv 2) (pe_ix ix_tup (pe_conT T.c_ARGUMENT_COUNTS (by rfl)) (pe_ix ix_list (pv 0) (pv 1) (fun _ _ => rfl)) (fun _ _ => rfl))))
      (pss_cons (ps_if (pt_cmpR op_in_seq (pe_ix ix_list (pv 0) (pv 1) (fun _ _ => rfl)) (pe_conT T.c_CALLS_WITH_WORDS (by rfl)) (by rfl))
      (pss_one (ps_aug (i := 3) sc_arguments_at.nd rfl (Or.inl rfl) (pe_ix ix_list (pv 0) (pe_op op_sub (pv 3) pe_int) (fun _ _ => rfl)) ip_add))
      pss_nil)
      (pss_one (ps_ret (pe_slice sl_list (pv 0) (po_some (pv 2)) (po_some (pv 3)))))))), ?_⟩
  obtain ⟨z1, z2⟩ := drop_more (parsed_form hp)
  have hat : atI (ns.map V.int) (i : Int) = some (.int (callNo x : Int)) := atI_nat (by rw [List.getElem?_map, z1]; rfl)
  have cut : ∀ n, n = (callArgs x).length → cutV (ns.map V.int) (some ((i : Int) + 1)) (some ((i : Int) + 1 + (n : Int))) = (callArgs x).map nV := fun n hn => by
    rw [show ((i : Int) + 1) = ((i + 1 : Nat) : Int) by omega, show ((i + 1 : Nat) : Int) + (n : Int) = ((i + 1 + n : Nat) : Int) by omega, cut_mid, List.drop_take, ← List.map_drop, z2, List.map_append, List.map_map, show i + 1 + n - (i + 1) = n by omega]
    rw [List.take_left' (by rw [List.length_map, hn])]
    rfl
  obtain ⟨cn, h1, h2⟩ := counts_of x
  refine ⟨_, rfl, _, _, rfl, rfl, _, rfl, fun ac hac => ⟨_, rfl, _, rfl, c, _, _, _, rfl, rfl, hc, hat, ac, _, _, _, rfl, rfl, hac _, h1, _, _, rfl, rfl, ?_⟩⟩
  refine ⟨_, rfl, _, rfl, c, _, _, _, rfl, rfl, hc, hat, fun aw haw => ⟨aw, _, rfl, .inr (haw _), rfl, rfl, _, rfl, ?_⟩⟩
  rcases h2 with ⟨k1, k2⟩ | ⟨k1, k2, m, k3, k4⟩
  · refine bF (by rw [if_neg Bool.false_ne_true]; exact k1) ⟨_, rfl, _, rfl, _, rfl, _, rfl, _, rfl, c, _, rfl, hc, fun p hp' => ?_⟩
    rw [cut cn k2.symm]
    exact q p hp'
  · have hm : atI (ns.map V.int) ((i : Int) + 1 + (cn : Int) - 1) = some (.int (m : Int)) := by
      rw [show ((i : Int) + 1 + (cn : Int) - 1) = ((i + cn : Nat) : Int) by omega]
      refine atI_nat ?_
      have e3 : ns[i + cn]? = (ns.drop (i + 1))[cn - 1]? := by
        rw [List.getElem?_drop, show i + 1 + (cn - 1) = i + cn by omega]
      have lt := (List.getElem?_eq_some_iff.mp k3).1
      rw [List.getElem?_map, e3, z2, List.getElem?_append_left (by rw [List.length_map]; exact lt), List.getElem?_map, k3]
      rfl
    refine bT (by rw [if_neg Bool.false_ne_true]; exact k1) ⟨_, rfl, _, rfl, _, rfl, _, _, rfl, rfl, c, _, _, _, rfl, rfl, hc, hm, _, _, rfl, rfl, _, rfl, _, rfl, _, rfl, _, rfl, _, rfl, c, _, rfl, hc, fun p hp' => ?_⟩
    have e4 : (i : Int) + 1 + (cn : Int) + (m : Int) = (i : Int) + 1 + ((cn + m : Nat) : Int) := by omega
    have e5 : cutV (ns.map V.int) (some ((i : Int) + 1)) (some ((i : Int) + 1 + (cn : Int) + (m : Int))) = (callArgs x).map nV := by rw [e4, cut (cn + m) k4.symm]
    have q5 := q p hp'
    rw [← e5] at q5
    exact q5

theorem CodeAt.off {H : Hp} {a l tl : Addr} {c : Cm10.Code} {xs : List V} {ys : List V} (h : CodeAt K ACode H a l c) (ht : H tl = some (.lst xs)) (n : tl ≠ l) : CodeAt K ACode (upd H tl (.lst ys)) a l c := by
  obtain ⟨dx, as, h1, h2, h3⟩ := h
  have bt : But H (upd H tl (.lst ys)) tl tl := fun b o hb nb _ => by
    rw [upd_ne nb]
    exact hb
  refine ⟨dx, as, ?_, ?_, ⟨h3.1, fun i b r x y => sqT_but bt ht ht (fun _ z => nomatch z) (fun _ _ z => nomatch z) (fun _ z => nomatch z) (fun _ _ z => nomatch z) (h3.2 i b r x y)⟩⟩
  · rw [upd_ne (ne_of h1 ht (fun z => nomatch z))]
    exact h1
  · rw [upd_ne n.symm]
    exact h2
/-- what answers is asked, and what it gives -/
def sp_answers (K : PySem.W.Frag) : Sp := fun vs H Q _ => ∃ (a : Addr) (ns : List Int), vs = [.ref a] ∧ SqL K H a (ns.map V.int) ∧ PyCm10.answers_asked ns = true ∧
  ∀ (H' : Hp) (p : Addr), H' p = some (.lst ((PyCm10.answers ns).map V.int)) → Q (.ref p) H'
theorem answers_fn (T : Top K mg ACode ARun) {fa : Addr} (hfa : mg "answers" = some (.ref fa)) :
    ∃ fd : FuncData, (∀ (s : Shared) (us : List Value), us.length = (["calls"] : List Str).length → BindsTo s fd ⟨us, []⟩ ((["calls"] : List Str).zip us)) ∧ ∀ base : Heap, K.In base → base.Ns mainGlobals mg → FnOk P w K mg base CX0 11 fa fd ["calls"] (sp_answers K) := by
  obtain ⟨f, fd, hm, F⟩ := T.f_answers
  have ef : f = fa := by
    rw [hm] at hfa
    exact Value.ref.inj (Option.some.inj hfa)
  subst ef
  refine ⟨fd, ?_, fun base _ _ => F.ok sc_answers ?_ fun cdv A outer s H vs Q E hr h => ?_⟩
  · obtain ⟨oc, od, kV, doc, pm, an, cdv, ct, osl, rfl, lk, hcd⟩ := F.ex
    exact fun s us hl => BindsTo.of_eq (match us, hl with | [_], _ => rfl)
  · rintro vs H Q E ⟨a, ns, rfl, _⟩
    rfl
  obtain ⟨c, ns, rfl, hcs, hask, q⟩ := h
  refine ⟨_, (pss_cons (ps_set (i := 1) sc_answers.nd rfl (Or.inl rfl) (pe_mk0 (ok_Code_init T) T.cls_Code (hr.mono (by decide)) (by rfl)))
      (pss_cons (ps_set (i := 2) sc_answers.nd rfl (Or.inl rfl) (pe_lst pa_nil))
      (pss_cons (ps_set (i := 3) sc_answers.nd rfl (Or.inl rfl) pe_int)
      (pss_cons (ps_while PassesOwn.never (pt_cmpR op_lt (pv 3) (pe_callB call_len_seq (by rfl) T.b_len (by decide +kernel) (pa_cons (pv 0) pa_nil)) (nomark _))
      (pss_cons (ps_set (i := 4) sc_answers.nd rfl (Or.inl rfl) (pe_own (ok_arguments_at T) (hr.mono (by decide)) (by rfl) (pa_cons (pv 0) (pa_cons (pv 3) pa_nil))))
        (pss_cons (ps_set (i := 5) sc_answers.nd rfl (Or.inl rfl) (pe_own (ok_answer_call T) (hr.mono (by decide)) (by rfl) (pa_cons (pv 1) (pa_cons (pe_ix ix_list (pv 0) (pv 3) (fun _ _ => rfl)) (pa_cons (pv 4) pa_nil)))))
        (pss_cons (ps_expr (pe_bm PySem.F.plainAttrs_list PySem.F.slot_list_append PySem.F.type_list_append mt_append (pv 2) (pa_cons (pe_callB call_len_seq (by rfl) T.b_len (by decide +kernel) (pa_cons (pv 5) pa_nil)) pa_nil)))
        (pss_cons (ps_expr (pe_bm PySem.F.plainAttrs_list PySem.F.slot_list_extend PySem.F.type_list_extend mt_extend (pv 2) (pa_cons (pv 5) pa_nil)))
        (pss_one (ps_aug (i := 3) sc_answers.nd rfl (Or.inl rfl) (pe_op op_add pe_int (pe_callB call_len_seq (by rfl) T.b_len (by decide +kernel) (pa_cons (pv 4) pa_nil))) ip_add)))))))
      (pss_one (ps_ret (pv 2))))))), ?_⟩
  intro x dx nx ndx nex
  refine ⟨x, dx, rfl, upd_same, fun H1 l nl hc1 fr => ⟨rfl, ?_⟩⟩
  have s1 : Same H H1 := Same.made nx ndx fr
  have ol : H l = none := by
    cases e : H l with
    | none => rfl
    | some o =>
      rw [upd_ne (ne_of_none e nx), upd_ne (ne_of_none e ndx), e] at nl
      cases nl
  refine ⟨Nat.zero_le _, fun tl htl => ?_⟩
  have s2 := same_new (o := .lst []) htl
  have otl : H tl = none := s1.free htl
  refine while_by (fun σ H' => ∃ (i : Nat) (st : Cm10.St) (told : List Int) (l : Addr) (v u : Option V), σ = [some (.ref c), some (.ref x), some (.ref tl), some (nV i), v, u] ∧ Same H H' ∧ H l = none ∧ CodeAt K ACode H' x l st.code ∧ Good st ∧
    H' tl = some (.lst (told.map V.int)) ∧ tl ≠ l ∧ Left ns (ns.drop i) st told) (fun σ _ => match σ with
    | [_, _, _, some (.int i), _, _] => ns.length - i.toNat
    | _ => 0) ⟨0, Cm10.init, [], l, none, none, rfl, s1.trans s2, ol, hc1.same s2, Good.init, upd_same, ?_, Left.start hask⟩ ?_ ?_
  · obtain ⟨_, as, _, hl1, _⟩ := hc1
    exact (ne_of_none hl1 htl).symm
  · rintro σ H' ⟨i, st, told, l, v, u, rfl, e, ol, hc, g, ht, ntl, hL⟩
    refine ⟨_, rfl, _, rfl, c, _, rfl, .inl (e.seq hcs), _, _, rfl, rfl, _, rfl, ?_⟩
    have hlen : (ns.map V.int).length = ns.length := List.length_map _
    by_cases ci : i < ns.length
    · have hne : ns.drop i ≠ [] := fun z => by
        have := congrArg List.length z
        rw [List.length_drop, List.length_nil] at this
        omega
      obtain ⟨xc, t, hP, hL'⟩ := hL.next hne
      obtain ⟨z1, z2⟩ := drop_more (parsed_form hP)
      have hat : atI (ns.map V.int) (i : Int) = some (.int (callNo xc : Int)) := atI_nat (by rw [List.getElem?_map, z1]; rfl)
      have short := hL'.short hask
      rw [List.length_append, List.length_cons] at short
      have g' := g.step hP
      refine dT (by rw [hlen]; omega) ⟨_, rfl, _, rfl, c, ns, i, xc, t, rfl, e.seq hcs, hP, fun pg hpg => ?_⟩
      have s3 := same_new (o := .lst ((callArgs xc).map nV)) hpg
      refine ⟨_, rfl, _, rfl, _, rfl, c, _, _, _, rfl, rfl, (e.trans s3).seq hcs, hat, _, rfl, x, l, pg, st, xc, rfl, hc.same s3, g, SqL.of upd_same, parsed_ok hP, fun p H4 l' hl' hc4 bt hp hres => ?_⟩
      have hx3 : ∃ o, upd H' pg (.lst ((callArgs xc).map nV)) x = some o := by
        obtain ⟨dx', as, h1, _⟩ := hc
        exact ⟨_, s3 _ _ h1⟩
      have nxt : tl ≠ x := by
        obtain ⟨dx', as, h1, _⟩ := hc
        exact ne_of ht h1 (fun z => nomatch z)
      have htl4 : H4 tl = some (.lst (told.map V.int)) := bt tl _ (s3 _ _ ht) nxt ntl
      have npx : pg ≠ x := by
        obtain ⟨dx', as, h1, _⟩ := hc
        exact (ne_of_none h1 hpg).symm
      have npl : pg ≠ l := by
        obtain ⟨dx', as, _, h2, _⟩ := hc
        exact (ne_of_none h2 hpg).symm
      have npt : pg ≠ tl := (ne_of_none ht hpg).symm
      have hpg4 : H4 pg = some (.lst ((callArgs xc).map nV)) := bt pg _ upd_same npx npl
      have nptl : p ≠ tl := (ne_of_none (s3 _ _ ht) hp).symm
      have ntl' : tl ≠ l' := by
        rcases hl' with z | z
        · rw [z]
          exact ntl
        · exact ne_of_none (s3 _ _ ht) z
      have ol' : H l' = none := by
        rcases hl' with z | z
        · rw [z]
          exact ol
        · exact (e.trans s3).free z
      have s4 : Same H H4 := fun b o hb => bt b o ((e.trans s3) _ _ hb) (fun z => by rw [z, nx] at hb; cases hb) (fun z => by rw [z, ol] at hb; cases hb)
      refine ⟨_, rfl, .inl ⟨rfl, _, SqL.of htl4⟩, _, rfl, p, _, rfl, .inl (SqL.of hres), tl, _, _, rfl, rfl, htl4, ?_, ?_⟩
      · rw [List.length_map]
        exact Nat.lt_of_le_of_lt (m := 10000000) (by omega) (by decide)
      refine ⟨_, rfl, .inl ⟨rfl, _, SqL.of upd_same⟩, _, rfl, tl, p, _, _, rfl, rfl, upd_same, keepP hres nptl, ?_, ?_⟩
      · rw [List.length_append, List.length_map, List.length_map, List.length_singleton]
        exact Nat.le_trans (m := 10000000) (by omega) (by decide)
      refine ⟨_, rfl, _, rfl, pg, _, rfl, .inl (SqL.of (keepP (keepP hpg4 npt) npt)), _, _, rfl, rfl, _, _, rfl, rfl, ?_⟩
      have ei : (i : Int) + (1 + ((((callArgs xc).map nV).length : Nat) : Int)) = ((i + 1 + (callArgs xc).length : Nat) : Int) := by
        rw [List.length_map]
        omega
      have et : ns.drop (i + 1 + (callArgs xc).length) = t := by
        have e5 : (ns.drop (i + 1)).drop (callArgs xc).length = ns.drop (i + 1 + (callArgs xc).length) := List.drop_drop
        rw [← e5, z2, List.drop_left' (by rw [List.length_map])]
      refine ⟨⟨i + 1 + (callArgs xc).length, (Cm10.step st xc).1, told ++ (((Cm10.step st xc).2.length : Int) :: (Cm10.step st xc).2), l', some (.ref pg), some (.ref p), congrArg (fun z => [some (V.ref c), some (V.ref x), some (V.ref tl), some (V.int z), some (V.ref pg), some (V.ref p)]) ei, fun b o hb => ?_, ol', (hc4.off htl4 ntl').off upd_same ntl', g', ?_, ntl', by rw [et]; exact hL'⟩, ?_⟩
      · have nb : b ≠ tl := fun z => by
          rw [z, otl] at hb
          cases hb
        exact keepP (keepP (s4 _ _ hb) nb) nb
      · rw [upd_same, List.length_map]
        simp only [List.map_append, List.map_cons, List.append_assoc, List.singleton_append, List.cons_append, List.nil_append]
      · show ns.length - ((i : Int) + (1 + ((((callArgs xc).map nV).length : Nat) : Int))).toNat < ns.length - ((i : Nat) : Int).toNat
        rw [ei, Int.toNat_natCast, Int.toNat_natCast]
        omega
    · refine dF (by rw [hlen]; omega) ⟨_, rfl, q H' tl ?_⟩
      rw [List.drop_of_length_le (by omega)] at hL
      rw [hL.done]
      exact ht
  · rintro σ H' Q1 Q2 hq ⟨v1, h1, v2, h2, p1, xs, e1, hs, i1, j1, e2, e3, k1, e4, h⟩
    exact ⟨v1, h1, v2, h2, p1, xs, e1, hs, i1, j1, e2, e3, k1, e4, hq _ _ h⟩
end
end Seen
namespace Seen
open PySem PySem.Spec PyProof.Rows L2
open PySem.W (Codec)
theorem top_mk {K : PySem.W.Frag} {h : Heap} {mg : Str → Option Value} (X : K.In h) (G : h.Ns mainGlobals mg)
    {ACode ARun d_ARGUMENT_COUNTS d_CALLS_WITH_WORDS f_gives_name f_count_names f_name_used f_cells_of f_place_of f_name_at_place f_is_looked_at f_in_numbers f_tells_place f_has_name f_put_row f_begin_code f_put_number f_put_read f_put_write f_put_say f_alike f_never_same f_cell_at f_is_passed_over f_sure_name f_first_word f_word_in f_cell_key f_do_row f_cells_to_tell f_Run_init f_run_told f_is_write_alike f_may_see_first f_may_see f_writes_seen f_renamed f_name_of_number f_known_name f_without_known f_is_name_used f_is_seen f_is_left f_is_wanted f_without_unseen f_made_smaller f_needs_name f_say_two_names f_clash_in_cells f_may_trade f_ask_shows f_ask_run f_ask_sees f_ask_sure f_ask_trade f_ask_better f_ask_runbetter f_arguments_at f_answer_building f_answer_asking f_answer_call f_Code_init f_answers : Addr}
    {t_NUMBER t_READ t_WRITE t_SAY t_FIRST_NOT_LOOKED_AT t_MOST_HANDED t_MOST_ROWS t_ROWS_OF_CELLS t_TOO_MANY_WORDS t_NO_ROOM t_NOT_THERE t_COUNT_OF_WORDS t_WORD_FOR_ROW_OF_CELLS t_WORD_FOR_CELL t_NO_SUCH_ROW t_OTHER_COUNT_OF_WORDS t_CALL_CODE t_CALL_NUM t_CALL_READ t_CALL_WRITE t_CALL_SAY t_CALL_SHOWS t_CALL_RUN t_CALL_SEES t_CALL_SURE t_CALL_TRADE t_CALL_BETTER t_ARGUMENT_COUNTS_0 t_ARGUMENT_COUNTS_1 t_ARGUMENT_COUNTS_2 t_ARGUMENT_COUNTS_3 t_ARGUMENT_COUNTS_4 t_ARGUMENT_COUNTS_5 t_ARGUMENT_COUNTS_6 t_ARGUMENT_COUNTS_7 t_ARGUMENT_COUNTS_8 t_ARGUMENT_COUNTS_9 t_ARGUMENT_COUNTS_10 t_ARGUMENT_COUNTS_11 t_CALLS_WITH_WORDS_0 t_CALLS_WITH_WORDS_1 : PySem.Tok}
    {n_ARGUMENT_COUNTS n_CALLS_WITH_WORDS : Nat}
    {od_ARGUMENT_COUNTS od_CALLS_WITH_WORDS od_gives_name an_gives_name od_count_names an_count_names od_name_used an_name_used od_cells_of an_cells_of od_place_of an_place_of od_name_at_place an_name_at_place od_is_looked_at an_is_looked_at od_in_numbers an_in_numbers od_tells_place an_tells_place od_has_name an_has_name od_put_row an_put_row od_begin_code an_begin_code od_put_number an_put_number od_put_read an_put_read od_put_write an_put_write od_put_say an_put_say od_alike an_alike od_never_same an_never_same od_cell_at an_cell_at od_is_passed_over an_is_passed_over od_sure_name an_sure_name od_first_word an_first_word od_word_in an_word_in od_cell_key an_cell_key od_do_row an_do_row od_cells_to_tell an_cells_to_tell od_Run_init an_Run_init od_run_told an_run_told od_is_write_alike an_is_write_alike od_may_see_first an_may_see_first od_may_see an_may_see od_writes_seen an_writes_seen od_renamed an_renamed od_name_of_number an_name_of_number od_known_name an_known_name od_without_known an_without_known od_is_name_used an_is_name_used od_is_seen an_is_seen od_is_left an_is_left od_is_wanted an_is_wanted od_without_unseen an_without_unseen od_made_smaller an_made_smaller od_needs_name an_needs_name od_say_two_names an_say_two_names od_clash_in_cells an_clash_in_cells od_may_trade an_may_trade od_ask_shows an_ask_shows od_ask_run an_ask_run od_ask_sees an_ask_sees od_ask_sure an_ask_sure od_ask_trade an_ask_trade od_ask_better an_ask_better od_ask_runbetter an_ask_runbetter od_arguments_at an_arguments_at od_answer_building an_answer_building od_answer_asking an_answer_asking od_answer_call an_answer_call od_Code_init an_Code_init od_answers an_answers : Option Addr}
    {sl_ARGUMENT_COUNTS sl_CALLS_WITH_WORDS sl_gives_name sl_count_names sl_name_used sl_cells_of sl_place_of sl_name_at_place sl_is_looked_at sl_in_numbers sl_tells_place sl_has_name sl_put_row sl_begin_code sl_put_number sl_put_read sl_put_write sl_put_say sl_alike sl_never_same sl_cell_at sl_is_passed_over sl_sure_name sl_first_word sl_word_in sl_cell_key sl_do_row sl_cells_to_tell sl_Run_init sl_run_told sl_is_write_alike sl_may_see_first sl_may_see sl_writes_seen sl_renamed sl_name_of_number sl_known_name sl_without_known sl_is_name_used sl_is_seen sl_is_left sl_is_wanted sl_without_unseen sl_made_smaller sl_needs_name sl_say_two_names sl_clash_in_cells sl_may_trade sl_ask_shows sl_ask_run sl_ask_sees sl_ask_sure sl_ask_trade sl_ask_better sl_ask_runbetter sl_arguments_at sl_answer_building sl_answer_asking sl_answer_call sl_Code_init sl_answers : Array (Option Value)}
    {oc_gives_name kV_gives_name dc_gives_name pm_gives_name cd_gives_name ct_gives_name oc_count_names kV_count_names dc_count_names pm_count_names cd_count_names ct_count_names oc_name_used kV_name_used dc_name_used pm_name_used cd_name_used ct_name_used oc_cells_of kV_cells_of dc_cells_of pm_cells_of cd_cells_of ct_cells_of oc_place_of kV_place_of dc_place_of pm_place_of cd_place_of ct_place_of oc_name_at_place kV_name_at_place dc_name_at_place pm_name_at_place cd_name_at_place ct_name_at_place oc_is_looked_at kV_is_looked_at dc_is_looked_at pm_is_looked_at cd_is_looked_at ct_is_looked_at oc_in_numbers kV_in_numbers dc_in_numbers pm_in_numbers cd_in_numbers ct_in_numbers oc_tells_place kV_tells_place dc_tells_place pm_tells_place cd_tells_place ct_tells_place oc_has_name kV_has_name dc_has_name pm_has_name cd_has_name ct_has_name oc_put_row kV_put_row dc_put_row pm_put_row cd_put_row ct_put_row oc_begin_code kV_begin_code dc_begin_code pm_begin_code cd_begin_code ct_begin_code oc_put_number kV_put_number dc_put_number pm_put_number cd_put_number ct_put_number oc_put_read kV_put_read dc_put_read pm_put_read cd_put_read ct_put_read oc_put_write kV_put_write dc_put_write pm_put_write cd_put_write ct_put_write oc_put_say kV_put_say dc_put_say pm_put_say cd_put_say ct_put_say oc_alike kV_alike dc_alike pm_alike cd_alike ct_alike oc_never_same kV_never_same dc_never_same pm_never_same cd_never_same ct_never_same oc_cell_at kV_cell_at dc_cell_at pm_cell_at cd_cell_at ct_cell_at oc_is_passed_over kV_is_passed_over dc_is_passed_over pm_is_passed_over cd_is_passed_over ct_is_passed_over oc_sure_name kV_sure_name dc_sure_name pm_sure_name cd_sure_name ct_sure_name oc_first_word kV_first_word dc_first_word pm_first_word cd_first_word ct_first_word oc_word_in kV_word_in dc_word_in pm_word_in cd_word_in ct_word_in oc_cell_key kV_cell_key dc_cell_key pm_cell_key cd_cell_key ct_cell_key oc_do_row kV_do_row dc_do_row pm_do_row cd_do_row ct_do_row oc_cells_to_tell kV_cells_to_tell dc_cells_to_tell pm_cells_to_tell cd_cells_to_tell ct_cells_to_tell oc_Run_init kV_Run_init dc_Run_init pm_Run_init cd_Run_init ct_Run_init oc_run_told kV_run_told dc_run_told pm_run_told cd_run_told ct_run_told oc_is_write_alike kV_is_write_alike dc_is_write_alike pm_is_write_alike cd_is_write_alike ct_is_write_alike oc_may_see_first kV_may_see_first dc_may_see_first pm_may_see_first cd_may_see_first ct_may_see_first oc_may_see kV_may_see dc_may_see pm_may_see cd_may_see ct_may_see oc_writes_seen kV_writes_seen dc_writes_seen pm_writes_seen cd_writes_seen ct_writes_seen oc_renamed kV_renamed dc_renamed pm_renamed cd_renamed ct_renamed oc_name_of_number kV_name_of_number dc_name_of_number pm_name_of_number cd_name_of_number ct_name_of_number oc_known_name kV_known_name dc_known_name pm_known_name cd_known_name ct_known_name oc_without_known kV_without_known dc_without_known pm_without_known cd_without_known ct_without_known oc_is_name_used kV_is_name_used dc_is_name_used pm_is_name_used cd_is_name_used ct_is_name_used oc_is_seen kV_is_seen dc_is_seen pm_is_seen cd_is_seen ct_is_seen oc_is_left kV_is_left dc_is_left pm_is_left cd_is_left ct_is_left oc_is_wanted kV_is_wanted dc_is_wanted pm_is_wanted cd_is_wanted ct_is_wanted oc_without_unseen kV_without_unseen dc_without_unseen pm_without_unseen cd_without_unseen ct_without_unseen oc_made_smaller kV_made_smaller dc_made_smaller pm_made_smaller cd_made_smaller ct_made_smaller oc_needs_name kV_needs_name dc_needs_name pm_needs_name cd_needs_name ct_needs_name oc_say_two_names kV_say_two_names dc_say_two_names pm_say_two_names cd_say_two_names ct_say_two_names oc_clash_in_cells kV_clash_in_cells dc_clash_in_cells pm_clash_in_cells cd_clash_in_cells ct_clash_in_cells oc_may_trade kV_may_trade dc_may_trade pm_may_trade cd_may_trade ct_may_trade oc_ask_shows kV_ask_shows dc_ask_shows pm_ask_shows cd_ask_shows ct_ask_shows oc_ask_run kV_ask_run dc_ask_run pm_ask_run cd_ask_run ct_ask_run oc_ask_sees kV_ask_sees dc_ask_sees pm_ask_sees cd_ask_sees ct_ask_sees oc_ask_sure kV_ask_sure dc_ask_sure pm_ask_sure cd_ask_sure ct_ask_sure oc_ask_trade kV_ask_trade dc_ask_trade pm_ask_trade cd_ask_trade ct_ask_trade oc_ask_better kV_ask_better dc_ask_better pm_ask_better cd_ask_better ct_ask_better oc_ask_runbetter kV_ask_runbetter dc_ask_runbetter pm_ask_runbetter cd_ask_runbetter ct_ask_runbetter oc_arguments_at kV_arguments_at dc_arguments_at pm_arguments_at cd_arguments_at ct_arguments_at oc_answer_building kV_answer_building dc_answer_building pm_answer_building cd_answer_building ct_answer_building oc_answer_asking kV_answer_asking dc_answer_asking pm_answer_asking cd_answer_asking ct_answer_asking oc_answer_call kV_answer_call dc_answer_call pm_answer_call cd_answer_call ct_answer_call oc_Code_init kV_Code_init dc_Code_init pm_Code_init cd_Code_init ct_Code_init oc_answers kV_answers dc_answers pm_answers cd_answers ct_answers : Value}
    (q_a_Code : PySem.W.nsIn K mainGlobals "Code" = some (some (.ref ACode)))
    (q_pg_Code : PySem.W.plainGet K ACode Str.empty = true)
    (q_hd_Code : PySem.W.hasDictIn K ACode = true)
    (q_po_Code : PySem.W.plainOver K ACode = true)
    (q_sa_Code : PySem.W.findIn K (.ref ACode) "__setattr__" = some (some (.builtin "object.__setattr__")))
    (q_mk_Code : PySem.W.makesIn K ACode = true)
    (q_kc_Code : PySem.W.keepIn K (.ref ACode) = true)
    (q_n_Code_handed : PySem.W.findIn K (.ref ACode) "handed" = some none)
    (q_n_Code_rows : PySem.W.findIn K (.ref ACode) "rows" = some none)
    (q_a_Run : PySem.W.nsIn K mainGlobals "Run" = some (some (.ref ARun)))
    (q_pg_Run : PySem.W.plainGet K ARun Str.empty = true)
    (q_hd_Run : PySem.W.hasDictIn K ARun = true)
    (q_po_Run : PySem.W.plainOver K ARun = true)
    (q_sa_Run : PySem.W.findIn K (.ref ARun) "__setattr__" = some (some (.builtin "object.__setattr__")))
    (q_mk_Run : PySem.W.makesIn K ARun = true)
    (q_kc_Run : PySem.W.keepIn K (.ref ARun) = true)
    (q_n_Run_added : PySem.W.findIn K (.ref ARun) "added" = some none)
    (q_n_Run_named : PySem.W.findIn K (.ref ARun) "named" = some none)
    (q_n_Run_said : PySem.W.findIn K (.ref ARun) "said" = some none)
    (q_n_Run_words : PySem.W.findIn K (.ref ARun) "words" = some none)
    (q_n_Run_written : PySem.W.findIn K (.ref ARun) "written" = some none)
    (q_b_len : PySem.W.nsIn K mainGlobals "len" = some none)
    (q_b_reversed : PySem.W.nsIn K mainGlobals "reversed" = some none)
    (q_b_sorted : PySem.W.nsIn K mainGlobals "sorted" = some none)
    (q_b_range : PySem.W.nsIn K mainGlobals "range" = some none)
    (q_b_any : PySem.W.nsIn K mainGlobals "any" = some none)
    (q_b_int : PySem.W.nsIn K mainGlobals "int" = some none)
    (q_b_dict : PySem.W.nsIn K mainGlobals "dict" = some none)
    (q_b_enumerate : PySem.W.nsIn K mainGlobals "enumerate" = some none)
    (q_c_NUMBER : PySem.W.nsIn K mainGlobals "NUMBER" = some (some (.int 0 t_NUMBER)))
    (q_c_READ : PySem.W.nsIn K mainGlobals "READ" = some (some (.int 1 t_READ)))
    (q_c_WRITE : PySem.W.nsIn K mainGlobals "WRITE" = some (some (.int 2 t_WRITE)))
    (q_c_SAY : PySem.W.nsIn K mainGlobals "SAY" = some (some (.int 3 t_SAY)))
    (q_c_FIRST_NOT_LOOKED_AT : PySem.W.nsIn K mainGlobals "FIRST_NOT_LOOKED_AT" = some (some (.int 2 t_FIRST_NOT_LOOKED_AT)))
    (q_c_MOST_HANDED : PySem.W.nsIn K mainGlobals "MOST_HANDED" = some (some (.int 4 t_MOST_HANDED)))
    (q_c_MOST_ROWS : PySem.W.nsIn K mainGlobals "MOST_ROWS" = some (some (.int 16 t_MOST_ROWS)))
    (q_c_ROWS_OF_CELLS : PySem.W.nsIn K mainGlobals "ROWS_OF_CELLS" = some (some (.int 4 t_ROWS_OF_CELLS)))
    (q_c_TOO_MANY_WORDS : PySem.W.nsIn K mainGlobals "TOO_MANY_WORDS" = some (some (.int (-1) t_TOO_MANY_WORDS)))
    (q_c_NO_ROOM : PySem.W.nsIn K mainGlobals "NO_ROOM" = some (some (.int (-1) t_NO_ROOM)))
    (q_c_NOT_THERE : PySem.W.nsIn K mainGlobals "NOT_THERE" = some (some (.int (-2) t_NOT_THERE)))
    (q_c_COUNT_OF_WORDS : PySem.W.nsIn K mainGlobals "COUNT_OF_WORDS" = some (some (.int 4294967296 t_COUNT_OF_WORDS)))
    (q_c_WORD_FOR_ROW_OF_CELLS : PySem.W.nsIn K mainGlobals "WORD_FOR_ROW_OF_CELLS" = some (some (.int 1000003 t_WORD_FOR_ROW_OF_CELLS)))
    (q_c_WORD_FOR_CELL : PySem.W.nsIn K mainGlobals "WORD_FOR_CELL" = some (some (.int 7919 t_WORD_FOR_CELL)))
    (q_c_NO_SUCH_ROW : PySem.W.nsIn K mainGlobals "NO_SUCH_ROW" = some (some (.int (-3) t_NO_SUCH_ROW)))
    (q_c_OTHER_COUNT_OF_WORDS : PySem.W.nsIn K mainGlobals "OTHER_COUNT_OF_WORDS" = some (some (.int (-5) t_OTHER_COUNT_OF_WORDS)))
    (q_c_CALL_CODE : PySem.W.nsIn K mainGlobals "CALL_CODE" = some (some (.int 0 t_CALL_CODE)))
    (q_c_CALL_NUM : PySem.W.nsIn K mainGlobals "CALL_NUM" = some (some (.int 1 t_CALL_NUM)))
    (q_c_CALL_READ : PySem.W.nsIn K mainGlobals "CALL_READ" = some (some (.int 2 t_CALL_READ)))
    (q_c_CALL_WRITE : PySem.W.nsIn K mainGlobals "CALL_WRITE" = some (some (.int 3 t_CALL_WRITE)))
    (q_c_CALL_SAY : PySem.W.nsIn K mainGlobals "CALL_SAY" = some (some (.int 4 t_CALL_SAY)))
    (q_c_CALL_SHOWS : PySem.W.nsIn K mainGlobals "CALL_SHOWS" = some (some (.int 5 t_CALL_SHOWS)))
    (q_c_CALL_RUN : PySem.W.nsIn K mainGlobals "CALL_RUN" = some (some (.int 6 t_CALL_RUN)))
    (q_c_CALL_SEES : PySem.W.nsIn K mainGlobals "CALL_SEES" = some (some (.int 7 t_CALL_SEES)))
    (q_c_CALL_SURE : PySem.W.nsIn K mainGlobals "CALL_SURE" = some (some (.int 8 t_CALL_SURE)))
    (q_c_CALL_TRADE : PySem.W.nsIn K mainGlobals "CALL_TRADE" = some (some (.int 9 t_CALL_TRADE)))
    (q_c_CALL_BETTER : PySem.W.nsIn K mainGlobals "CALL_BETTER" = some (some (.int 10 t_CALL_BETTER)))
    (q_c_ARGUMENT_COUNTS : PySem.W.nsIn K mainGlobals "ARGUMENT_COUNTS" = some (some (.ref d_ARGUMENT_COUNTS)))
    (q_l_ARGUMENT_COUNTS : K.lookup d_ARGUMENT_COUNTS = some ⟨.type "tuple", od_ARGUMENT_COUNTS, .seq #[Value.int 1 t_ARGUMENT_COUNTS_0, Value.int 1 t_ARGUMENT_COUNTS_1, Value.int 3 t_ARGUMENT_COUNTS_2, Value.int 4 t_ARGUMENT_COUNTS_3, Value.int 1 t_ARGUMENT_COUNTS_4, Value.int 0 t_ARGUMENT_COUNTS_5, Value.int 2 t_ARGUMENT_COUNTS_6, Value.int 1 t_ARGUMENT_COUNTS_7, Value.int 3 t_ARGUMENT_COUNTS_8, Value.int 1 t_ARGUMENT_COUNTS_9, Value.int 0 t_ARGUMENT_COUNTS_10, Value.int 2 t_ARGUMENT_COUNTS_11] n_ARGUMENT_COUNTS, sl_ARGUMENT_COUNTS⟩)
    (q_c_CALLS_WITH_WORDS : PySem.W.nsIn K mainGlobals "CALLS_WITH_WORDS" = some (some (.ref d_CALLS_WITH_WORDS)))
    (q_l_CALLS_WITH_WORDS : K.lookup d_CALLS_WITH_WORDS = some ⟨.type "tuple", od_CALLS_WITH_WORDS, .seq #[Value.int 6 t_CALLS_WITH_WORDS_0, Value.int 11 t_CALLS_WITH_WORDS_1] n_CALLS_WITH_WORDS, sl_CALLS_WITH_WORDS⟩)
    (q_a_gives_name : PySem.W.nsIn K mainGlobals "gives_name" = some (some (.ref f_gives_name)))
    (q_l_gives_name : K.lookup f_gives_name = some ⟨oc_gives_name, od_gives_name, .func (PySem.W.fnOf "gives_name" "gives_name" (defArgs s_gives_name) (defBody s_gives_name) (defScope s_gives_name) .none kV_gives_name dc_gives_name pm_gives_name an_gives_name cd_gives_name ct_gives_name), sl_gives_name⟩)
    (q_c_gives_name : PySem.W.codeIn K cd_gives_name "gives_name" = true)
    (q_k_gives_name : PySem.W.keepIn K (.ref f_gives_name) = true)
    (q_a_count_names : PySem.W.nsIn K mainGlobals "count_names" = some (some (.ref f_count_names)))
    (q_l_count_names : K.lookup f_count_names = some ⟨oc_count_names, od_count_names, .func (PySem.W.fnOf "count_names" "count_names" (defArgs s_count_names) (defBody s_count_names) (defScope s_count_names) .none kV_count_names dc_count_names pm_count_names an_count_names cd_count_names ct_count_names), sl_count_names⟩)
    (q_c_count_names : PySem.W.codeIn K cd_count_names "count_names" = true)
    (q_k_count_names : PySem.W.keepIn K (.ref f_count_names) = true)
    (q_a_name_used : PySem.W.nsIn K mainGlobals "name_used" = some (some (.ref f_name_used)))
    (q_l_name_used : K.lookup f_name_used = some ⟨oc_name_used, od_name_used, .func (PySem.W.fnOf "name_used" "name_used" (defArgs s_name_used) (defBody s_name_used) (defScope s_name_used) .none kV_name_used dc_name_used pm_name_used an_name_used cd_name_used ct_name_used), sl_name_used⟩)
    (q_c_name_used : PySem.W.codeIn K cd_name_used "name_used" = true)
    (q_k_name_used : PySem.W.keepIn K (.ref f_name_used) = true)
    (q_a_cells_of : PySem.W.nsIn K mainGlobals "cells_of" = some (some (.ref f_cells_of)))
    (q_l_cells_of : K.lookup f_cells_of = some ⟨oc_cells_of, od_cells_of, .func (PySem.W.fnOf "cells_of" "cells_of" (defArgs s_cells_of) (defBody s_cells_of) (defScope s_cells_of) .none kV_cells_of dc_cells_of pm_cells_of an_cells_of cd_cells_of ct_cells_of), sl_cells_of⟩)
    (q_c_cells_of : PySem.W.codeIn K cd_cells_of "cells_of" = true)
    (q_k_cells_of : PySem.W.keepIn K (.ref f_cells_of) = true)
    (q_a_place_of : PySem.W.nsIn K mainGlobals "place_of" = some (some (.ref f_place_of)))
    (q_l_place_of : K.lookup f_place_of = some ⟨oc_place_of, od_place_of, .func (PySem.W.fnOf "place_of" "place_of" (defArgs s_place_of) (defBody s_place_of) (defScope s_place_of) .none kV_place_of dc_place_of pm_place_of an_place_of cd_place_of ct_place_of), sl_place_of⟩)
    (q_c_place_of : PySem.W.codeIn K cd_place_of "place_of" = true)
    (q_k_place_of : PySem.W.keepIn K (.ref f_place_of) = true)
    (q_a_name_at_place : PySem.W.nsIn K mainGlobals "name_at_place" = some (some (.ref f_name_at_place)))
    (q_l_name_at_place : K.lookup f_name_at_place = some ⟨oc_name_at_place, od_name_at_place, .func (PySem.W.fnOf "name_at_place" "name_at_place" (defArgs s_name_at_place) (defBody s_name_at_place) (defScope s_name_at_place) .none kV_name_at_place dc_name_at_place pm_name_at_place an_name_at_place cd_name_at_place ct_name_at_place), sl_name_at_place⟩)
    (q_c_name_at_place : PySem.W.codeIn K cd_name_at_place "name_at_place" = true)
    (q_k_name_at_place : PySem.W.keepIn K (.ref f_name_at_place) = true)
    (q_a_is_looked_at : PySem.W.nsIn K mainGlobals "is_looked_at" = some (some (.ref f_is_looked_at)))
    (q_l_is_looked_at : K.lookup f_is_looked_at = some ⟨oc_is_looked_at, od_is_looked_at, .func (PySem.W.fnOf "is_looked_at" "is_looked_at" (defArgs s_is_looked_at) (defBody s_is_looked_at) (defScope s_is_looked_at) .none kV_is_looked_at dc_is_looked_at pm_is_looked_at an_is_looked_at cd_is_looked_at ct_is_looked_at), sl_is_looked_at⟩)
    (q_c_is_looked_at : PySem.W.codeIn K cd_is_looked_at "is_looked_at" = true)
    (q_k_is_looked_at : PySem.W.keepIn K (.ref f_is_looked_at) = true)
    (q_a_in_numbers : PySem.W.nsIn K mainGlobals "in_numbers" = some (some (.ref f_in_numbers)))
    (q_l_in_numbers : K.lookup f_in_numbers = some ⟨oc_in_numbers, od_in_numbers, .func (PySem.W.fnOf "in_numbers" "in_numbers" (defArgs s_in_numbers) (defBody s_in_numbers) (defScope s_in_numbers) .none kV_in_numbers dc_in_numbers pm_in_numbers an_in_numbers cd_in_numbers ct_in_numbers), sl_in_numbers⟩)
    (q_c_in_numbers : PySem.W.codeIn K cd_in_numbers "in_numbers" = true)
    (q_k_in_numbers : PySem.W.keepIn K (.ref f_in_numbers) = true)
    (q_a_tells_place : PySem.W.nsIn K mainGlobals "tells_place" = some (some (.ref f_tells_place)))
    (q_l_tells_place : K.lookup f_tells_place = some ⟨oc_tells_place, od_tells_place, .func (PySem.W.fnOf "tells_place" "tells_place" (defArgs s_tells_place) (defBody s_tells_place) (defScope s_tells_place) .none kV_tells_place dc_tells_place pm_tells_place an_tells_place cd_tells_place ct_tells_place), sl_tells_place⟩)
    (q_c_tells_place : PySem.W.codeIn K cd_tells_place "tells_place" = true)
    (q_k_tells_place : PySem.W.keepIn K (.ref f_tells_place) = true)
    (q_a_has_name : PySem.W.nsIn K mainGlobals "has_name" = some (some (.ref f_has_name)))
    (q_l_has_name : K.lookup f_has_name = some ⟨oc_has_name, od_has_name, .func (PySem.W.fnOf "has_name" "has_name" (defArgs s_has_name) (defBody s_has_name) (defScope s_has_name) .none kV_has_name dc_has_name pm_has_name an_has_name cd_has_name ct_has_name), sl_has_name⟩)
    (q_c_has_name : PySem.W.codeIn K cd_has_name "has_name" = true)
    (q_k_has_name : PySem.W.keepIn K (.ref f_has_name) = true)
    (q_a_put_row : PySem.W.nsIn K mainGlobals "put_row" = some (some (.ref f_put_row)))
    (q_l_put_row : K.lookup f_put_row = some ⟨oc_put_row, od_put_row, .func (PySem.W.fnOf "put_row" "put_row" (defArgs s_put_row) (defBody s_put_row) (defScope s_put_row) .none kV_put_row dc_put_row pm_put_row an_put_row cd_put_row ct_put_row), sl_put_row⟩)
    (q_c_put_row : PySem.W.codeIn K cd_put_row "put_row" = true)
    (q_k_put_row : PySem.W.keepIn K (.ref f_put_row) = true)
    (q_a_begin_code : PySem.W.nsIn K mainGlobals "begin_code" = some (some (.ref f_begin_code)))
    (q_l_begin_code : K.lookup f_begin_code = some ⟨oc_begin_code, od_begin_code, .func (PySem.W.fnOf "begin_code" "begin_code" (defArgs s_begin_code) (defBody s_begin_code) (defScope s_begin_code) .none kV_begin_code dc_begin_code pm_begin_code an_begin_code cd_begin_code ct_begin_code), sl_begin_code⟩)
    (q_c_begin_code : PySem.W.codeIn K cd_begin_code "begin_code" = true)
    (q_k_begin_code : PySem.W.keepIn K (.ref f_begin_code) = true)
    (q_a_put_number : PySem.W.nsIn K mainGlobals "put_number" = some (some (.ref f_put_number)))
    (q_l_put_number : K.lookup f_put_number = some ⟨oc_put_number, od_put_number, .func (PySem.W.fnOf "put_number" "put_number" (defArgs s_put_number) (defBody s_put_number) (defScope s_put_number) .none kV_put_number dc_put_number pm_put_number an_put_number cd_put_number ct_put_number), sl_put_number⟩)
    (q_c_put_number : PySem.W.codeIn K cd_put_number "put_number" = true)
    (q_k_put_number : PySem.W.keepIn K (.ref f_put_number) = true)
    (q_a_put_read : PySem.W.nsIn K mainGlobals "put_read" = some (some (.ref f_put_read)))
    (q_l_put_read : K.lookup f_put_read = some ⟨oc_put_read, od_put_read, .func (PySem.W.fnOf "put_read" "put_read" (defArgs s_put_read) (defBody s_put_read) (defScope s_put_read) .none kV_put_read dc_put_read pm_put_read an_put_read cd_put_read ct_put_read), sl_put_read⟩)
    (q_c_put_read : PySem.W.codeIn K cd_put_read "put_read" = true)
    (q_k_put_read : PySem.W.keepIn K (.ref f_put_read) = true)
    (q_a_put_write : PySem.W.nsIn K mainGlobals "put_write" = some (some (.ref f_put_write)))
    (q_l_put_write : K.lookup f_put_write = some ⟨oc_put_write, od_put_write, .func (PySem.W.fnOf "put_write" "put_write" (defArgs s_put_write) (defBody s_put_write) (defScope s_put_write) .none kV_put_write dc_put_write pm_put_write an_put_write cd_put_write ct_put_write), sl_put_write⟩)
    (q_c_put_write : PySem.W.codeIn K cd_put_write "put_write" = true)
    (q_k_put_write : PySem.W.keepIn K (.ref f_put_write) = true)
    (q_a_put_say : PySem.W.nsIn K mainGlobals "put_say" = some (some (.ref f_put_say)))
    (q_l_put_say : K.lookup f_put_say = some ⟨oc_put_say, od_put_say, .func (PySem.W.fnOf "put_say" "put_say" (defArgs s_put_say) (defBody s_put_say) (defScope s_put_say) .none kV_put_say dc_put_say pm_put_say an_put_say cd_put_say ct_put_say), sl_put_say⟩)
    (q_c_put_say : PySem.W.codeIn K cd_put_say "put_say" = true)
    (q_k_put_say : PySem.W.keepIn K (.ref f_put_say) = true)
    (q_a_alike : PySem.W.nsIn K mainGlobals "alike" = some (some (.ref f_alike)))
    (q_l_alike : K.lookup f_alike = some ⟨oc_alike, od_alike, .func (PySem.W.fnOf "alike" "alike" (defArgs s_alike) (defBody s_alike) (defScope s_alike) .none kV_alike dc_alike pm_alike an_alike cd_alike ct_alike), sl_alike⟩)
    (q_c_alike : PySem.W.codeIn K cd_alike "alike" = true)
    (q_k_alike : PySem.W.keepIn K (.ref f_alike) = true)
    (q_a_never_same : PySem.W.nsIn K mainGlobals "never_same" = some (some (.ref f_never_same)))
    (q_l_never_same : K.lookup f_never_same = some ⟨oc_never_same, od_never_same, .func (PySem.W.fnOf "never_same" "never_same" (defArgs s_never_same) (defBody s_never_same) (defScope s_never_same) .none kV_never_same dc_never_same pm_never_same an_never_same cd_never_same ct_never_same), sl_never_same⟩)
    (q_c_never_same : PySem.W.codeIn K cd_never_same "never_same" = true)
    (q_k_never_same : PySem.W.keepIn K (.ref f_never_same) = true)
    (q_a_cell_at : PySem.W.nsIn K mainGlobals "cell_at" = some (some (.ref f_cell_at)))
    (q_l_cell_at : K.lookup f_cell_at = some ⟨oc_cell_at, od_cell_at, .func (PySem.W.fnOf "cell_at" "cell_at" (defArgs s_cell_at) (defBody s_cell_at) (defScope s_cell_at) .none kV_cell_at dc_cell_at pm_cell_at an_cell_at cd_cell_at ct_cell_at), sl_cell_at⟩)
    (q_c_cell_at : PySem.W.codeIn K cd_cell_at "cell_at" = true)
    (q_k_cell_at : PySem.W.keepIn K (.ref f_cell_at) = true)
    (q_a_is_passed_over : PySem.W.nsIn K mainGlobals "is_passed_over" = some (some (.ref f_is_passed_over)))
    (q_l_is_passed_over : K.lookup f_is_passed_over = some ⟨oc_is_passed_over, od_is_passed_over, .func (PySem.W.fnOf "is_passed_over" "is_passed_over" (defArgs s_is_passed_over) (defBody s_is_passed_over) (defScope s_is_passed_over) .none kV_is_passed_over dc_is_passed_over pm_is_passed_over an_is_passed_over cd_is_passed_over ct_is_passed_over), sl_is_passed_over⟩)
    (q_c_is_passed_over : PySem.W.codeIn K cd_is_passed_over "is_passed_over" = true)
    (q_k_is_passed_over : PySem.W.keepIn K (.ref f_is_passed_over) = true)
    (q_a_sure_name : PySem.W.nsIn K mainGlobals "sure_name" = some (some (.ref f_sure_name)))
    (q_l_sure_name : K.lookup f_sure_name = some ⟨oc_sure_name, od_sure_name, .func (PySem.W.fnOf "sure_name" "sure_name" (defArgs s_sure_name) (defBody s_sure_name) (defScope s_sure_name) .none kV_sure_name dc_sure_name pm_sure_name an_sure_name cd_sure_name ct_sure_name), sl_sure_name⟩)
    (q_c_sure_name : PySem.W.codeIn K cd_sure_name "sure_name" = true)
    (q_k_sure_name : PySem.W.keepIn K (.ref f_sure_name) = true)
    (q_a_first_word : PySem.W.nsIn K mainGlobals "first_word" = some (some (.ref f_first_word)))
    (q_l_first_word : K.lookup f_first_word = some ⟨oc_first_word, od_first_word, .func (PySem.W.fnOf "first_word" "first_word" (defArgs s_first_word) (defBody s_first_word) (defScope s_first_word) .none kV_first_word dc_first_word pm_first_word an_first_word cd_first_word ct_first_word), sl_first_word⟩)
    (q_c_first_word : PySem.W.codeIn K cd_first_word "first_word" = true)
    (q_k_first_word : PySem.W.keepIn K (.ref f_first_word) = true)
    (q_a_word_in : PySem.W.nsIn K mainGlobals "word_in" = some (some (.ref f_word_in)))
    (q_l_word_in : K.lookup f_word_in = some ⟨oc_word_in, od_word_in, .func (PySem.W.fnOf "word_in" "word_in" (defArgs s_word_in) (defBody s_word_in) (defScope s_word_in) .none kV_word_in dc_word_in pm_word_in an_word_in cd_word_in ct_word_in), sl_word_in⟩)
    (q_c_word_in : PySem.W.codeIn K cd_word_in "word_in" = true)
    (q_k_word_in : PySem.W.keepIn K (.ref f_word_in) = true)
    (q_a_cell_key : PySem.W.nsIn K mainGlobals "cell_key" = some (some (.ref f_cell_key)))
    (q_l_cell_key : K.lookup f_cell_key = some ⟨oc_cell_key, od_cell_key, .func (PySem.W.fnOf "cell_key" "cell_key" (defArgs s_cell_key) (defBody s_cell_key) (defScope s_cell_key) .none kV_cell_key dc_cell_key pm_cell_key an_cell_key cd_cell_key ct_cell_key), sl_cell_key⟩)
    (q_c_cell_key : PySem.W.codeIn K cd_cell_key "cell_key" = true)
    (q_k_cell_key : PySem.W.keepIn K (.ref f_cell_key) = true)
    (q_a_do_row : PySem.W.nsIn K mainGlobals "do_row" = some (some (.ref f_do_row)))
    (q_l_do_row : K.lookup f_do_row = some ⟨oc_do_row, od_do_row, .func (PySem.W.fnOf "do_row" "do_row" (defArgs s_do_row) (defBody s_do_row) (defScope s_do_row) .none kV_do_row dc_do_row pm_do_row an_do_row cd_do_row ct_do_row), sl_do_row⟩)
    (q_c_do_row : PySem.W.codeIn K cd_do_row "do_row" = true)
    (q_k_do_row : PySem.W.keepIn K (.ref f_do_row) = true)
    (q_a_cells_to_tell : PySem.W.nsIn K mainGlobals "cells_to_tell" = some (some (.ref f_cells_to_tell)))
    (q_l_cells_to_tell : K.lookup f_cells_to_tell = some ⟨oc_cells_to_tell, od_cells_to_tell, .func (PySem.W.fnOf "cells_to_tell" "cells_to_tell" (defArgs s_cells_to_tell) (defBody s_cells_to_tell) (defScope s_cells_to_tell) .none kV_cells_to_tell dc_cells_to_tell pm_cells_to_tell an_cells_to_tell cd_cells_to_tell ct_cells_to_tell), sl_cells_to_tell⟩)
    (q_c_cells_to_tell : PySem.W.codeIn K cd_cells_to_tell "cells_to_tell" = true)
    (q_k_cells_to_tell : PySem.W.keepIn K (.ref f_cells_to_tell) = true)
    (q_a_Run_init : PySem.W.findIn K (.ref ARun) "__init__" = some (some (.ref f_Run_init)))
    (q_i_Run_init : PySem.W.isFn K (.ref f_Run_init) = true)
    (q_l_Run_init : K.lookup f_Run_init = some ⟨oc_Run_init, od_Run_init, .func (PySem.W.fnOf "__init__" "Run.__init__" (defArgs s_Run_init) (defBody s_Run_init) (defScope s_Run_init) .none kV_Run_init dc_Run_init pm_Run_init an_Run_init cd_Run_init ct_Run_init), sl_Run_init⟩)
    (q_c_Run_init : PySem.W.codeIn K cd_Run_init "Run.__init__" = true)
    (q_k_Run_init : PySem.W.keepIn K (.ref f_Run_init) = true)
    (q_a_run_told : PySem.W.nsIn K mainGlobals "run_told" = some (some (.ref f_run_told)))
    (q_l_run_told : K.lookup f_run_told = some ⟨oc_run_told, od_run_told, .func (PySem.W.fnOf "run_told" "run_told" (defArgs s_run_told) (defBody s_run_told) (defScope s_run_told) .none kV_run_told dc_run_told pm_run_told an_run_told cd_run_told ct_run_told), sl_run_told⟩)
    (q_c_run_told : PySem.W.codeIn K cd_run_told "run_told" = true)
    (q_k_run_told : PySem.W.keepIn K (.ref f_run_told) = true)
    (q_a_is_write_alike : PySem.W.nsIn K mainGlobals "is_write_alike" = some (some (.ref f_is_write_alike)))
    (q_l_is_write_alike : K.lookup f_is_write_alike = some ⟨oc_is_write_alike, od_is_write_alike, .func (PySem.W.fnOf "is_write_alike" "is_write_alike" (defArgs s_is_write_alike) (defBody s_is_write_alike) (defScope s_is_write_alike) .none kV_is_write_alike dc_is_write_alike pm_is_write_alike an_is_write_alike cd_is_write_alike ct_is_write_alike), sl_is_write_alike⟩)
    (q_c_is_write_alike : PySem.W.codeIn K cd_is_write_alike "is_write_alike" = true)
    (q_k_is_write_alike : PySem.W.keepIn K (.ref f_is_write_alike) = true)
    (q_a_may_see_first : PySem.W.nsIn K mainGlobals "may_see_first" = some (some (.ref f_may_see_first)))
    (q_l_may_see_first : K.lookup f_may_see_first = some ⟨oc_may_see_first, od_may_see_first, .func (PySem.W.fnOf "may_see_first" "may_see_first" (defArgs s_may_see_first) (defBody s_may_see_first) (defScope s_may_see_first) .none kV_may_see_first dc_may_see_first pm_may_see_first an_may_see_first cd_may_see_first ct_may_see_first), sl_may_see_first⟩)
    (q_c_may_see_first : PySem.W.codeIn K cd_may_see_first "may_see_first" = true)
    (q_k_may_see_first : PySem.W.keepIn K (.ref f_may_see_first) = true)
    (q_a_may_see : PySem.W.nsIn K mainGlobals "may_see" = some (some (.ref f_may_see)))
    (q_l_may_see : K.lookup f_may_see = some ⟨oc_may_see, od_may_see, .func (PySem.W.fnOf "may_see" "may_see" (defArgs s_may_see) (defBody s_may_see) (defScope s_may_see) .none kV_may_see dc_may_see pm_may_see an_may_see cd_may_see ct_may_see), sl_may_see⟩)
    (q_c_may_see : PySem.W.codeIn K cd_may_see "may_see" = true)
    (q_k_may_see : PySem.W.keepIn K (.ref f_may_see) = true)
    (q_a_writes_seen : PySem.W.nsIn K mainGlobals "writes_seen" = some (some (.ref f_writes_seen)))
    (q_l_writes_seen : K.lookup f_writes_seen = some ⟨oc_writes_seen, od_writes_seen, .func (PySem.W.fnOf "writes_seen" "writes_seen" (defArgs s_writes_seen) (defBody s_writes_seen) (defScope s_writes_seen) .none kV_writes_seen dc_writes_seen pm_writes_seen an_writes_seen cd_writes_seen ct_writes_seen), sl_writes_seen⟩)
    (q_c_writes_seen : PySem.W.codeIn K cd_writes_seen "writes_seen" = true)
    (q_k_writes_seen : PySem.W.keepIn K (.ref f_writes_seen) = true)
    (q_a_renamed : PySem.W.nsIn K mainGlobals "renamed" = some (some (.ref f_renamed)))
    (q_l_renamed : K.lookup f_renamed = some ⟨oc_renamed, od_renamed, .func (PySem.W.fnOf "renamed" "renamed" (defArgs s_renamed) (defBody s_renamed) (defScope s_renamed) .none kV_renamed dc_renamed pm_renamed an_renamed cd_renamed ct_renamed), sl_renamed⟩)
    (q_c_renamed : PySem.W.codeIn K cd_renamed "renamed" = true)
    (q_k_renamed : PySem.W.keepIn K (.ref f_renamed) = true)
    (q_a_name_of_number : PySem.W.nsIn K mainGlobals "name_of_number" = some (some (.ref f_name_of_number)))
    (q_l_name_of_number : K.lookup f_name_of_number = some ⟨oc_name_of_number, od_name_of_number, .func (PySem.W.fnOf "name_of_number" "name_of_number" (defArgs s_name_of_number) (defBody s_name_of_number) (defScope s_name_of_number) .none kV_name_of_number dc_name_of_number pm_name_of_number an_name_of_number cd_name_of_number ct_name_of_number), sl_name_of_number⟩)
    (q_c_name_of_number : PySem.W.codeIn K cd_name_of_number "name_of_number" = true)
    (q_k_name_of_number : PySem.W.keepIn K (.ref f_name_of_number) = true)
    (q_a_known_name : PySem.W.nsIn K mainGlobals "known_name" = some (some (.ref f_known_name)))
    (q_l_known_name : K.lookup f_known_name = some ⟨oc_known_name, od_known_name, .func (PySem.W.fnOf "known_name" "known_name" (defArgs s_known_name) (defBody s_known_name) (defScope s_known_name) .none kV_known_name dc_known_name pm_known_name an_known_name cd_known_name ct_known_name), sl_known_name⟩)
    (q_c_known_name : PySem.W.codeIn K cd_known_name "known_name" = true)
    (q_k_known_name : PySem.W.keepIn K (.ref f_known_name) = true)
    (q_a_without_known : PySem.W.nsIn K mainGlobals "without_known" = some (some (.ref f_without_known)))
    (q_l_without_known : K.lookup f_without_known = some ⟨oc_without_known, od_without_known, .func (PySem.W.fnOf "without_known" "without_known" (defArgs s_without_known) (defBody s_without_known) (defScope s_without_known) .none kV_without_known dc_without_known pm_without_known an_without_known cd_without_known ct_without_known), sl_without_known⟩)
    (q_c_without_known : PySem.W.codeIn K cd_without_known "without_known" = true)
    (q_k_without_known : PySem.W.keepIn K (.ref f_without_known) = true)
    (q_a_is_name_used : PySem.W.nsIn K mainGlobals "is_name_used" = some (some (.ref f_is_name_used)))
    (q_l_is_name_used : K.lookup f_is_name_used = some ⟨oc_is_name_used, od_is_name_used, .func (PySem.W.fnOf "is_name_used" "is_name_used" (defArgs s_is_name_used) (defBody s_is_name_used) (defScope s_is_name_used) .none kV_is_name_used dc_is_name_used pm_is_name_used an_is_name_used cd_is_name_used ct_is_name_used), sl_is_name_used⟩)
    (q_c_is_name_used : PySem.W.codeIn K cd_is_name_used "is_name_used" = true)
    (q_k_is_name_used : PySem.W.keepIn K (.ref f_is_name_used) = true)
    (q_a_is_seen : PySem.W.nsIn K mainGlobals "is_seen" = some (some (.ref f_is_seen)))
    (q_l_is_seen : K.lookup f_is_seen = some ⟨oc_is_seen, od_is_seen, .func (PySem.W.fnOf "is_seen" "is_seen" (defArgs s_is_seen) (defBody s_is_seen) (defScope s_is_seen) .none kV_is_seen dc_is_seen pm_is_seen an_is_seen cd_is_seen ct_is_seen), sl_is_seen⟩)
    (q_c_is_seen : PySem.W.codeIn K cd_is_seen "is_seen" = true)
    (q_k_is_seen : PySem.W.keepIn K (.ref f_is_seen) = true)
    (q_a_is_left : PySem.W.nsIn K mainGlobals "is_left" = some (some (.ref f_is_left)))
    (q_l_is_left : K.lookup f_is_left = some ⟨oc_is_left, od_is_left, .func (PySem.W.fnOf "is_left" "is_left" (defArgs s_is_left) (defBody s_is_left) (defScope s_is_left) .none kV_is_left dc_is_left pm_is_left an_is_left cd_is_left ct_is_left), sl_is_left⟩)
    (q_c_is_left : PySem.W.codeIn K cd_is_left "is_left" = true)
    (q_k_is_left : PySem.W.keepIn K (.ref f_is_left) = true)
    (q_a_is_wanted : PySem.W.nsIn K mainGlobals "is_wanted" = some (some (.ref f_is_wanted)))
    (q_l_is_wanted : K.lookup f_is_wanted = some ⟨oc_is_wanted, od_is_wanted, .func (PySem.W.fnOf "is_wanted" "is_wanted" (defArgs s_is_wanted) (defBody s_is_wanted) (defScope s_is_wanted) .none kV_is_wanted dc_is_wanted pm_is_wanted an_is_wanted cd_is_wanted ct_is_wanted), sl_is_wanted⟩)
    (q_c_is_wanted : PySem.W.codeIn K cd_is_wanted "is_wanted" = true)
    (q_k_is_wanted : PySem.W.keepIn K (.ref f_is_wanted) = true)
    (q_a_without_unseen : PySem.W.nsIn K mainGlobals "without_unseen" = some (some (.ref f_without_unseen)))
    (q_l_without_unseen : K.lookup f_without_unseen = some ⟨oc_without_unseen, od_without_unseen, .func (PySem.W.fnOf "without_unseen" "without_unseen" (defArgs s_without_unseen) (defBody s_without_unseen) (defScope s_without_unseen) .none kV_without_unseen dc_without_unseen pm_without_unseen an_without_unseen cd_without_unseen ct_without_unseen), sl_without_unseen⟩)
    (q_c_without_unseen : PySem.W.codeIn K cd_without_unseen "without_unseen" = true)
    (q_k_without_unseen : PySem.W.keepIn K (.ref f_without_unseen) = true)
    (q_a_made_smaller : PySem.W.nsIn K mainGlobals "made_smaller" = some (some (.ref f_made_smaller)))
    (q_l_made_smaller : K.lookup f_made_smaller = some ⟨oc_made_smaller, od_made_smaller, .func (PySem.W.fnOf "made_smaller" "made_smaller" (defArgs s_made_smaller) (defBody s_made_smaller) (defScope s_made_smaller) .none kV_made_smaller dc_made_smaller pm_made_smaller an_made_smaller cd_made_smaller ct_made_smaller), sl_made_smaller⟩)
    (q_c_made_smaller : PySem.W.codeIn K cd_made_smaller "made_smaller" = true)
    (q_k_made_smaller : PySem.W.keepIn K (.ref f_made_smaller) = true)
    (q_a_needs_name : PySem.W.nsIn K mainGlobals "needs_name" = some (some (.ref f_needs_name)))
    (q_l_needs_name : K.lookup f_needs_name = some ⟨oc_needs_name, od_needs_name, .func (PySem.W.fnOf "needs_name" "needs_name" (defArgs s_needs_name) (defBody s_needs_name) (defScope s_needs_name) .none kV_needs_name dc_needs_name pm_needs_name an_needs_name cd_needs_name ct_needs_name), sl_needs_name⟩)
    (q_c_needs_name : PySem.W.codeIn K cd_needs_name "needs_name" = true)
    (q_k_needs_name : PySem.W.keepIn K (.ref f_needs_name) = true)
    (q_a_say_two_names : PySem.W.nsIn K mainGlobals "say_two_names" = some (some (.ref f_say_two_names)))
    (q_l_say_two_names : K.lookup f_say_two_names = some ⟨oc_say_two_names, od_say_two_names, .func (PySem.W.fnOf "say_two_names" "say_two_names" (defArgs s_say_two_names) (defBody s_say_two_names) (defScope s_say_two_names) .none kV_say_two_names dc_say_two_names pm_say_two_names an_say_two_names cd_say_two_names ct_say_two_names), sl_say_two_names⟩)
    (q_c_say_two_names : PySem.W.codeIn K cd_say_two_names "say_two_names" = true)
    (q_k_say_two_names : PySem.W.keepIn K (.ref f_say_two_names) = true)
    (q_a_clash_in_cells : PySem.W.nsIn K mainGlobals "clash_in_cells" = some (some (.ref f_clash_in_cells)))
    (q_l_clash_in_cells : K.lookup f_clash_in_cells = some ⟨oc_clash_in_cells, od_clash_in_cells, .func (PySem.W.fnOf "clash_in_cells" "clash_in_cells" (defArgs s_clash_in_cells) (defBody s_clash_in_cells) (defScope s_clash_in_cells) .none kV_clash_in_cells dc_clash_in_cells pm_clash_in_cells an_clash_in_cells cd_clash_in_cells ct_clash_in_cells), sl_clash_in_cells⟩)
    (q_c_clash_in_cells : PySem.W.codeIn K cd_clash_in_cells "clash_in_cells" = true)
    (q_k_clash_in_cells : PySem.W.keepIn K (.ref f_clash_in_cells) = true)
    (q_a_may_trade : PySem.W.nsIn K mainGlobals "may_trade" = some (some (.ref f_may_trade)))
    (q_l_may_trade : K.lookup f_may_trade = some ⟨oc_may_trade, od_may_trade, .func (PySem.W.fnOf "may_trade" "may_trade" (defArgs s_may_trade) (defBody s_may_trade) (defScope s_may_trade) .none kV_may_trade dc_may_trade pm_may_trade an_may_trade cd_may_trade ct_may_trade), sl_may_trade⟩)
    (q_c_may_trade : PySem.W.codeIn K cd_may_trade "may_trade" = true)
    (q_k_may_trade : PySem.W.keepIn K (.ref f_may_trade) = true)
    (q_a_ask_shows : PySem.W.nsIn K mainGlobals "ask_shows" = some (some (.ref f_ask_shows)))
    (q_l_ask_shows : K.lookup f_ask_shows = some ⟨oc_ask_shows, od_ask_shows, .func (PySem.W.fnOf "ask_shows" "ask_shows" (defArgs s_ask_shows) (defBody s_ask_shows) (defScope s_ask_shows) .none kV_ask_shows dc_ask_shows pm_ask_shows an_ask_shows cd_ask_shows ct_ask_shows), sl_ask_shows⟩)
    (q_c_ask_shows : PySem.W.codeIn K cd_ask_shows "ask_shows" = true)
    (q_k_ask_shows : PySem.W.keepIn K (.ref f_ask_shows) = true)
    (q_a_ask_run : PySem.W.nsIn K mainGlobals "ask_run" = some (some (.ref f_ask_run)))
    (q_l_ask_run : K.lookup f_ask_run = some ⟨oc_ask_run, od_ask_run, .func (PySem.W.fnOf "ask_run" "ask_run" (defArgs s_ask_run) (defBody s_ask_run) (defScope s_ask_run) .none kV_ask_run dc_ask_run pm_ask_run an_ask_run cd_ask_run ct_ask_run), sl_ask_run⟩)
    (q_c_ask_run : PySem.W.codeIn K cd_ask_run "ask_run" = true)
    (q_k_ask_run : PySem.W.keepIn K (.ref f_ask_run) = true)
    (q_a_ask_sees : PySem.W.nsIn K mainGlobals "ask_sees" = some (some (.ref f_ask_sees)))
    (q_l_ask_sees : K.lookup f_ask_sees = some ⟨oc_ask_sees, od_ask_sees, .func (PySem.W.fnOf "ask_sees" "ask_sees" (defArgs s_ask_sees) (defBody s_ask_sees) (defScope s_ask_sees) .none kV_ask_sees dc_ask_sees pm_ask_sees an_ask_sees cd_ask_sees ct_ask_sees), sl_ask_sees⟩)
    (q_c_ask_sees : PySem.W.codeIn K cd_ask_sees "ask_sees" = true)
    (q_k_ask_sees : PySem.W.keepIn K (.ref f_ask_sees) = true)
    (q_a_ask_sure : PySem.W.nsIn K mainGlobals "ask_sure" = some (some (.ref f_ask_sure)))
    (q_l_ask_sure : K.lookup f_ask_sure = some ⟨oc_ask_sure, od_ask_sure, .func (PySem.W.fnOf "ask_sure" "ask_sure" (defArgs s_ask_sure) (defBody s_ask_sure) (defScope s_ask_sure) .none kV_ask_sure dc_ask_sure pm_ask_sure an_ask_sure cd_ask_sure ct_ask_sure), sl_ask_sure⟩)
    (q_c_ask_sure : PySem.W.codeIn K cd_ask_sure "ask_sure" = true)
    (q_k_ask_sure : PySem.W.keepIn K (.ref f_ask_sure) = true)
    (q_a_ask_trade : PySem.W.nsIn K mainGlobals "ask_trade" = some (some (.ref f_ask_trade)))
    (q_l_ask_trade : K.lookup f_ask_trade = some ⟨oc_ask_trade, od_ask_trade, .func (PySem.W.fnOf "ask_trade" "ask_trade" (defArgs s_ask_trade) (defBody s_ask_trade) (defScope s_ask_trade) .none kV_ask_trade dc_ask_trade pm_ask_trade an_ask_trade cd_ask_trade ct_ask_trade), sl_ask_trade⟩)
    (q_c_ask_trade : PySem.W.codeIn K cd_ask_trade "ask_trade" = true)
    (q_k_ask_trade : PySem.W.keepIn K (.ref f_ask_trade) = true)
    (q_a_ask_better : PySem.W.nsIn K mainGlobals "ask_better" = some (some (.ref f_ask_better)))
    (q_l_ask_better : K.lookup f_ask_better = some ⟨oc_ask_better, od_ask_better, .func (PySem.W.fnOf "ask_better" "ask_better" (defArgs s_ask_better) (defBody s_ask_better) (defScope s_ask_better) .none kV_ask_better dc_ask_better pm_ask_better an_ask_better cd_ask_better ct_ask_better), sl_ask_better⟩)
    (q_c_ask_better : PySem.W.codeIn K cd_ask_better "ask_better" = true)
    (q_k_ask_better : PySem.W.keepIn K (.ref f_ask_better) = true)
    (q_a_ask_runbetter : PySem.W.nsIn K mainGlobals "ask_runbetter" = some (some (.ref f_ask_runbetter)))
    (q_l_ask_runbetter : K.lookup f_ask_runbetter = some ⟨oc_ask_runbetter, od_ask_runbetter, .func (PySem.W.fnOf "ask_runbetter" "ask_runbetter" (defArgs s_ask_runbetter) (defBody s_ask_runbetter) (defScope s_ask_runbetter) .none kV_ask_runbetter dc_ask_runbetter pm_ask_runbetter an_ask_runbetter cd_ask_runbetter ct_ask_runbetter), sl_ask_runbetter⟩)
    (q_c_ask_runbetter : PySem.W.codeIn K cd_ask_runbetter "ask_runbetter" = true)
    (q_k_ask_runbetter : PySem.W.keepIn K (.ref f_ask_runbetter) = true)
    (q_a_arguments_at : PySem.W.nsIn K mainGlobals "arguments_at" = some (some (.ref f_arguments_at)))
    (q_l_arguments_at : K.lookup f_arguments_at = some ⟨oc_arguments_at, od_arguments_at, .func (PySem.W.fnOf "arguments_at" "arguments_at" (defArgs s_arguments_at) (defBody s_arguments_at) (defScope s_arguments_at) .none kV_arguments_at dc_arguments_at pm_arguments_at an_arguments_at cd_arguments_at ct_arguments_at), sl_arguments_at⟩)
    (q_c_arguments_at : PySem.W.codeIn K cd_arguments_at "arguments_at" = true)
    (q_k_arguments_at : PySem.W.keepIn K (.ref f_arguments_at) = true)
    (q_a_answer_building : PySem.W.nsIn K mainGlobals "answer_building" = some (some (.ref f_answer_building)))
    (q_l_answer_building : K.lookup f_answer_building = some ⟨oc_answer_building, od_answer_building, .func (PySem.W.fnOf "answer_building" "answer_building" (defArgs s_answer_building) (defBody s_answer_building) (defScope s_answer_building) .none kV_answer_building dc_answer_building pm_answer_building an_answer_building cd_answer_building ct_answer_building), sl_answer_building⟩)
    (q_c_answer_building : PySem.W.codeIn K cd_answer_building "answer_building" = true)
    (q_k_answer_building : PySem.W.keepIn K (.ref f_answer_building) = true)
    (q_a_answer_asking : PySem.W.nsIn K mainGlobals "answer_asking" = some (some (.ref f_answer_asking)))
    (q_l_answer_asking : K.lookup f_answer_asking = some ⟨oc_answer_asking, od_answer_asking, .func (PySem.W.fnOf "answer_asking" "answer_asking" (defArgs s_answer_asking) (defBody s_answer_asking) (defScope s_answer_asking) .none kV_answer_asking dc_answer_asking pm_answer_asking an_answer_asking cd_answer_asking ct_answer_asking), sl_answer_asking⟩)
    (q_c_answer_asking : PySem.W.codeIn K cd_answer_asking "answer_asking" = true)
    (q_k_answer_asking : PySem.W.keepIn K (.ref f_answer_asking) = true)
    (q_a_answer_call : PySem.W.nsIn K mainGlobals "answer_call" = some (some (.ref f_answer_call)))
    (q_l_answer_call : K.lookup f_answer_call = some ⟨oc_answer_call, od_answer_call, .func (PySem.W.fnOf "answer_call" "answer_call" (defArgs s_answer_call) (defBody s_answer_call) (defScope s_answer_call) .none kV_answer_call dc_answer_call pm_answer_call an_answer_call cd_answer_call ct_answer_call), sl_answer_call⟩)
    (q_c_answer_call : PySem.W.codeIn K cd_answer_call "answer_call" = true)
    (q_k_answer_call : PySem.W.keepIn K (.ref f_answer_call) = true)
    (q_a_Code_init : PySem.W.findIn K (.ref ACode) "__init__" = some (some (.ref f_Code_init)))
    (q_i_Code_init : PySem.W.isFn K (.ref f_Code_init) = true)
    (q_l_Code_init : K.lookup f_Code_init = some ⟨oc_Code_init, od_Code_init, .func (PySem.W.fnOf "__init__" "Code.__init__" (defArgs s_Code_init) (defBody s_Code_init) (defScope s_Code_init) .none kV_Code_init dc_Code_init pm_Code_init an_Code_init cd_Code_init ct_Code_init), sl_Code_init⟩)
    (q_c_Code_init : PySem.W.codeIn K cd_Code_init "Code.__init__" = true)
    (q_k_Code_init : PySem.W.keepIn K (.ref f_Code_init) = true)
    (q_a_answers : PySem.W.nsIn K mainGlobals "answers" = some (some (.ref f_answers)))
    (q_l_answers : K.lookup f_answers = some ⟨oc_answers, od_answers, .func (PySem.W.fnOf "answers" "answers" (defArgs s_answers) (defBody s_answers) (defScope s_answers) .none kV_answers dc_answers pm_answers an_answers cd_answers ct_answers), sl_answers⟩)
    (q_c_answers : PySem.W.codeIn K cd_answers "answers" = true)
    (q_k_answers : PySem.W.keepIn K (.ref f_answers) = true)
    : Top K mg ACode ARun where
  b_len := PySem.W.mg_none_of X G q_b_len
  b_reversed := PySem.W.mg_none_of X G q_b_reversed
  b_sorted := PySem.W.mg_none_of X G q_b_sorted
  b_range := PySem.W.mg_none_of X G q_b_range
  b_any := PySem.W.mg_none_of X G q_b_any
  b_int := PySem.W.mg_none_of X G q_b_int
  b_dict := PySem.W.mg_none_of X G q_b_dict
  b_enumerate := PySem.W.mg_none_of X G q_b_enumerate
  c_NUMBER := ⟨_, PySem.W.mg_of X G q_c_NUMBER, ⟨_, rfl⟩⟩
  c_READ := ⟨_, PySem.W.mg_of X G q_c_READ, ⟨_, rfl⟩⟩
  c_WRITE := ⟨_, PySem.W.mg_of X G q_c_WRITE, ⟨_, rfl⟩⟩
  c_SAY := ⟨_, PySem.W.mg_of X G q_c_SAY, ⟨_, rfl⟩⟩
  c_FIRST_NOT_LOOKED_AT := ⟨_, PySem.W.mg_of X G q_c_FIRST_NOT_LOOKED_AT, ⟨_, rfl⟩⟩
  c_MOST_HANDED := ⟨_, PySem.W.mg_of X G q_c_MOST_HANDED, ⟨_, rfl⟩⟩
  c_MOST_ROWS := ⟨_, PySem.W.mg_of X G q_c_MOST_ROWS, ⟨_, rfl⟩⟩
  c_ROWS_OF_CELLS := ⟨_, PySem.W.mg_of X G q_c_ROWS_OF_CELLS, ⟨_, rfl⟩⟩
  c_TOO_MANY_WORDS := ⟨_, PySem.W.mg_of X G q_c_TOO_MANY_WORDS, ⟨_, rfl⟩⟩
  c_NO_ROOM := ⟨_, PySem.W.mg_of X G q_c_NO_ROOM, ⟨_, rfl⟩⟩
  c_NOT_THERE := ⟨_, PySem.W.mg_of X G q_c_NOT_THERE, ⟨_, rfl⟩⟩
  c_COUNT_OF_WORDS := ⟨_, PySem.W.mg_of X G q_c_COUNT_OF_WORDS, ⟨_, rfl⟩⟩
  c_WORD_FOR_ROW_OF_CELLS := ⟨_, PySem.W.mg_of X G q_c_WORD_FOR_ROW_OF_CELLS, ⟨_, rfl⟩⟩
  c_WORD_FOR_CELL := ⟨_, PySem.W.mg_of X G q_c_WORD_FOR_CELL, ⟨_, rfl⟩⟩
  c_NO_SUCH_ROW := ⟨_, PySem.W.mg_of X G q_c_NO_SUCH_ROW, ⟨_, rfl⟩⟩
  c_OTHER_COUNT_OF_WORDS := ⟨_, PySem.W.mg_of X G q_c_OTHER_COUNT_OF_WORDS, ⟨_, rfl⟩⟩
  c_CALL_CODE := ⟨_, PySem.W.mg_of X G q_c_CALL_CODE, ⟨_, rfl⟩⟩
  c_CALL_NUM := ⟨_, PySem.W.mg_of X G q_c_CALL_NUM, ⟨_, rfl⟩⟩
  c_CALL_READ := ⟨_, PySem.W.mg_of X G q_c_CALL_READ, ⟨_, rfl⟩⟩
  c_CALL_WRITE := ⟨_, PySem.W.mg_of X G q_c_CALL_WRITE, ⟨_, rfl⟩⟩
  c_CALL_SAY := ⟨_, PySem.W.mg_of X G q_c_CALL_SAY, ⟨_, rfl⟩⟩
  c_CALL_SHOWS := ⟨_, PySem.W.mg_of X G q_c_CALL_SHOWS, ⟨_, rfl⟩⟩
  c_CALL_RUN := ⟨_, PySem.W.mg_of X G q_c_CALL_RUN, ⟨_, rfl⟩⟩
  c_CALL_SEES := ⟨_, PySem.W.mg_of X G q_c_CALL_SEES, ⟨_, rfl⟩⟩
  c_CALL_SURE := ⟨_, PySem.W.mg_of X G q_c_CALL_SURE, ⟨_, rfl⟩⟩
  c_CALL_TRADE := ⟨_, PySem.W.mg_of X G q_c_CALL_TRADE, ⟨_, rfl⟩⟩
  c_CALL_BETTER := ⟨_, PySem.W.mg_of X G q_c_CALL_BETTER, ⟨_, rfl⟩⟩
  c_ARGUMENT_COUNTS := ⟨_, PySem.W.mg_of X G q_c_ARGUMENT_COUNTS, fun H => .inr ⟨_, _, _, q_l_ARGUMENT_COUNTS, rfl, rfl, (by show 12 ≤ sizeLine; decide), .cons ⟨_, rfl⟩ (.cons ⟨_, rfl⟩ (.cons ⟨_, rfl⟩ (.cons ⟨_, rfl⟩ (.cons ⟨_, rfl⟩ (.cons ⟨_, rfl⟩ (.cons ⟨_, rfl⟩ (.cons ⟨_, rfl⟩ (.cons ⟨_, rfl⟩ (.cons ⟨_, rfl⟩ (.cons ⟨_, rfl⟩ (.cons ⟨_, rfl⟩ (.nil))))))))))))⟩⟩
  c_CALLS_WITH_WORDS := ⟨_, PySem.W.mg_of X G q_c_CALLS_WITH_WORDS, fun H => .inr ⟨_, _, _, q_l_CALLS_WITH_WORDS, rfl, rfl, (by show 2 ≤ sizeLine; decide), .cons ⟨_, rfl⟩ (.cons ⟨_, rfl⟩ (.nil))⟩⟩
  cl_Code := ⟨q_pg_Code, q_hd_Code, q_po_Code, q_sa_Code⟩
  cls_Code := PySem.W.mg_of X G q_a_Code
  n_Code_handed := q_n_Code_handed
  n_Code_rows := q_n_Code_rows
  cl_Run := ⟨q_pg_Run, q_hd_Run, q_po_Run, q_sa_Run⟩
  cls_Run := PySem.W.mg_of X G q_a_Run
  n_Run_added := q_n_Run_added
  n_Run_named := q_n_Run_named
  n_Run_said := q_n_Run_said
  n_Run_words := q_n_Run_words
  n_Run_written := q_n_Run_written
  f_gives_name := ⟨_, _, PySem.W.mg_of X G q_a_gives_name, fun_mk (st := s_gives_name) q_l_gives_name q_c_gives_name q_k_gives_name⟩
  f_count_names := ⟨_, _, PySem.W.mg_of X G q_a_count_names, fun_mk (st := s_count_names) q_l_count_names q_c_count_names q_k_count_names⟩
  f_name_used := ⟨_, _, PySem.W.mg_of X G q_a_name_used, fun_mk (st := s_name_used) q_l_name_used q_c_name_used q_k_name_used⟩
  f_cells_of := ⟨_, _, PySem.W.mg_of X G q_a_cells_of, fun_mk (st := s_cells_of) q_l_cells_of q_c_cells_of q_k_cells_of⟩
  f_place_of := ⟨_, _, PySem.W.mg_of X G q_a_place_of, fun_mk (st := s_place_of) q_l_place_of q_c_place_of q_k_place_of⟩
  f_name_at_place := ⟨_, _, PySem.W.mg_of X G q_a_name_at_place, fun_mk (st := s_name_at_place) q_l_name_at_place q_c_name_at_place q_k_name_at_place⟩
  f_is_looked_at := ⟨_, _, PySem.W.mg_of X G q_a_is_looked_at, fun_mk (st := s_is_looked_at) q_l_is_looked_at q_c_is_looked_at q_k_is_looked_at⟩
  f_in_numbers := ⟨_, _, PySem.W.mg_of X G q_a_in_numbers, fun_mk (st := s_in_numbers) q_l_in_numbers q_c_in_numbers q_k_in_numbers⟩
  f_tells_place := ⟨_, _, PySem.W.mg_of X G q_a_tells_place, fun_mk (st := s_tells_place) q_l_tells_place q_c_tells_place q_k_tells_place⟩
  f_has_name := ⟨_, _, PySem.W.mg_of X G q_a_has_name, fun_mk (st := s_has_name) q_l_has_name q_c_has_name q_k_has_name⟩
  f_put_row := ⟨_, _, PySem.W.mg_of X G q_a_put_row, fun_mk (st := s_put_row) q_l_put_row q_c_put_row q_k_put_row⟩
  f_begin_code := ⟨_, _, PySem.W.mg_of X G q_a_begin_code, fun_mk (st := s_begin_code) q_l_begin_code q_c_begin_code q_k_begin_code⟩
  f_put_number := ⟨_, _, PySem.W.mg_of X G q_a_put_number, fun_mk (st := s_put_number) q_l_put_number q_c_put_number q_k_put_number⟩
  f_put_read := ⟨_, _, PySem.W.mg_of X G q_a_put_read, fun_mk (st := s_put_read) q_l_put_read q_c_put_read q_k_put_read⟩
  f_put_write := ⟨_, _, PySem.W.mg_of X G q_a_put_write, fun_mk (st := s_put_write) q_l_put_write q_c_put_write q_k_put_write⟩
  f_put_say := ⟨_, _, PySem.W.mg_of X G q_a_put_say, fun_mk (st := s_put_say) q_l_put_say q_c_put_say q_k_put_say⟩
  f_alike := ⟨_, _, PySem.W.mg_of X G q_a_alike, fun_mk (st := s_alike) q_l_alike q_c_alike q_k_alike⟩
  f_never_same := ⟨_, _, PySem.W.mg_of X G q_a_never_same, fun_mk (st := s_never_same) q_l_never_same q_c_never_same q_k_never_same⟩
  f_cell_at := ⟨_, _, PySem.W.mg_of X G q_a_cell_at, fun_mk (st := s_cell_at) q_l_cell_at q_c_cell_at q_k_cell_at⟩
  f_is_passed_over := ⟨_, _, PySem.W.mg_of X G q_a_is_passed_over, fun_mk (st := s_is_passed_over) q_l_is_passed_over q_c_is_passed_over q_k_is_passed_over⟩
  f_sure_name := ⟨_, _, PySem.W.mg_of X G q_a_sure_name, fun_mk (st := s_sure_name) q_l_sure_name q_c_sure_name q_k_sure_name⟩
  f_first_word := ⟨_, _, PySem.W.mg_of X G q_a_first_word, fun_mk (st := s_first_word) q_l_first_word q_c_first_word q_k_first_word⟩
  f_word_in := ⟨_, _, PySem.W.mg_of X G q_a_word_in, fun_mk (st := s_word_in) q_l_word_in q_c_word_in q_k_word_in⟩
  f_cell_key := ⟨_, _, PySem.W.mg_of X G q_a_cell_key, fun_mk (st := s_cell_key) q_l_cell_key q_c_cell_key q_k_cell_key⟩
  f_do_row := ⟨_, _, PySem.W.mg_of X G q_a_do_row, fun_mk (st := s_do_row) q_l_do_row q_c_do_row q_k_do_row⟩
  f_cells_to_tell := ⟨_, _, PySem.W.mg_of X G q_a_cells_to_tell, fun_mk (st := s_cells_to_tell) q_l_cells_to_tell q_c_cells_to_tell q_k_cells_to_tell⟩
  f_Run_init := ⟨_, _, ⟨q_mk_Run, q_a_Run_init, q_i_Run_init, q_kc_Run⟩, fun_mk (st := s_Run_init) q_l_Run_init q_c_Run_init q_k_Run_init⟩
  f_run_told := ⟨_, _, PySem.W.mg_of X G q_a_run_told, fun_mk (st := s_run_told) q_l_run_told q_c_run_told q_k_run_told⟩
  f_is_write_alike := ⟨_, _, PySem.W.mg_of X G q_a_is_write_alike, fun_mk (st := s_is_write_alike) q_l_is_write_alike q_c_is_write_alike q_k_is_write_alike⟩
  f_may_see_first := ⟨_, _, PySem.W.mg_of X G q_a_may_see_first, fun_mk (st := s_may_see_first) q_l_may_see_first q_c_may_see_first q_k_may_see_first⟩
  f_may_see := ⟨_, _, PySem.W.mg_of X G q_a_may_see, fun_mk (st := s_may_see) q_l_may_see q_c_may_see q_k_may_see⟩
  f_writes_seen := ⟨_, _, PySem.W.mg_of X G q_a_writes_seen, fun_mk (st := s_writes_seen) q_l_writes_seen q_c_writes_seen q_k_writes_seen⟩
  f_renamed := ⟨_, _, PySem.W.mg_of X G q_a_renamed, fun_mk (st := s_renamed) q_l_renamed q_c_renamed q_k_renamed⟩
  f_name_of_number := ⟨_, _, PySem.W.mg_of X G q_a_name_of_number, fun_mk (st := s_name_of_number) q_l_name_of_number q_c_name_of_number q_k_name_of_number⟩
  f_known_name := ⟨_, _, PySem.W.mg_of X G q_a_known_name, fun_mk (st := s_known_name) q_l_known_name q_c_known_name q_k_known_name⟩
  f_without_known := ⟨_, _, PySem.W.mg_of X G q_a_without_known, fun_mk (st := s_without_known) q_l_without_known q_c_without_known q_k_without_known⟩
  f_is_name_used := ⟨_, _, PySem.W.mg_of X G q_a_is_name_used, fun_mk (st := s_is_name_used) q_l_is_name_used q_c_is_name_used q_k_is_name_used⟩
  f_is_seen := ⟨_, _, PySem.W.mg_of X G q_a_is_seen, fun_mk (st := s_is_seen) q_l_is_seen q_c_is_seen q_k_is_seen⟩
  f_is_left := ⟨_, _, PySem.W.mg_of X G q_a_is_left, fun_mk (st := s_is_left) q_l_is_left q_c_is_left q_k_is_left⟩
  f_is_wanted := ⟨_, _, PySem.W.mg_of X G q_a_is_wanted, fun_mk (st := s_is_wanted) q_l_is_wanted q_c_is_wanted q_k_is_wanted⟩
  f_without_unseen := ⟨_, _, PySem.W.mg_of X G q_a_without_unseen, fun_mk (st := s_without_unseen) q_l_without_unseen q_c_without_unseen q_k_without_unseen⟩
  f_made_smaller := ⟨_, _, PySem.W.mg_of X G q_a_made_smaller, fun_mk (st := s_made_smaller) q_l_made_smaller q_c_made_smaller q_k_made_smaller⟩
  f_needs_name := ⟨_, _, PySem.W.mg_of X G q_a_needs_name, fun_mk (st := s_needs_name) q_l_needs_name q_c_needs_name q_k_needs_name⟩
  f_say_two_names := ⟨_, _, PySem.W.mg_of X G q_a_say_two_names, fun_mk (st := s_say_two_names) q_l_say_two_names q_c_say_two_names q_k_say_two_names⟩
  f_clash_in_cells := ⟨_, _, PySem.W.mg_of X G q_a_clash_in_cells, fun_mk (st := s_clash_in_cells) q_l_clash_in_cells q_c_clash_in_cells q_k_clash_in_cells⟩
  f_may_trade := ⟨_, _, PySem.W.mg_of X G q_a_may_trade, fun_mk (st := s_may_trade) q_l_may_trade q_c_may_trade q_k_may_trade⟩
  f_ask_shows := ⟨_, _, PySem.W.mg_of X G q_a_ask_shows, fun_mk (st := s_ask_shows) q_l_ask_shows q_c_ask_shows q_k_ask_shows⟩
  f_ask_run := ⟨_, _, PySem.W.mg_of X G q_a_ask_run, fun_mk (st := s_ask_run) q_l_ask_run q_c_ask_run q_k_ask_run⟩
  f_ask_sees := ⟨_, _, PySem.W.mg_of X G q_a_ask_sees, fun_mk (st := s_ask_sees) q_l_ask_sees q_c_ask_sees q_k_ask_sees⟩
  f_ask_sure := ⟨_, _, PySem.W.mg_of X G q_a_ask_sure, fun_mk (st := s_ask_sure) q_l_ask_sure q_c_ask_sure q_k_ask_sure⟩
  f_ask_trade := ⟨_, _, PySem.W.mg_of X G q_a_ask_trade, fun_mk (st := s_ask_trade) q_l_ask_trade q_c_ask_trade q_k_ask_trade⟩
  f_ask_better := ⟨_, _, PySem.W.mg_of X G q_a_ask_better, fun_mk (st := s_ask_better) q_l_ask_better q_c_ask_better q_k_ask_better⟩
  f_ask_runbetter := ⟨_, _, PySem.W.mg_of X G q_a_ask_runbetter, fun_mk (st := s_ask_runbetter) q_l_ask_runbetter q_c_ask_runbetter q_k_ask_runbetter⟩
  f_arguments_at := ⟨_, _, PySem.W.mg_of X G q_a_arguments_at, fun_mk (st := s_arguments_at) q_l_arguments_at q_c_arguments_at q_k_arguments_at⟩
  f_answer_building := ⟨_, _, PySem.W.mg_of X G q_a_answer_building, fun_mk (st := s_answer_building) q_l_answer_building q_c_answer_building q_k_answer_building⟩
  f_answer_asking := ⟨_, _, PySem.W.mg_of X G q_a_answer_asking, fun_mk (st := s_answer_asking) q_l_answer_asking q_c_answer_asking q_k_answer_asking⟩
  f_answer_call := ⟨_, _, PySem.W.mg_of X G q_a_answer_call, fun_mk (st := s_answer_call) q_l_answer_call q_c_answer_call q_k_answer_call⟩
  f_Code_init := ⟨_, _, ⟨q_mk_Code, q_a_Code_init, q_i_Code_init, q_kc_Code⟩, fun_mk (st := s_Code_init) q_l_Code_init q_c_Code_init q_k_Code_init⟩
  f_answers := ⟨_, _, PySem.W.mg_of X G q_a_answers, fun_mk (st := s_answers) q_l_answers q_c_answers q_k_answers⟩
end Seen
open PySem PySem.W PyProof.Rows
set_option maxRecDepth 100000 in
set_option maxHeartbeats 8000000 in
theorem PySem.Challenge.cw_seencellsdesk_s01_answers_holds : PySem.Challenge.rw_seencellsdesk_s01_answers.Holds := by
  w_on; k_headS; (case hw => exact ⟨[.list [.int 5]], by decide +kernel, by decide +kernel⟩)
  k_fillS
  refine L2.walk_specK (r := PySem.Challenge.rw_seencellsdesk_s01_answers) (k := 11) (CX := L2.CX0) (ps := ["calls"]) (sp := Seen.sp_answers) (by decide +kernel) rfl rfl ⟨rfl, by decide, by decide⟩ (fun w h Y => PySem.W.kIn_of Y) ?F ?S (fun _ _ _ _ z => z)
  case F =>
    intro w mg fa h Y KX G hmg
    refine' Seen.answers_fn ?T hmg
    case T =>
      refine' Seen.top_mk KX G ?q_a_Code ?q_pg_Code ?q_hd_Code ?q_po_Code ?q_sa_Code ?q_mk_Code ?q_kc_Code ?q_n_Code_handed ?q_n_Code_rows ?q_a_Run ?q_pg_Run ?q_hd_Run ?q_po_Run ?q_sa_Run ?q_mk_Run ?q_kc_Run ?q_n_Run_added ?q_n_Run_named ?q_n_Run_said ?q_n_Run_words ?q_n_Run_written ?q_b_len ?q_b_reversed ?q_b_sorted ?q_b_range ?q_b_any ?q_b_int ?q_b_dict ?q_b_enumerate ?q_c_NUMBER ?q_c_READ ?q_c_WRITE ?q_c_SAY ?q_c_FIRST_NOT_LOOKED_AT ?q_c_MOST_HANDED ?q_c_MOST_ROWS ?q_c_ROWS_OF_CELLS ?q_c_TOO_MANY_WORDS ?q_c_NO_ROOM ?q_c_NOT_THERE ?q_c_COUNT_OF_WORDS ?q_c_WORD_FOR_ROW_OF_CELLS ?q_c_WORD_FOR_CELL ?q_c_NO_SUCH_ROW ?q_c_OTHER_COUNT_OF_WORDS ?q_c_CALL_CODE ?q_c_CALL_NUM ?q_c_CALL_READ ?q_c_CALL_WRITE ?q_c_CALL_SAY ?q_c_CALL_SHOWS ?q_c_CALL_RUN ?q_c_CALL_SEES ?q_c_CALL_SURE ?q_c_CALL_TRADE ?q_c_CALL_BETTER ?q_c_ARGUMENT_COUNTS ?q_l_ARGUMENT_COUNTS ?q_c_CALLS_WITH_WORDS ?q_l_CALLS_WITH_WORDS ?q_a_gives_name ?q_l_gives_name ?q_c_gives_name ?q_k_gives_name ?q_a_count_names ?q_l_count_names ?q_c_count_names ?q_k_count_names ?q_a_name_used ?q_l_name_used ?q_c_name_used ?q_k_name_used ?q_a_cells_of ?q_l_cells_of ?q_c_cells_of ?q_k_cells_of ?q_a_place_of ?q_l_place_of ?q_c_place_of ?q_k_place_of ?q_a_name_at_place ?q_l_name_at_place ?q_c_name_at_place ?q_k_name_at_place ?q_a_is_looked_at ?q_l_is_looked_at ?q_c_is_looked_at ?q_k_is_looked_at ?q_a_in_numbers ?q_l_in_numbers ?q_c_in_numbers ?q_k_in_numbers ?q_a_tells_place ?q_l_tells_place ?q_c_tells_place ?q_k_tells_place ?q_a_has_name ?q_l_has_name ?q_c_has_name ?q_k_has_name ?q_a_put_row ?q_l_put_row ?q_c_put_row ?q_k_put_row ?q_a_begin_code ?q_l_begin_code ?q_c_begin_code ?q_k_begin_code ?q_a_put_number ?q_l_put_number ?q_c_put_number ?q_k_put_number ?q_a_put_read ?q_l_put_read ?q_c_put_read ?q_k_put_read ?q_a_put_write ?q_l_put_write ?q_c_put_write ?q_k_put_write ?q_a_put_say ?q_l_put_say ?q_c_put_say ?q_k_put_say ?q_a_alike ?q_l_alike ?q_c_alike ?q_k_alike ?q_a_never_same ?q_l_never_same ?q_c_never_same ?q_k_never_same ?q_a_cell_at ?q_l_cell_at ?q_c_cell_at ?q_k_cell_at ?q_a_is_passed_over ?q_l_is_passed_over ?q_c_is_passed_over ?q_k_is_passed_over ?q_a_sure_name ?q_l_sure_name ?q_c_sure_name ?q_k_sure_name ?q_a_first_word ?q_l_first_word ?q_c_first_word ?q_k_first_word ?q_a_word_in ?q_l_word_in ?q_c_word_in ?q_k_word_in ?q_a_cell_key ?q_l_cell_key ?q_c_cell_key ?q_k_cell_key ?q_a_do_row ?q_l_do_row ?q_c_do_row ?q_k_do_row ?q_a_cells_to_tell ?q_l_cells_to_tell ?q_c_cells_to_tell ?q_k_cells_to_tell ?q_a_Run_init ?q_i_Run_init ?q_l_Run_init ?q_c_Run_init ?q_k_Run_init ?q_a_run_told ?q_l_run_told ?q_c_run_told ?q_k_run_told ?q_a_is_write_alike ?q_l_is_write_alike ?q_c_is_write_alike ?q_k_is_write_alike ?q_a_may_see_first ?q_l_may_see_first ?q_c_may_see_first ?q_k_may_see_first ?q_a_may_see ?q_l_may_see ?q_c_may_see ?q_k_may_see ?q_a_writes_seen ?q_l_writes_seen ?q_c_writes_seen ?q_k_writes_seen ?q_a_renamed ?q_l_renamed ?q_c_renamed ?q_k_renamed ?q_a_name_of_number ?q_l_name_of_number ?q_c_name_of_number ?q_k_name_of_number ?q_a_known_name ?q_l_known_name ?q_c_known_name ?q_k_known_name ?q_a_without_known ?q_l_without_known ?q_c_without_known ?q_k_without_known ?q_a_is_name_used ?q_l_is_name_used ?q_c_is_name_used ?q_k_is_name_used ?q_a_is_seen ?q_l_is_seen ?q_c_is_seen ?q_k_is_seen ?q_a_is_left ?q_l_is_left ?q_c_is_left ?q_k_is_left ?q_a_is_wanted ?q_l_is_wanted ?q_c_is_wanted ?q_k_is_wanted ?q_a_without_unseen ?q_l_without_unseen ?q_c_without_unseen ?q_k_without_unseen ?q_a_made_smaller ?q_l_made_smaller ?q_c_made_smaller ?q_k_made_smaller ?q_a_needs_name ?q_l_needs_name ?q_c_needs_name ?q_k_needs_name ?q_a_say_two_names ?q_l_say_two_names ?q_c_say_two_names ?q_k_say_two_names ?q_a_clash_in_cells ?q_l_clash_in_cells ?q_c_clash_in_cells ?q_k_clash_in_cells ?q_a_may_trade ?q_l_may_trade ?q_c_may_trade ?q_k_may_trade ?q_a_ask_shows ?q_l_ask_shows ?q_c_ask_shows ?q_k_ask_shows ?q_a_ask_run ?q_l_ask_run ?q_c_ask_run ?q_k_ask_run ?q_a_ask_sees ?q_l_ask_sees ?q_c_ask_sees ?q_k_ask_sees ?q_a_ask_sure ?q_l_ask_sure ?q_c_ask_sure ?q_k_ask_sure ?q_a_ask_trade ?q_l_ask_trade ?q_c_ask_trade ?q_k_ask_trade ?q_a_ask_better ?q_l_ask_better ?q_c_ask_better ?q_k_ask_better ?q_a_ask_runbetter ?q_l_ask_runbetter ?q_c_ask_runbetter ?q_k_ask_runbetter ?q_a_arguments_at ?q_l_arguments_at ?q_c_arguments_at ?q_k_arguments_at ?q_a_answer_building ?q_l_answer_building ?q_c_answer_building ?q_k_answer_building ?q_a_answer_asking ?q_l_answer_asking ?q_c_answer_asking ?q_k_answer_asking ?q_a_answer_call ?q_l_answer_call ?q_c_answer_call ?q_k_answer_call ?q_a_Code_init ?q_i_Code_init ?q_l_Code_init ?q_c_Code_init ?q_k_Code_init ?q_a_answers ?q_l_answers ?q_c_answers ?q_k_answers
      (case q_a_Code => k_is)
      (case q_pg_Code => k_is)
      (case q_hd_Code => k_is)
      (case q_po_Code => k_is)
      (case q_sa_Code => k_is)
      (case q_mk_Code => k_is)
      (case q_kc_Code => k_is)
      (case q_n_Code_handed => k_is)
      (case q_n_Code_rows => k_is)
      (case q_a_Run => k_is)
      (case q_pg_Run => k_is)
      (case q_hd_Run => k_is)
      (case q_po_Run => k_is)
      (case q_sa_Run => k_is)
      (case q_mk_Run => k_is)
      (case q_kc_Run => k_is)
      (case q_n_Run_added => k_is)
      (case q_n_Run_named => k_is)
      (case q_n_Run_said => k_is)
      (case q_n_Run_words => k_is)
      (case q_n_Run_written => k_is)
      (case q_b_len => k_is)
      (case q_b_reversed => k_is)
      (case q_b_sorted => k_is)
      (case q_b_range => k_is)
      (case q_b_any => k_is)
      (case q_b_int => k_is)
      (case q_b_dict => k_is)
      (case q_b_enumerate => k_is)
      (case q_c_NUMBER => k_is)
      (case q_c_READ => k_is)
      (case q_c_WRITE => k_is)
      (case q_c_SAY => k_is)
      (case q_c_FIRST_NOT_LOOKED_AT => k_is)
      (case q_c_MOST_HANDED => k_is)
      (case q_c_MOST_ROWS => k_is)
      (case q_c_ROWS_OF_CELLS => k_is)
      (case q_c_TOO_MANY_WORDS => k_is)
      (case q_c_NO_ROOM => k_is)
      (case q_c_NOT_THERE => k_is)
      (case q_c_COUNT_OF_WORDS => k_is)
      (case q_c_WORD_FOR_ROW_OF_CELLS => k_is)
      (case q_c_WORD_FOR_CELL => k_is)
      (case q_c_NO_SUCH_ROW => k_is)
      (case q_c_OTHER_COUNT_OF_WORDS => k_is)
      (case q_c_CALL_CODE => k_is)
      (case q_c_CALL_NUM => k_is)
      (case q_c_CALL_READ => k_is)
      (case q_c_CALL_WRITE => k_is)
      (case q_c_CALL_SAY => k_is)
      (case q_c_CALL_SHOWS => k_is)
      (case q_c_CALL_RUN => k_is)
      (case q_c_CALL_SEES => k_is)
      (case q_c_CALL_SURE => k_is)
      (case q_c_CALL_TRADE => k_is)
      (case q_c_CALL_BETTER => k_is)
      (case q_c_ARGUMENT_COUNTS => k_is)
      (case q_l_ARGUMENT_COUNTS => k_is)
      (case q_c_CALLS_WITH_WORDS => k_is)
      (case q_l_CALLS_WITH_WORDS => k_is)
      (case q_a_gives_name => k_is)
      (case q_l_gives_name => k_is)
      (case q_c_gives_name => k_is)
      (case q_k_gives_name => k_is)
      (case q_a_count_names => k_is)
      (case q_l_count_names => k_is)
      (case q_c_count_names => k_is)
      (case q_k_count_names => k_is)
      (case q_a_name_used => k_is)
      (case q_l_name_used => k_is)
      (case q_c_name_used => k_is)
      (case q_k_name_used => k_is)
      (case q_a_cells_of => k_is)
      (case q_l_cells_of => k_is)
      (case q_c_cells_of => k_is)
      (case q_k_cells_of => k_is)
      (case q_a_place_of => k_is)
      (case q_l_place_of => k_is)
      (case q_c_place_of => k_is)
      (case q_k_place_of => k_is)
      (case q_a_name_at_place => k_is)
      (case q_l_name_at_place => k_is)
      (case q_c_name_at_place => k_is)
      (case q_k_name_at_place => k_is)
      (case q_a_is_looked_at => k_is)
      (case q_l_is_looked_at => k_is)
      (case q_c_is_looked_at => k_is)
      (case q_k_is_looked_at => k_is)
      (case q_a_in_numbers => k_is)
      (case q_l_in_numbers => k_is)
      (case q_c_in_numbers => k_is)
      (case q_k_in_numbers => k_is)
      (case q_a_tells_place => k_is)
      (case q_l_tells_place => k_is)
      (case q_c_tells_place => k_is)
      (case q_k_tells_place => k_is)
      (case q_a_has_name => k_is)
      (case q_l_has_name => k_is)
      (case q_c_has_name => k_is)
      (case q_k_has_name => k_is)
      (case q_a_put_row => k_is)
      (case q_l_put_row => k_is)
      (case q_c_put_row => k_is)
      (case q_k_put_row => k_is)
      (case q_a_begin_code => k_is)
      (case q_l_begin_code => k_is)
      (case q_c_begin_code => k_is)
      (case q_k_begin_code => k_is)
      (case q_a_put_number => k_is)
      (case q_l_put_number => k_is)
      (case q_c_put_number => k_is)
      (case q_k_put_number => k_is)
      (case q_a_put_read => k_is)
      (case q_l_put_read => k_is)
      (case q_c_put_read => k_is)
      (case q_k_put_read => k_is)
      (case q_a_put_write => k_is)
      (case q_l_put_write => k_is)
      (case q_c_put_write => k_is)
      (case q_k_put_write => k_is)
      (case q_a_put_say => k_is)
      (case q_l_put_say => k_is)
      (case q_c_put_say => k_is)
      (case q_k_put_say => k_is)
      (case q_a_alike => k_is)
      (case q_l_alike => k_is)
      (case q_c_alike => k_is)
      (case q_k_alike => k_is)
      (case q_a_never_same => k_is)
      (case q_l_never_same => k_is)
      (case q_c_never_same => k_is)
      (case q_k_never_same => k_is)
      (case q_a_cell_at => k_is)
      (case q_l_cell_at => k_is)
      (case q_c_cell_at => k_is)
      (case q_k_cell_at => k_is)
      (case q_a_is_passed_over => k_is)
      (case q_l_is_passed_over => k_is)
      (case q_c_is_passed_over => k_is)
      (case q_k_is_passed_over => k_is)
      (case q_a_sure_name => k_is)
      (case q_l_sure_name => k_is)
      (case q_c_sure_name => k_is)
      (case q_k_sure_name => k_is)
      (case q_a_first_word => k_is)
      (case q_l_first_word => k_is)
      (case q_c_first_word => k_is)
      (case q_k_first_word => k_is)
      (case q_a_word_in => k_is)
      (case q_l_word_in => k_is)
      (case q_c_word_in => k_is)
      (case q_k_word_in => k_is)
      (case q_a_cell_key => k_is)
      (case q_l_cell_key => k_is)
      (case q_c_cell_key => k_is)
      (case q_k_cell_key => k_is)
      (case q_a_do_row => k_is)
      (case q_l_do_row => k_is)
      (case q_c_do_row => k_is)
      (case q_k_do_row => k_is)
      (case q_a_cells_to_tell => k_is)
      (case q_l_cells_to_tell => k_is)
      (case q_c_cells_to_tell => k_is)
      (case q_k_cells_to_tell => k_is)
      (case q_a_Run_init => k_is)
      (case q_i_Run_init => k_is)
      (case q_l_Run_init => k_is)
      (case q_c_Run_init => k_is)
      (case q_k_Run_init => k_is)
      (case q_a_run_told => k_is)
      (case q_l_run_told => k_is)
      (case q_c_run_told => k_is)
      (case q_k_run_told => k_is)
      (case q_a_is_write_alike => k_is)
      (case q_l_is_write_alike => k_is)
      (case q_c_is_write_alike => k_is)
      (case q_k_is_write_alike => k_is)
      (case q_a_may_see_first => k_is)
      (case q_l_may_see_first => k_is)
      (case q_c_may_see_first => k_is)
      (case q_k_may_see_first => k_is)
      (case q_a_may_see => k_is)
      (case q_l_may_see => k_is)
      (case q_c_may_see => k_is)
      (case q_k_may_see => k_is)
      (case q_a_writes_seen => k_is)
      (case q_l_writes_seen => k_is)
      (case q_c_writes_seen => k_is)
      (case q_k_writes_seen => k_is)
      (case q_a_renamed => k_is)
      (case q_l_renamed => k_is)
      (case q_c_renamed => k_is)
      (case q_k_renamed => k_is)
      (case q_a_name_of_number => k_is)
      (case q_l_name_of_number => k_is)
      (case q_c_name_of_number => k_is)
      (case q_k_name_of_number => k_is)
      (case q_a_known_name => k_is)
      (case q_l_known_name => k_is)
      (case q_c_known_name => k_is)
      (case q_k_known_name => k_is)
      (case q_a_without_known => k_is)
      (case q_l_without_known => k_is)
      (case q_c_without_known => k_is)
      (case q_k_without_known => k_is)
      (case q_a_is_name_used => k_is)
      (case q_l_is_name_used => k_is)
      (case q_c_is_name_used => k_is)
      (case q_k_is_name_used => k_is)
      (case q_a_is_seen => k_is)
      (case q_l_is_seen => k_is)
      (case q_c_is_seen => k_is)
      (case q_k_is_seen => k_is)
      (case q_a_is_left => k_is)
      (case q_l_is_left => k_is)
      (case q_c_is_left => k_is)
      (case q_k_is_left => k_is)
      (case q_a_is_wanted => k_is)
      (case q_l_is_wanted => k_is)
      (case q_c_is_wanted => k_is)
      (case q_k_is_wanted => k_is)
      (case q_a_without_unseen => k_is)
      (case q_l_without_unseen => k_is)
      (case q_c_without_unseen => k_is)
      (case q_k_without_unseen => k_is)
      (case q_a_made_smaller => k_is)
      (case q_l_made_smaller => k_is)
      (case q_c_made_smaller => k_is)
      (case q_k_made_smaller => k_is)
      (case q_a_needs_name => k_is)
      (case q_l_needs_name => k_is)
      (case q_c_needs_name => k_is)
      (case q_k_needs_name => k_is)
      (case q_a_say_two_names => k_is)
      (case q_l_say_two_names => k_is)
      (case q_c_say_two_names => k_is)
      (case q_k_say_two_names => k_is)
      (case q_a_clash_in_cells => k_is)
      (case q_l_clash_in_cells => k_is)
      (case q_c_clash_in_cells => k_is)
      (case q_k_clash_in_cells => k_is)
      (case q_a_may_trade => k_is)
      (case q_l_may_trade => k_is)
      (case q_c_may_trade => k_is)
      (case q_k_may_trade => k_is)
      (case q_a_ask_shows => k_is)
      (case q_l_ask_shows => k_is)
      (case q_c_ask_shows => k_is)
      (case q_k_ask_shows => k_is)
      (case q_a_ask_run => k_is)
      (case q_l_ask_run => k_is)
      (case q_c_ask_run => k_is)
      (case q_k_ask_run => k_is)
      (case q_a_ask_sees => k_is)
      (case q_l_ask_sees => k_is)
      (case q_c_ask_sees => k_is)
      (case q_k_ask_sees => k_is)
      (case q_a_ask_sure => k_is)
      (case q_l_ask_sure => k_is)
      (case q_c_ask_sure => k_is)
      (case q_k_ask_sure => k_is)
      (case q_a_ask_trade => k_is)
      (case q_l_ask_trade => k_is)
      (case q_c_ask_trade => k_is)
      (case q_k_ask_trade => k_is)
      (case q_a_ask_better => k_is)
      (case q_l_ask_better => k_is)
      (case q_c_ask_better => k_is)
      (case q_k_ask_better => k_is)
      (case q_a_ask_runbetter => k_is)
      (case q_l_ask_runbetter => k_is)
      (case q_c_ask_runbetter => k_is)
      (case q_k_ask_runbetter => k_is)
      (case q_a_arguments_at => k_is)
      (case q_l_arguments_at => k_is)
      (case q_c_arguments_at => k_is)
      (case q_k_arguments_at => k_is)
      (case q_a_answer_building => k_is)
      (case q_l_answer_building => k_is)
      (case q_c_answer_building => k_is)
      (case q_k_answer_building => k_is)
      (case q_a_answer_asking => k_is)
      (case q_l_answer_asking => k_is)
      (case q_c_answer_asking => k_is)
      (case q_k_answer_asking => k_is)
      (case q_a_answer_call => k_is)
      (case q_l_answer_call => k_is)
      (case q_c_answer_call => k_is)
      (case q_k_answer_call => k_is)
      (case q_a_Code_init => k_is)
      (case q_i_Code_init => k_is)
      (case q_l_Code_init => k_is)
      (case q_c_Code_init => k_is)
      (case q_k_Code_init => k_is)
      (case q_a_answers => k_is)
      (case q_l_answers => k_is)
      (case q_c_answers => k_is)
      (case q_k_answers => k_is)
  case S =>
    intro K H xs a hO hwi hask hx
    cases hx with
    | cons h1 h2 =>
      cases h2
      cases h1 with
      | lst hs ha =>
        have e := L2.ints_dw a.1 _ ha
        subst e
        exact ⟨_, a.1, rfl, hs, hask, fun H' p hp => .lst (L2.SqL.of hp) (L2.dw_ints _)⟩
