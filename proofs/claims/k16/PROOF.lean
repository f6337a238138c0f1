import PyProof.Rows.All
import Wide.All
import OpenK.AllK
import Wide.FinOn
import HandS.ForMost
import HandS.Conv
import HandS.Zip
import HandS.TupAny
import HandS.IsInst
import HandS.SortRule
import HandS.DictTup
import HandS.WrittenGet
import PySem.Challenge.RW_drumlay_k16_whole_what_stands_there_does
import KE.GoesEnum
import KE.GoesMore
import HandS.Strs
import HandS.SetFor
import HandS.SortInts
import KE.GoesZip
import HandS.ExcIs
import HandS.Lambda
import PyProof.FactsAll.tuple
import KE.SortData
import HandS.SortOrd
import HandS.DictComp
import KE.KDictList
import HandS.Defaults
import KE.KDflt
import HandS.SortKw
import KE.SortKeyHeap
import HandS.EndOwn
import KE.KStateDown
import HandS.Head0
import HandS.Head1
import HandS.Head2
import HandS.Head3
set_option Elab.async false
set_option linter.all false
set_option maxRecDepth 100000
set_option maxHeartbeats 4000000
namespace DL
open PySem L2
abbrev Frg := PySem.W.Frag
/-! ### heaps -/
theorem sz {n : Nat} (h : n ≤ 100000) : n ≤ sizeLine := Nat.le_trans h (by decide)
theorem szl {n : Nat} (h : n < 100000) : n < sizeLine := Nat.lt_of_lt_of_le h (by decide)
def But (d : Addr) (H H' : Hp) : Prop := ∀ a o, a ≠ d → H a = some o → H' a = some o
theorem But.refl (d : Addr) (H : Hp) : But d H H := fun _ _ _ h => h
theorem But.trans {d : Addr} {H H1 H2 : Hp} (a : But d H H1) (b : But d H1 H2) : But d H H2 := fun x o n h => b x o n (a x o n h)
theorem But.of {d : Addr} {H H' : Hp} (a : Same H H') : But d H H' := fun x o _ h => a x o h
abbrev Same1 := @L2.Same
theorem Same.new {H : Hp} {p : Addr} {o : HO} (h : H p = none) : Same H (upd H p o) := fun a u e => by
  rw [upd_ne (ne_of_none e h)]; exact e
theorem Same.mut {H H' : Hp} {p : Addr} {o : HO} (e : Same H H') (h : H p = none) : Same H (upd H' p o) := fun a u ha => by
  rw [upd_ne (ne_of_none ha h)]; exact e a u ha
theorem Same.get {H H' : Hp} (s : Same H H') {a : Addr} {o : HO} (h : H a = some o) : H' a = some o := s a o h
def DiceV (H : Hp) (d sa : Addr) : Prop := ∃ (i m r : Int), H d = some (.lst [.ref sa, .int i, .int m, .int r]) ∧ 0 ≤ i ∧ 0 ≤ m ∧ m < 2147483647
structure Ent (K : Frg) (H : Hp) (d sa : Addr) (ns : List Int) : Prop where
  dice : DiceV H d sa
  scr : SqL K H sa (ns.map V.int)
  len : ns.length ≤ 63
structure Dc (K : Frg) (H0 H : Hp) (d sa : Addr) (ns : List Int) : Prop where
  e0 : Ent K H0 d sa ns
  but : But d H0 H
  dice : DiceV H d sa
variable {K : Frg} {H0 H H' : Hp} {d sa : Addr} {ns : List Int}
theorem But.seq (b : But d H0 H) (dv : DiceV H0 d sa) (h : SqL K H0 sa (ns.map V.int)) : SqL K H sa (ns.map V.int) := by
  obtain ⟨i, m, r, z, _⟩ := dv
  rcases h with (h | ⟨o, h⟩) | h
  · refine .inl (.inl (b _ _ (fun e => ?_) h))
    subst e
    rw [z] at h
    have q : ([.ref sa, .int i, .int m, .int r] : List V) = ns.map V.int := by injection (Option.some.inj h)
    cases ns with
    | nil => cases q
    | cons x xs => have q2 := (List.cons.inj q).1; cases q2
  · refine .inl (.inr ⟨o, b _ _ (fun e => ?_) h⟩)
    subst e
    rw [z] at h; cases h
  · exact .inr h
theorem Dc.refl (e : Ent K H d sa ns) : Dc K H H d sa ns := ⟨e, But.refl _ _, e.dice⟩
theorem Dc.ent (c : Dc K H0 H d sa ns) : Ent K H d sa ns := ⟨c.dice, c.but.seq c.e0.dice c.e0.scr, c.e0.len⟩
theorem Dc.here (c : Dc K H0 H d sa ns) {p : Addr} (h : H p = none) : H0 p = none := by
  cases q : H0 p with
  | none => rfl
  | some o =>
    by_cases e : p = d
    · subst e
      obtain ⟨i, m, r, z, _⟩ := c.dice
      rw [z] at h; cases h
    · rw [c.but p o e q] at h; cases h
theorem Dc.ned (c : Dc K H0 H d sa ns) {p : Addr} (h : H0 p = none) : p ≠ d := fun e => by
  subst e
  obtain ⟨i, m, r, z, _⟩ := c.e0.dice
  rw [z] at h; cases h
theorem Dc.mut (c : Dc K H0 H d sa ns) {p : Addr} {o : HO} (h : H0 p = none) : Dc K H0 (upd H p o) d sa ns := by
  refine ⟨c.e0, fun a u n e => ?_, ?_⟩
  · rw [upd_ne (ne_of_none e h)]; exact c.but a u n e
  · obtain ⟨i, m, r, z, q⟩ := c.dice
    exact ⟨i, m, r, by rw [upd_ne (c.ned h).symm]; exact z, q⟩
theorem Dc.new (c : Dc K H0 H d sa ns) {p : Addr} {o : HO} (h : H p = none) : Dc K H0 (upd H p o) d sa ns := c.mut (c.here h)
theorem Dc.trans (c : Dc K H0 H d sa ns) (c2 : Dc K H H' d sa ns) : Dc K H0 H' d sa ns := ⟨c.e0, c.but.trans c2.but, c2.dice⟩
theorem Dc.same (c : Dc K H0 H d sa ns) (s : Same H H') : Dc K H0 H' d sa ns := by
  obtain ⟨i, m, r, z, q⟩ := c.dice
  exact ⟨c.e0, c.but.trans (But.of s), i, m, r, s _ _ z, q⟩
theorem Dc.roll (c : Dc K H0 H d sa ns) {i m r : Int} (h0 : 0 ≤ i) (h1 : 0 ≤ m) (h2 : m < 2147483647) : Dc K H0 (upd H d (.lst [.ref sa, .int i, .int m, .int r])) d sa ns :=
  ⟨c.e0, fun a u n e => by rw [upd_ne n]; exact c.but a u n e, ⟨i, m, r, upd_same, h0, h1, h2⟩⟩
def Kp (H H' : Hp) : Prop := ∀ a xs, H a = some (.tup xs) → H' a = some (.tup xs)
theorem Kp.refl (H : Hp) : Kp H H := fun _ _ h => h
theorem Kp.trans {H H1 H2 : Hp} (a : Kp H H1) (b : Kp H1 H2) : Kp H H2 := fun x o h => b x o (a x o h)
theorem Kp.same (s : Same H H') : Kp H H' := fun a xs h => s a _ h
theorem Kp.new {p : Addr} {o : HO} (h : H p = none) : Kp H (upd H p o) := Kp.same (Same.new h)
theorem Kp.lst {p : Addr} {o : HO} {ys : List V} (h : H p = some (.lst ys)) : Kp H (upd H p o) := fun a xs e => by
  rw [upd_ne (ne_of e h (by intro z; cases z))]; exact e
theorem Dc.kp (c : Dc K H0 H d sa ns) : Kp H0 H := fun a xs h => c.but a _ (by
  intro e; subst e
  obtain ⟨i, m, r, z, _⟩ := c.e0.dice
  rw [z] at h; cases h) h
@[elab_as_elim] theorem alloc {R : Hp → Prop} {H : Hp} {p : Addr} {o : HO} (hp : H p = none) (k : ∀ H', Same H H' → H' p = some o → R H') : R (upd H p o) := k _ (Same.new hp) upd_same
@[elab_as_elim] theorem change {R : Hp → Prop} {H : Hp} {p : Addr} {o : HO} (k : ∀ H', But p H H' → H' p = some o → R H') : R (upd H p o) := k _ (fun a u n e => by rw [upd_ne n]; exact e) upd_same
/-! ### one list read or written by place -/
theorem at0 {x : V} {xs : List V} : atI (x :: xs) 0 = some x := atI_nat (j := 0) rfl
theorem at1 {x y : V} {xs : List V} : atI (x :: y :: xs) 1 = some y := atI_nat (j := 1) rfl
theorem at2 {x y z : V} {xs : List V} : atI (x :: y :: z :: xs) 2 = some z := atI_nat (j := 2) rfl
theorem at3 {x y z u : V} {xs : List V} : atI (x :: y :: z :: u :: xs) 3 = some u := atI_nat (j := 3) rfl
theorem pg_tupK {X : Cx} {pos : Pos} (K : PySem.W.Frag) (hK : X.K = K) {es : List Expr} {k : Nat} {t : TGs} {n : Nat} (hc : X.calm = true) (h : PGs X es t)
    (hn : (assignEach es X.env).length = n := by rfl) (hst : (assignEach es X.env).findIdx? (·.1) = none := by rfl) : PG X (.Tuple es k pos) (gTup K n t) := hK ▸ pg_tup hc h hn hst
theorem upd_none {H : Hp} {p a : Addr} {o : HO} (h : upd H p o a = none) : H a = none := by
  by_cases e : a = p
  · subst e; rw [upd_same] at h; cases h
  · rwa [upd_ne e] at h
theorem range_elim {lo : Int} {n : Nat} {g : TG} {tb : TS} {D : Ends} {σ : L2.St} {H : Hp} (Pv : Nat → L2.St → Hp → Prop) (R : L2.St → Hp → Prop) (h0 : Pv 0 σ H) (key : ∀ σ H, R σ H → D.nx σ H)
    (hs : ∀ Nx : L2.St → Hp → Prop, (∀ σ H, R σ H → Nx σ H) → ∀ i σ H, i < n → Pv i σ H →
      g (.int (lo + i)) σ H fun σ2 H2 => tb { D with nx := Pv (i + 1), ct := Pv (i + 1), bk := Nx } σ2 H2) (hd : ∀ σ H, Pv n σ H → R σ H) :
    ∃ W : Nat → Nat → L2.St → Hp → Prop, (∃ m, W 0 m σ H) ∧ ∀ i m σ H, W i m σ H →
      ((Itr lo n).stop i H ∧ D.nx σ H) ∨ ((Itr lo n).go i H ∧ ∃ N : L2.St → Hp → Prop, (∀ σ' H', N σ' H' → ∃ m', m' < m ∧ W (i + 1) m' σ' H') ∧
        ∀ x H', (Itr lo n).yld i H x H' → g x σ H' fun σ2 H2 => tb { D with nx := N, ct := N, bk := D.nx } σ2 H2) := for_range Pv h0 (hs D.nx key) fun σ H h => key _ _ (hd _ _ h)
end DL
namespace DLR
open PySem PySem.Spec PyProof.Rows L2
/-! ### enumerate(a tuple) -/
def itO (a : Addr) : Obj := { cls := .type "tuple_iterator", data := .fields #[.ref a, .int 0 0] }
def enO (i : Addr) : Obj := { cls := .type "enumerate", data := .fields #[.none, .bool false, .ref i, rawInt 0, .none, .none] }
theorem made_enumT (a : Addr) (items : Array Value) :
    Meets (Builtin.«enumerate.__new__» ⟨[.type "enumerate", .ref a], []⟩) (fun _ R s => s.heap.IsTuple a items ∧
      R (.ok (.ret (.ref (s.heap.push (itO a)).objs.size))) { s with heap := (s.heap.push (itO a)).push (enO s.heap.objs.size) }) := by
  refine .of_wp fun prog w A R s h => ?_
  obtain ⟨hp, g, d, tk, os⟩ := s
  obtain ⟨h1, h⟩ := h
  have hs2 := sub_enumerate
  have it1 : ∀ {A' : Around} {E : Value → Shared → Prop} {Q : Value → Shared → Prop}, Q (.ref hp.objs.size) ⟨hp.push (itO a), g, d, tk, os⟩ →
      wpAny (model prog w) A' (pyIter (.ref a)) Q E ⟨hp, g, d, tk, os⟩ := fun q => (begins_tuple a items).iter prog w _ _ ⟨hp, g, d, tk, os⟩ _ h1 q
  wp_walk using it1
  refine wpAny_stack_any fun st => wpAny_pure ?_
  split
  · rename_i c _ _ _ _ _
    cases (c == Value.type "enumerate") <;> (wp_walk using it1; exact ⟨_, rfl, h⟩)
  · wp_walk using it1
    exact ⟨_, rfl, h⟩
section
variable {prog : Program} {w : World} {A : Around} {E : Value → Shared → Prop} {s : Shared}
theorem call_enumT {a : Addr} {items : Array Value} {Q : Value → Shared → Prop} (hT : s.heap.IsTuple a items)
    (h : ∀ h', IsEnum h' (s.heap.objs.size + 1) s.heap.objs.size 0 .none → h'.IsTupleIter s.heap.objs.size a 0 → (∀ b o, s.heap.get? b = some o → h'.get? b = some o) →
      Q (.ref (s.heap.objs.size + 1)) { s with heap := h' }) : wpAny (model prog w) A (call (.type "enumerate") [.ref a]) Q E s := by
  refine callType_new F.called_enumerate (by decide) (F.typeCall_enumerate_1 _) (F.newCall_enumerate_1 _)
    (fun obj => F.args_object_init_2 obj _) F.entry_enumerate_new (made_enumT a items) ⟨hT, ?_⟩
  have hz : (s.heap.push (itO a)).objs.size = s.heap.objs.size + 1 := Heap.size_push ..
  show _ ∧ _
  rw [hz]
  have he : IsEnum ((s.heap.push (itO a)).push (enO s.heap.objs.size)) (s.heap.objs.size + 1) s.heap.objs.size 0 .none := by
    have q := Heap.get?_push_size (s.heap.push (itO a)) (o := enO s.heap.objs.size) rfl
    rw [hz] at q
    exact q
  exact ⟨⟨_, he, rfl⟩, h _ he ⟨_, Heap.get?_push_of_some _ (Heap.get?_push_size _ rfl), rfl, rfl⟩
    fun b o x => Heap.get?_push_of_some _ (Heap.get?_push_of_some _ x)⟩
end
def IteT (K : PySem.W.Frag) (a : Addr) : It :=
  ⟨fun i H => ∃ (xs : List V) (x : V), SqT K H a xs ∧ xs[i]? = some x,
   fun i H v H' => ∃ T x, v = .ref T ∧ H T = none ∧ H' = upd H T (.tup [.int (i : Nat), x]) ∧ ∀ xs, SqT K H a xs → xs[i]? = some x,
   fun i H => ∃ xs : List V, SqT K H a xs ∧ xs.length ≤ i⟩
theorem turn_enumT {P : Program} {w : World} {K : PySem.W.Frag} {elts : List Expr} {kk : Nat} {tpos : Pos} (a e it : Addr) :
    Turn P w K (.Tuple elts kk tpos) (IteT K a) [e, it] e (fun i h => (∃ old, IsEnum h e it ((i : Nat) : Int) old) ∧ h.IsTupleIter it a i ∧ e ≠ it ∧ a ≠ e ∧ a ≠ it) where
  mem := by simp
  obj := fun i h st b hb => by
    obtain ⟨⟨old, he⟩, ⟨o, ho, hc, hd⟩, _⟩ := st
    rcases (show b = e ∨ b = it by simpa using hb) with z | z
    · rw [z]; exact ⟨_, he, fun v q => nomatch q⟩
    · rw [z]; exact ⟨o, ho, fun v q => by rw [hd] at q; cases q⟩
  keep := fun i h h' st k => let ⟨⟨old, he⟩, hi, z⟩ := st; ⟨⟨old, k e (by simp) _ he⟩, hi.at fun o q => k it (by simp) o q, z⟩
  item := by
    intro X hP hw hK hc i pins s σ H E I hf st hg
    subst hP hw hK
    obtain ⟨⟨old, he⟩, hit, hne, hae, hai⟩ := st
    obtain ⟨xs, x, hq, hx⟩ := hg
    obtain ⟨its, rv, p, hz⟩ := I.tuple hq
    obtain ⟨u, hu, ru⟩ := rv.get hx
    have hel : e < s.heap.objs.size := Heap.lt_size he
    have hil : it < s.heap.objs.size := by obtain ⟨_, q, _⟩ := hit; exact Heap.lt_size q
    have hlt : i < its.toArray.size := by
      have q := (List.getElem?_eq_some_iff.mp hu).1
      simpa using q
    refine wpAny_pyNext_enum_itemD (Draws.tuple (A := X.A.in1) (I.ok.hd hc) it a hai its.toArray) he ⟨hit, p⟩ hlt hne
      (by simp [hne, Ne.symm hae]) fun v h' tk hv ho hst' hT hsz hk => ?_
    have ev : v = u := by
      have q : its[i]? = some v := by simpa using hv
      rw [hu] at q
      exact (Option.some.inj q).symm
    subst ev
    refine ⟨_, rfl, wpAny_letOwnedTupleGo_enum (s := { s with heap := h', toks := tk + 1 }) ho fun h'' he' sb => ?_⟩
    have hT2 := (sb.2 _ (Nat.ne_of_gt hel)).trans hT
    have new : ObjOk X.prog X.w (upd H s.heap.objs.size (.tup [.int (i : Nat), x])) h'' s.heap.objs.size (.tup [.int (i : Nat), x]) :=
      ⟨by show 2 ≤ sizeLine; decide, [.int i tk, v], .cons ⟨_, rfl⟩ (.cons ru .nil), ⟨_, hT2, rfl, _, rfl⟩⟩
    have I1 : Inv X pins σ (upd H s.heap.objs.size (.tup [.int (i : Nat), x])) { s with heap := h'', toks := tk + 1 } :=
      I.turnedNew (ch := [e, it]) (fun b ob hb q =>
        (sb.2 b (fun z => hb (by simp [z]))).trans (hk b ob (fun z => hb (by simp [z])) (fun z => hb (by simp [z])) q)) hf (Nat.le_refl _) new
    refine ⟨.ref s.heap.objs.size, _, I1, rfl, ⟨_, x, rfl, I.hok.fresh (Nat.le_refl _), rfl, fun ys hy => by rw [I.tuple_inj hy hq]; exact hx⟩,
      ⟨⟨v, ?_⟩, hst'.1.at fun o q => (sb.2 it (Ne.symm hne)).trans q, hne, hae, hai⟩, fun b hb => ?_⟩
    · rw [show ((i + 1 : Nat) : Int) = (i : Int) + 1 by omega]
      exact he'
    · have hb' : b < s.heap.objs.size := by
        rcases (show b = e ∨ b = it by simpa using hb) with z | z
        · rw [z]; exact hel
        · rw [z]; exact hil
      rw [upd_ne (Nat.ne_of_lt hb')]
      exact (hf b hb).1
  done := by
    intro X hP hw hK hc i pins s σ H E I hf st hg
    subst hP hw hK
    obtain ⟨⟨old, he⟩, hit, hne, hae, hai⟩ := st
    obtain ⟨xs, hq, hx⟩ := hg
    obtain ⟨its, rv, p, hz⟩ := I.tuple hq
    obtain ⟨f0, f1, f2, f3, f4, f5⟩ := hf it (by simp)
    have hl := rv.length
    have hnone : its.toArray[i]? = none := by simp; omega
    have D : Draws X.prog X.w X.A.in1 it [it, a] 0 (fun _ _ => False) (fun _ h => h.IsTupleIter it a i ∧ h.IsTuple a its.toArray) :=
      { live := fun _ _ st => let ⟨o, ho, _⟩ := st.1; ⟨o, ho⟩
        frame := fun _ _ _ st hk => ⟨st.1.at fun o e => hk it (by simp) o e, st.2.at fun o e => hk a (by simp) o e⟩
        item := fun i s Q E hi => absurd hi (Nat.not_lt_zero _)
        done := fun s Q E st hE => wpAny_nextOf_tuple_end (I.ok.hd hc) st.1 st.2 hnone hE }
    exact wpAny_pyNext_enum_endD D he ⟨hit, p⟩ fun h' eb => ⟨rfl, I.turned (t' := s.toks) (fun b o hb q => eb b o hb q) f0 f1 f3 f4 f5⟩
  self := fun A i s Q E st h => let ⟨⟨_, he⟩, _⟩ := st; wpAny_pyIter_enum he h
def iEnumT (K : PySem.W.Frag) (ta : TA) : TI := fun σ H R => ta σ H fun vs H1 => ∃ a xs, vs = [.ref a] ∧ SqT K H1 a xs ∧ R (IteT K a) H1
theorem pi_enumT {X : Cx} {e : Expr} {ta : TA} {p pos tpos : Pos} {elts : List Expr} {kk : Nat} (hg : Gl X "enumerate") (hm : X.mg "enumerate" = none) (ha : PA X [e] ta)
    (hs : starEach [e] X.env = [(false, eval e X.env)] := by rfl) : PI X (.Tuple elts kk tpos) (.Call (.Name "enumerate" p) [e] [] pos) (iEnumT X.K ta) := by
  refine ⟨fun pins s σ H R I h => ?_⟩
  refine Call_ (ld_blt I hg hm boot_enumerate (PyProof.Rows.callWith_type1 (thn (ha.run pos pins s σ H _ I h) fun us s1 ⟨vs, H1, I1, r1, q1⟩ => ?_) hs rfl))
  obtain ⟨a, xs, ex, hq, q⟩ := q1
  subst ex
  cases r1 with
  | cons r rr =>
    cases rr
    cases r
    obtain ⟨its, rv, p', hz⟩ := I1.tuple hq
    have hal : a < s1.heap.objs.size := by obtain ⟨o, q, _⟩ := p'; exact Heap.lt_size q
    refine call_enumT p' fun h' he hit hk => wpAny_pyIter_enum he ?_
    have I2 : Inv X pins σ H1 { s1 with heap := h' } := I1.kept (t' := s1.toks) hk
    refine ⟨s1.heap.objs.size + 1, [s1.heap.objs.size + 1, s1.heap.objs.size], _, _, H1, rfl, I2, turn_enumT a (s1.heap.objs.size + 1) s1.heap.objs.size,
      ⟨⟨.none, he⟩, hit, Nat.succ_ne_self _, Nat.ne_of_lt (Nat.lt_succ_of_lt hal), Nat.ne_of_lt hal⟩, fun b hb => ?_, q⟩
    have hle : s1.heap.objs.size ≤ b := by
      rcases (show b = s1.heap.objs.size + 1 ∨ b = s1.heap.objs.size by simpa using hb) with z | z
      · rw [z]; exact Nat.le_succ _
      · rw [z]; exact Nat.le_refl _
    exact I1.fpOk hle (I1.hok.fresh hle)
theorem for_enumT {K : PySem.W.Frag} {a : Addr} {xs : List V} {g : TG} {tb : TS} {D : Ends} {σ : L2.St} {H : Hp} (Pv : Nat → L2.St → Hp → Prop) (h0 : Pv 0 σ H) (hq : ∀ i σ H, Pv i σ H → SqT K H a xs)
    (hs : ∀ i x T σ H, xs[i]? = some x → Pv i σ H → H T = none → g (.ref T) σ (upd H T (.tup [.int (i : Nat), x])) fun σ2 H2 => tb { D with nx := Pv (i + 1), ct := Pv (i + 1), bk := D.nx } σ2 H2)
    (hd : ∀ σ H, Pv xs.length σ H → D.nx σ H) :
    ∃ W : Nat → Nat → L2.St → Hp → Prop, (∃ m, W 0 m σ H) ∧ ∀ i m σ H, W i m σ H →
      ((IteT K a).stop i H ∧ D.nx σ H) ∨ ((IteT K a).go i H ∧ ∃ N : L2.St → Hp → Prop, (∀ σ' H', N σ' H' → ∃ m', m' < m ∧ W (i + 1) m' σ' H') ∧ ∀ x H', (IteT K a).yld i H x H' → g x σ H' fun σ2 H2 => tb { D with nx := N, ct := N, bk := D.nx } σ2 H2) := by
  refine ⟨fun i m σ H => m = xs.length - i ∧ i ≤ xs.length ∧ Pv i σ H, ⟨xs.length, rfl, Nat.zero_le _, h0⟩, ?_⟩
  rintro i m σ H ⟨rfl, hi, p⟩
  have qx := hq i σ H p
  by_cases hlt : i < xs.length
  · refine .inr ⟨⟨xs, _, qx, List.getElem?_eq_getElem hlt⟩, Pv (i + 1), fun σ' H' p' => ⟨_, by omega, rfl, hlt, p'⟩, fun v H' y => ?_⟩
    obtain ⟨T, x', rfl, hT, rfl, f1⟩ := y
    exact hs i x' T σ H (f1 xs qx) p hT
  · have e : i = xs.length := by omega
    subst e
    exact .inl ⟨⟨xs, qx, Nat.le_refl _⟩, hd σ H p⟩
/-! ### slices and sums of tuples, told by what holds behind -/
theorem cut_whole {xs : List V} {lo hi : Option Int} (h : HT.sIx xs.length 0 lo = 0 ∧ HT.sIx xs.length xs.length hi = xs.length) : cutV xs lo hi = xs := by
  unfold cutV
  rw [h.1, h.2, List.drop_zero, Nat.sub_zero, List.take_length]
def rSlS : V → Option Int → Option Int → Hp → VK → Prop := fun x lo hi H Q => ∃ a xs, x = .ref a ∧ H a = some (.tup xs) ∧
  ∀ t H', DL.Same1 H H' → H' t = some (.tup (cutV xs lo hi)) → Q (.ref t) H'
theorem sl_tupS {X : Cx} : SlR X rSlS := by
  intro pins s σ H x v vl vu lo hi sl Q I rx hs pl pu h
  obtain ⟨a, xs, rfl, ha, q⟩ := h
  exact sl_tupA pins s σ H _ v vl vu lo hi sl Q I rx hs pl pu ⟨a, xs, rfl, SqT.of ha, fun w => q a H (Same.refl _) (by rw [cut_whole w]; exact ha),
    fun _ p hp => q p _ (DL.Same.new hp) upd_same⟩
def rCatS : R2 := fun x y H Q => ∃ a b xs ys, x = .ref a ∧ y = .ref b ∧ H a = some (.tup xs) ∧ H b = some (.tup ys) ∧ xs.length + ys.length ≤ sizeLine ∧
  ∀ t H', DL.Same1 H H' → H' t = some (.tup (xs ++ ys)) → Q (.ref t) H'
theorem op_catS {X : Cx} : OpR X (binaryOp .Add) rCatS := by
  intro pins s σ H x y v u Q I rx ry h
  obtain ⟨a, b, xs, ys, rfl, rfl, ha, hb, hz, q⟩ := h
  refine op_catA pins s σ H _ _ v u Q I rx ry ⟨a, b, xs, ys, rfl, rfl, SqT.of ha, SqT.of hb, hz, fun e => q b H (Same.refl _) ?_, fun _ e => q a H (Same.refl _) ?_, fun _ _ p hp => q p _ (DL.Same.new hp) upd_same⟩
  · rw [e]; exact hb
  · rw [e, List.append_nil]; exact ha
/-! ### a method's call within a comprehension's block -/
theorem pe_bmK {X : Cx} {o e : Expr} {es : List Expr} {to : TE} {t : TA} {name : Str} {apos cpos : Pos} {T id : String} {r : V → List V → Hp → VK → Prop} (K0 : PySem.W.Frag) (hK : X.K = K0)
    (pa : PlainAttrs T) (slot : Slot T name id) (hty : typeOf (.builtin id) = pure (.type "method_descriptor")) (hm : MtR X id r) (ho : PE X o to) (ha : PA X (e :: es) t)
    (hbase : attributeBase o name X.env (eval o X.env) = eval o X.env := by rfl)
    (hfew : ((backTo cpos (starEach (e :: es) X.env)).all (fun x => !x.1) && (backToKw cpos (keywordEach [] X.env)).all (fun x => x.1.isSome)
      && decide ((e :: es).length + ([] : List Keyword).length + (if ([] : List Keyword).isEmpty then 0 else 1) < 30)) = true := by rfl)
    (hline : (apos.endLine == cpos.line) = true := by rfl)
    (hs : starEach (e :: es) X.env = (false, eval e X.env) :: starEach es X.env := by rfl) (hplain : (backTo cpos (starEach es X.env)).any (·.1) = false := by rfl) :
    PE X (.Call (.Attribute o name apos) (e :: es) [] cpos) (tBM K0 T r to t) := hK ▸ pe_bm pa slot hty hm ho ha hbase hfew hline hs hplain
theorem mt_indexK {X : Cx} (K0 : PySem.W.Frag) (hK : X.K = K0) : MtR X "list.index" (rIndex K0) := hK ▸ mt_index
def rLenK (K : PySem.W.Frag) : List V → Hp → VK → Prop := fun xs H Q => ∃ p ys, xs = [V.ref p] ∧ (SqL K H p ys ∨ SqT K H p ys) ∧ Q (.int ys.length) H
theorem call_lenK {X : Cx} (K0 : PySem.W.Frag) (hK : X.K = K0) : CallR X (.builtin "len") (rLenK K0) := hK ▸ call_len_seq
theorem ix_tupK {X : Cx} (K0 : PySem.W.Frag) (hK : X.K = K0) : IxR X (rIxT K0) := hK ▸ ix_tup
theorem ix_listK {X : Cx} (K0 : PySem.W.Frag) (hK : X.K = K0) : IxR X (rIxL K0) := hK ▸ ix_list
theorem ix_seqK {X : Cx} (K0 : PySem.W.Frag) (hK : X.K = K0) : IxR X (rIx K0) := hK ▸ ix_seq
theorem op_catTK {X : Cx} (K0 : PySem.W.Frag) (hK : X.K = K0) : OpR X (binaryOp .Add) (rCatT K0) := hK ▸ op_catT
theorem call_isiK2 {X : Cx} (K0 : PySem.W.Frag) (hK : X.K = K0) : CallR X (.builtin "isinstance") (rIsi K0) := hK ▸ call_isi
/-! ### xs[i] op= e of a list -/
def rGetL (K : PySem.W.Frag) : V → V → Hp → VK → Prop := fun x y H Q => ∃ (p : Addr) (xs : List V) (j : Nat) (v : V), x = .ref p ∧ y = .int (j : Int) ∧ SqL K H p xs ∧ xs[j]? = some v ∧ Q v H
theorem get_list {X : Cx} : PGet X (rGetL X.K) := by
  intro pins s σ H o i ov iv Q I ro ri h
  obtain ⟨p, xs, j, v, rfl, rfl, hq, he, q⟩ := h
  cases ro
  obtain ⟨t, rfl⟩ := ri
  obtain ⟨its, r, pl, hz⟩ := I.list hq
  obtain ⟨u, hu, ru⟩ := r.get he
  have hj := (List.getElem?_eq_some_iff.mp he).1
  have hn := line63
  exact wpAny_getItem_list pl.isList (by omega) (by omega) (x := u) (by simpa using hu) ⟨v, H, I, ru, q⟩
end DLR
namespace DL
open PySem L2
def top (i : Nat) : Stmt := PySem.Challenge.pw_drumlay_k16_whole_what_stands_there_does.main.body.getD i (.Pass ⟨0, 0, 0, 0⟩)
structure Bt (mg : Str → Option Value) : Prop where
  len : mg "len" = none
  int : mg "int" = none
  range : mg "range" = none
  isinstance : mg "isinstance" = none
  tuple : mg "tuple" = none
  list : mg "list" = none
  sorted : mg "sorted" = none
  sum : mg "sum" = none
  max : mg "max" = none
  enumerate : mg "enumerate" = none
  zip : mg "zip" = none
  all : mg "all" = none
  bool : mg "bool" = none
  str : mg "str" = none
abbrev sDice : Stmt := top 53
abbrev sNext : Stmt := top 54
def spDice (K : Frg) : Sp := fun vs H Q _ => ∃ (sa : Addr) (ns : List Int), vs = [.ref sa] ∧ SqL K H sa (ns.map V.int) ∧ ns.length ≤ 63 ∧
  ∀ p H', Same H H' → H p = none → Ent K H' p sa ns → Q (.ref p) H'
def spNext (K : Frg) : Sp := fun vs H Q _ => ∃ (d sa : Addr) (ns : List Int) (many : Int), vs = [.ref d, .int many] ∧ Ent K H d sa ns ∧ 0 < many ∧ many < 1073741824 ∧
  ∀ n H', 0 ≤ n → n < many → Dc K H H' d sa ns → Q (.int n) H'
section
variable {P : Program} {w : World} {K : PySem.W.Frag} {mg : Str → Option Value} {base : Heap}
theorem scDice : FnScope ["_law_script", "_law_mixed_here", "_law_cell"] ["_law_script"] (defScope sDice) := ⟨rfl, rfl, rfl, by decide +kernel, rfl, by decide +kernel, by decide +kernel⟩
theorem ok_dice {f : Addr} {fd : FuncData} (F : Fun K "_law_dice" "_law_dice" sDice f fd) (T : Bt mg) : FnOk P w K mg base CX0 1 f fd ["_law_script"] (spDice K) := by
  refine F.ok scDice (fun vs H Q E h => ?_) (fun cdv A outer s H vs Q E hr h => ?_)
  · obtain ⟨sa, ns, rfl, _⟩ := h
    rfl
  · obtain ⟨sa, ns, rfl, hS, hlen, k⟩ := h
    refine ⟨_, pss_cons (ps_set (i := 1) scDice.nd rfl (Or.inl rfl) pe_int)
      (pss_cons (ps_for PassesOwn.never rfl (pi_list (pv 0)) (pg_name (i := 2) scDice.nd rfl (Or.inl rfl))
        (pss_one (ps_set (i := 1) scDice.nd rfl (Or.inl rfl) (pe_op op_mod (pe_op op_add (pe_op op_add (pe_op op_mul (pv 1) pe_int) (pe_op op_mul (pe_op op_mod (pv 2) pe_int) pe_int)) pe_int) pe_int))))
      (pss_one (ps_ret (pe_lst (pa_cons (pv 0) (pa_cons pe_int (pa_cons (pe_op op_mul (pv 1) (pe_callTy call_int1 (by rfl) T.int (by decide +kernel)
        (pa_cons (pe_cmpR op_gt (pe_callB call_len_seq (by rfl) T.len PySem.boot_len (pa_cons (pv 0) pa_nil)) pe_int (nomark _)) pa_nil))) (pa_cons pe_int pa_nil)))))))), ?_⟩
    refine ⟨_, rfl, sa, rfl, ⟨_, hS⟩, for_list (K := K) (a := sa) (xs := ns.map V.int) (fun i σ H' => ∃ (m : Int) (v : Option V), σ = [some (.ref sa), some (.int m), v] ∧ H' = H ∧ 0 ≤ m ∧ m < 2147483647)
      ⟨0, none, rfl, rfl, by decide, by decide⟩ (fun i σ H' _ ⟨_, _, _, e, _⟩ => by rw [e]; exact hS) ?_ ?_⟩
    · rintro i y σ H' hi ⟨m, v, rfl, rfl, h0, h1⟩
      obtain ⟨u, rfl⟩ : ∃ u, y = V.int u := by
        rw [List.getElem?_map] at hi
        cases e : ns[i]? with
        | none => rw [e] at hi; cases hi
        | some u => rw [e] at hi; exact ⟨u, (Option.some.inj hi).symm⟩
      refine ⟨_, rfl, _, _, rfl, rfl, .inl ⟨by omega, by omega⟩, _, rfl, _, _, rfl, rfl, (by show (0 : Int) < 2147483647; decide), _, _, rfl, rfl, .inl ⟨by omega, by omega⟩, _, _, rfl, rfl, _, _, rfl, rfl, _, _, rfl, rfl, (by show (0 : Int) < 2147483647; decide), ?_⟩
      exact ⟨_, _, rfl, rfl, Int.emod_nonneg _ (by decide), Int.emod_lt_of_pos _ (by decide)⟩
    · rintro σ H' ⟨m, v, rfl, rfl, h0, h1⟩
      refine ⟨_, rfl, _, rfl, _, rfl, sa, _, rfl, .inl hS, _, _, rfl, rfl, .inr ⟨_, rfl, ?_⟩⟩
      refine ⟨_, _, rfl, rfl, .inl ⟨by omega, by omega⟩, (by show 4 ≤ sizeLine; decide), fun p hp => ?_⟩
      have hns : (List.map V.int ns).length = ns.length := List.length_map _
      exact k p _ (Same.new hp) hp ⟨⟨_, _, _, upd_same, by decide, by split <;> omega, by split <;> omega⟩, (Same.new hp).seq hS, hlen⟩
theorem scNext : FnScope ["_law_dice_here", "_law_many", "_law_found", "_law_cell"] ["_law_dice_here", "_law_many"] (defScope sNext) := ⟨rfl, rfl, rfl, by decide +kernel, rfl, by decide +kernel, by decide +kernel⟩
theorem ok_next {f : Addr} {fd : FuncData} (F : Fun K "_law_next" "_law_next" sNext f fd) (T : Bt mg) : FnOk P w K mg base CX0 1 f fd ["_law_dice_here", "_law_many"] (spNext K) := by
  refine F.ok scNext (fun vs H Q E h => ?_) (fun cdv A outer s H vs Q E hr h => ?_)
  · obtain ⟨d, sa, ns, many, rfl, _⟩ := h
    rfl
  · obtain ⟨d, sa, ns, many, rfl, hE, hm0, hm1, k⟩ := h
    obtain ⟨⟨i, m, r, hd, hi0, hmx, hmy⟩, hS, hlen⟩ := id hE
    have C0 := Dc.refl hE
    refine ⟨_, pss_cons (ps_if (pt_cmpR op_gt (pe_ix ix_list (pv 0) pe_int (fun _ _ => rfl)) pe_int (nomark _))
        (pss_cons (ps_set (i := 2) scNext.nd rfl (Or.inl rfl) (pe_op op_mod (pe_ix ix_list (pv 0) pe_int (fun _ _ => rfl)) (pv 1)))
        (pss_cons (ps_asg (pe_op op_fdiv (pe_ix ix_list (pv 0) pe_int (fun _ _ => rfl)) (pv 1)) (pg_sub (pv 0) pe_int set_list))
        (pss_one (ps_ret (pv 2))))) pss_nil)
      (pss_cons (ps_asg (pe_op op_add (pe_ix ix_list (pv 0) pe_int (fun _ _ => rfl)) pe_int) (pg_sub (pv 0) pe_int set_list))
      (pss_cons (ps_if (pt_cmpR op_le (pe_ix ix_list (pv 0) pe_int (fun _ _ => rfl)) (pe_callB call_len_seq (by rfl) T.len PySem.boot_len (pa_cons (pe_ix ix_list (pv 0) pe_int (fun _ _ => rfl)) pa_nil)) (nomark _))
        (pss_cons (ps_set (i := 3) scNext.nd rfl (Or.inl rfl) (pe_ix ix_list (pe_ix ix_list (pv 0) pe_int (fun _ _ => rfl)) (pe_op op_sub (pe_ix ix_list (pv 0) pe_int (fun _ _ => rfl)) pe_int) (fun _ _ => rfl)))
        (pss_cons (ps_asg (pe_ifExp (pt_cmpR op_ge (pv 3) (pe_op op_pow pe_int pe_int) (nomark _)) (pe_op op_fdiv (pv 3) (pv 1)) pe_int) (pg_sub (pv 0) pe_int set_list))
        (pss_one (ps_ret (pe_op op_mod (pv 3) (pv 1)))))) pss_nil)
      (pss_cons (ps_asg (pe_op op_mod (pe_op op_mul (pe_ix ix_list (pv 0) pe_int (fun _ _ => rfl)) pe_int) pe_int) (pg_sub (pv 0) pe_int set_list))
      (pss_one (ps_ret (pe_op op_mod (pe_op op_fdiv (pe_ix ix_list (pv 0) pe_int (fun _ _ => rfl)) pe_int) (pv 1))))))), ?_⟩
    refine ⟨_, rfl, d, _, _, _, rfl, rfl, SqL.of hd, at3, _, _, rfl, rfl, _, rfl, ite2 (fun c => ?_) (fun c => ?_)⟩
    · refine ⟨_, rfl, d, _, _, _, rfl, rfl, SqL.of hd, at3, _, rfl, _, _, rfl, rfl, hm0, ?_⟩
      refine ⟨_, rfl, d, _, _, _, rfl, rfl, SqL.of hd, at3, _, rfl, _, _, rfl, rfl, ⟨hm0, hm1⟩, _, rfl, d, _, _, 3, rfl, rfl, hd, rfl, ?_⟩
      exact ⟨_, rfl, k _ _ (Int.emod_nonneg _ (by omega)) (Int.emod_lt_of_pos _ hm0) (C0.roll hi0 hmx hmy)⟩
    · refine ⟨_, rfl, d, _, _, _, rfl, rfl, SqL.of hd, at1, _, _, rfl, rfl, _, rfl, d, _, _, 1, rfl, rfl, hd, rfl, ?_⟩
      have C1 : Dc K H (upd H d (.lst [.ref sa, .int (i + 1), .int m, .int r])) d sa ns := C0.roll (by omega) hmx hmy
      have h1 : (upd H d (.lst [.ref sa, .int (i + 1), .int m, .int r])) d = some (.lst [.ref sa, .int (i + 1), .int m, .int r]) := upd_same
      have hS1 := C1.ent.scr
      revert C1 h1 hS1
      show _ → _ → _ → _
      generalize hH1 : (upd H d (.lst [.ref sa, .int (i + 1), .int m, .int r])) = H1
      intro C1 h1 hS1
      have hH1' : upd H d (.lst (List.set [V.ref sa, .int i, .int m, .int r] 1 (.int (i + 1)))) = H1 := hH1
      rw [hH1']
      refine ⟨_, rfl, d, _, _, _, rfl, rfl, SqL.of h1, at1, _, rfl, d, _, _, _, rfl, rfl, SqL.of h1, at0, sa, _, rfl, .inl hS1, _, _, rfl, rfl, _, rfl, ite2 (fun c => ?_) (fun c => ?_)⟩
      · have c : i + 1 ≤ ((ns.map V.int).length : Int) := of_decide_eq_true c
        rw [List.length_map] at c
        obtain ⟨j, hj⟩ : ∃ j : Nat, i = (j : Int) := ⟨i.toNat, by omega⟩
        have hjl : j < ns.length := by omega
        have hat : atI (ns.map V.int) (i + 1 - 1) = some (.int ns[j]) := by
          have e : i + 1 - 1 = (j : Int) := by omega
          rw [e]
          refine atI_nat ?_
          rw [List.getElem?_map, List.getElem?_eq_getElem hjl]
          rfl
        refine ⟨_, rfl, d, _, _, _, rfl, rfl, SqL.of h1, at0, _, rfl, d, _, _, _, rfl, rfl, SqL.of h1, at1, _, _, rfl, rfl, sa, _, _, _, rfl, rfl, hS1, hat, ?_⟩
        refine ⟨_, rfl, _, _, rfl, rfl, ⟨by decide, by decide, by decide⟩, _, _, rfl, rfl, _, rfl, ite2 (fun c2 => ?_) (fun c2 => ?_)⟩
        · refine ⟨_, rfl, _, rfl, _, _, rfl, rfl, ⟨hm0, hm1⟩, _, rfl, d, _, _, 3, rfl, rfl, h1, rfl, ?_⟩
          exact ⟨_, rfl, _, rfl, _, _, rfl, rfl, hm0, k _ _ (Int.emod_nonneg _ (by omega)) (Int.emod_lt_of_pos _ hm0) (C1.roll (by omega) hmx hmy)⟩
        · refine ⟨_, rfl, d, _, _, 3, rfl, rfl, h1, rfl, ?_⟩
          exact ⟨_, rfl, _, rfl, _, _, rfl, rfl, hm0, k _ _ (Int.emod_nonneg _ (by omega)) (Int.emod_lt_of_pos _ hm0) (C1.roll (by omega) hmx hmy)⟩
      · refine ⟨_, rfl, d, _, _, _, rfl, rfl, SqL.of h1, at2, _, _, rfl, rfl, .inl ⟨by omega, by omega⟩, _, _, rfl, rfl, (by show (0 : Int) < 2147483647; decide), _, rfl, d, _, _, 2, rfl, rfl, h1, rfl, ?_⟩
        refine ⟨_, rfl, d, _, _, _, rfl, rfl, SqL.of upd_same, at2, _, _, rfl, rfl, ⟨by decide, by decide⟩, _, rfl, _, _, rfl, rfl, hm0, ?_⟩
        exact k _ _ (Int.emod_nonneg _ (by omega)) (Int.emod_lt_of_pos _ hm0) (C1.roll (by omega) (Int.emod_nonneg _ (by decide)) (Int.emod_lt_of_pos _ (by decide)))
end
end DL
namespace DL
open PySem L2
/-! ### data: what like compares -/
inductive D where
  | non | bl (b : Bool) | int (i : Int) | str (s : Str) | lst (l : List D) | tup (l : List D)
mutual
def At (H : Hp) : V → D → Prop
  | v, .non => v = .non
  | v, .bl b => v = .bl b
  | v, .int i => v = .int i
  | v, .str s => v = .str s
  | v, .lst ds => ∃ a vs, v = .ref a ∧ H a = some (.lst vs) ∧ Ats H vs ds
  | v, .tup ds => ∃ a vs, v = .ref a ∧ H a = some (.tup vs) ∧ Ats H vs ds
def Ats (H : Hp) : List V → List D → Prop
  | [], [] => True
  | v :: vs, d :: ds => At H v d ∧ Ats H vs ds
  | _, _ => False
end
mutual
def D.dep : D → Nat
  | .lst ds => depL ds + 1
  | .tup ds => depL ds + 1
  | _ => 0
def depL : List D → Nat
  | [] => 0
  | d :: ds => max d.dep (depL ds)
end
mutual
def D.fit : D → Prop
  | .lst ds => ds.length ≤ 100000 ∧ fitL ds
  | .tup ds => ds.length ≤ 100000 ∧ fitL ds
  | _ => True
def fitL : List D → Prop
  | [] => True
  | d :: ds => d.fit ∧ fitL ds
end
theorem fitL_iff : ∀ {ds : List D}, fitL ds ↔ ∀ x ∈ ds, x.fit
  | [] => by simp [fitL]
  | d :: ds => by simp [fitL, fitL_iff (ds := ds)]
theorem D.fit_of {x : D} {ds : List D} (hx : x = .lst ds ∨ x = .tup ds) (h : x.fit) : ds.length ≤ 100000 ∧ fitL ds := by
  rcases hx with rfl | rfl <;> simpa [D.fit] using h
theorem Ats.len {H : Hp} : ∀ {vs : List V} {ds : List D}, Ats H vs ds → vs.length = ds.length
  | [], [], _ => rfl
  | v :: vs, d :: ds, h => by
    have h : At H v d ∧ Ats H vs ds := by simpa [Ats] using h
    show vs.length + 1 = ds.length + 1
    rw [Ats.len h.2]
  | [], _ :: _, h => by simp [Ats] at h
  | _ :: _, [], h => by simp [Ats] at h
theorem Ats.get {H : Hp} : ∀ {vs : List V} {ds : List D} (i : Nat), Ats H vs ds → i < ds.length → ∃ v x, vs[i]? = some v ∧ ds[i]? = some x ∧ At H v x
  | [], [], i, _, hi => by simp at hi
  | v :: vs, d :: ds, 0, h, _ => by
    have h : At H v d ∧ Ats H vs ds := by simpa [Ats] using h
    exact ⟨v, d, rfl, rfl, h.1⟩
  | v :: vs, d :: ds, i + 1, h, hi => by
    have h : At H v d ∧ Ats H vs ds := by simpa [Ats] using h
    obtain ⟨u, x, h1, h2, h3⟩ := Ats.get i h.2 (by simpa using hi)
    exact ⟨u, x, by simpa using h1, by simpa using h2, h3⟩
  | [], _ :: _, i, h, _ => by simp [Ats] at h
  | _ :: _, [], i, h, _ => by simp [Ats] at h
theorem depL_get : ∀ {ds : List D} {i : Nat} {x : D}, ds[i]? = some x → x.dep ≤ depL ds
  | [], i, x, h => by simp at h
  | d :: ds, 0, x, h => by
    have e : d = x := by simpa using h
    subst e
    show d.dep ≤ max d.dep (depL ds)
    omega
  | d :: ds, i + 1, x, h => by
    have := depL_get (ds := ds) (i := i) (x := x) (by simpa using h)
    show x.dep ≤ max d.dep (depL ds)
    omega
def D.ty : D → String
  | .non => "NoneType" | .bl _ => "bool" | .int _ => "int" | .str _ => "str" | .lst _ => "list" | .tup _ => "tuple"
theorem At.ty {K : Frg} {H : Hp} {v : V} : ∀ {x : D}, At H v x → TyX K H v (.type x.ty)
  | .non, h => by
    have h : v = .non := by simpa [At] using h
    subst h; exact .base .non
  | .bl b, h => by
    have h : v = .bl b := by simpa [At] using h
    subst h; exact .base (.bl _)
  | .int i, h => by
    have h : v = .int i := by simpa [At] using h
    subst h; exact .base (.int _)
  | .str s, h => by
    have h : v = .str s := by simpa [At] using h
    subst h; exact .base (.str _)
  | .lst ds, h => by
    obtain ⟨a, vs, rfl, h, _⟩ : ∃ a vs, v = .ref a ∧ H a = some (.lst vs) ∧ Ats H vs ds := by simpa [At] using h
    exact .base (.lst h)
  | .tup ds, h => by
    obtain ⟨a, vs, rfl, h, _⟩ : ∃ a vs, v = .ref a ∧ H a = some (.tup vs) ∧ Ats H vs ds := by simpa [At] using h
    exact .base (.tup h)
theorem isi_go {K : Frg} {H : Hp} {v : V} {x : D} {c : String} {b : Bool} {Q : VK} (h : At H v x) (r : kitB x.ty c = some b) (q : Q (.bl b) H) : rIsi K [v, .ty c] H Q :=
  ⟨_, _, _, _, _, rfl, .ty _, h.ty, kit_ty r, q⟩
def spLike (K : Frg) (n : Nat) : Sp := fun vs H Q _ => ∃ (v u : V) (x : D), vs = [v, u] ∧ At H v x ∧ At H u x ∧ x.dep ≤ n ∧ x.fit ∧ Q (.bl true) H
abbrev sLike : Stmt := top 55
section
variable {P : Program} {w : World} {K : PySem.W.Frag} {mg : Str → Option Value} {base : Heap}
theorem scLike : FnScope ["_law_found", "_law_due", "_law_k"] ["_law_found", "_law_due"] (defScope sLike) := ⟨rfl, rfl, rfl, by decide +kernel, rfl, by decide +kernel, by decide +kernel⟩
theorem At.sq {K : Frg} {H : Hp} {v : V} {x : D} {ds : List D} (hx : x = .lst ds ∨ x = .tup ds) (h : At H v x) : ∃ a vs, v = .ref a ∧ (SqL K H a vs ∨ SqT K H a vs) ∧ Ats H vs ds := by
  rcases hx with rfl | rfl
  · obtain ⟨a, vs, rfl, h, z⟩ : ∃ a vs, v = .ref a ∧ H a = some (.lst vs) ∧ Ats H vs ds := by simpa [At] using h
    exact ⟨a, vs, rfl, .inl (SqL.of h), z⟩
  · obtain ⟨a, vs, rfl, h, z⟩ : ∃ a vs, v = .ref a ∧ H a = some (.tup vs) ∧ Ats H vs ds := by simpa [At] using h
    exact ⟨a, vs, rfl, .inr (SqT.of h), z⟩
theorem sq_ix {K : Frg} {H : Hp} {a : Addr} {vs : List V} {i : Nat} {v : V} {Q : VK} (h : SqL K H a vs ∨ SqT K H a vs) (e : vs[i]? = some v) (q : Q v H) : rIx K (.ref a) (.int (i : Int)) H Q := by
  rcases h with h | h
  · exact .inl ⟨a, vs, _, v, rfl, rfl, h, atI_nat e, q⟩
  · exact .inr (.inl ⟨a, vs, _, v, rfl, rfl, h, atI_nat e, q⟩)
theorem D.dep_of {x : D} {ds : List D} (hx : x = .lst ds ∨ x = .tup ds) : x.dep = depL ds + 1 := by
  rcases hx with rfl | rfl <;> rfl
abbrev spNo : Sp := fun _ _ _ _ => False
theorem ok_no {CX : CXT} {k : Nat} {f : Addr} {fd : FuncData} {ps : List Str} : FnOk P w K mg base CX k f fd ps spNo := ⟨fun _ _ _ _ h => h.elim, fun _ _ _ _ _ _ _ _ _ _ _ _ _ h => h.elim⟩
theorem like_one {f : Addr} {fd : FuncData} {k n : Nat} {sp : Sp} (F : Fun K "_law_like" "_law_like" sLike f fd) (b : Binds K fd ["_law_found", "_law_due"] []) (m : mg "_law_like" = some (.ref f)) (T : Bt mg)
    (G : FnOk P w K mg base CX0 k f fd ["_law_found", "_law_due"] sp) (hk : ∀ v u x H Q E, At H v x → At H u x → x.dep + 1 ≤ n → x.fit → Q (.bl true) H → sp [v, u] H Q E) :
    FnOk P w K mg base CX0 (k + 1) f fd ["_law_found", "_law_due"] (spLike K n) := by
  refine F.ok scLike (fun vs H Q E h => ?_) (fun cdv A outer s H vs Q E hr h => ?_)
  · obtain ⟨v, u, x, rfl, _⟩ := h
    rfl
  · obtain ⟨v, u, x, rfl, hv, hu, hn, hfit, q⟩ := h
    refine ⟨_, pss_cons (ps_if (pt_val (pe_callB call_isi (by rfl) T.isinstance (by decide +kernel) (pa_cons (pv 1) (pa_cons (pe_bltn (v := .ty "bool") (by rfl) T.bool (by decide +kernel) rfl) pa_nil))))
        (pss_one (ps_ret (pe_and (pe_callB call_isi (by rfl) T.isinstance (by decide +kernel) (pa_cons (pv 0) (pa_cons (pe_bltn (v := .ty "bool") (by rfl) T.bool (by decide +kernel) rfl) pa_nil))) (pe_one (pe_cmpR op_eq (pv 0) (pv 1) (nomark _)))))) pss_nil)
      (pss_cons (ps_if (pt_val (pe_callB call_isi (by rfl) T.isinstance (by decide +kernel) (pa_cons (pv 1) (pa_cons (pe_bltn (v := .ty "str") (by rfl) T.str (by decide +kernel) rfl) pa_nil))))
        (pss_one (ps_ret (pe_and (pe_callB call_isi (by rfl) T.isinstance (by decide +kernel) (pa_cons (pv 0) (pa_cons (pe_bltn (v := .ty "str") (by rfl) T.str (by decide +kernel) rfl) pa_nil))) (pe_one (pe_cmpR op_eq (pv 0) (pv 1) (nomark _)))))) pss_nil)
      (pss_cons (ps_if (pt_val (pe_callB call_isi (by rfl) T.isinstance (by decide +kernel) (pa_cons (pv 1) (pa_cons (pe_bltn (v := .ty "int") (by rfl) T.int (by decide +kernel) rfl) pa_nil))))
        (pss_one (ps_ret (pe_and (pe_callB call_isi (by rfl) T.isinstance (by decide +kernel) (pa_cons (pv 0) (pa_cons (pe_bltn (v := .ty "int") (by rfl) T.int (by decide +kernel) rfl) pa_nil)))
          (pe_and (pe_not (pe_callB call_isi (by rfl) T.isinstance (by decide +kernel) (pa_cons (pv 0) (pa_cons (pe_bltn (v := .ty "bool") (by rfl) T.bool (by decide +kernel) rfl) pa_nil))))
          (pe_one (pe_cmpR op_eq (pv 0) (pv 1) (nomark _))))))) pss_nil)
      (pss_cons (ps_if (pt_cmpR op_isN (pv 1) pe_non (nomark _)) (pss_one (ps_ret (pe_cmpR op_isN (pv 0) pe_non (nomark _)))) pss_nil)
      (pss_cons (ps_if (PW.pt (pw_or
          (pt_cmpR op_ne (pe_callB call_isi (by rfl) T.isinstance (by decide +kernel) (pa_cons (pv 1) (pa_cons (pe_bltn (v := .ty "tuple") (by rfl) T.tuple (by decide +kernel) rfl) pa_nil))) (pe_callB call_isi (by rfl) T.isinstance (by decide +kernel) (pa_cons (pv 0) (pa_cons (pe_bltn (v := .ty "tuple") (by rfl) T.tuple (by decide +kernel) rfl) pa_nil))) (nomark _))
          (pw_or1 (pt_cmpR op_ne (pe_callB call_isi (by rfl) T.isinstance (by decide +kernel) (pa_cons (pv 1) (pa_cons (pe_bltn (v := .ty "list") (by rfl) T.list (by decide +kernel) rfl) pa_nil))) (pe_callB call_isi (by rfl) T.isinstance (by decide +kernel) (pa_cons (pv 0) (pa_cons (pe_bltn (v := .ty "list") (by rfl) T.list (by decide +kernel) rfl) pa_nil))) (nomark _)))))
        (pss_one (ps_ret pe_bl)) pss_nil)
      (pss_cons (ps_if (pt_cmpR op_ne (pe_callB call_len_seq (by rfl) T.len PySem.boot_len (pa_cons (pv 0) pa_nil)) (pe_callB call_len_seq (by rfl) T.len PySem.boot_len (pa_cons (pv 1) pa_nil)) (nomark _)) (pss_one (ps_ret pe_bl)) pss_nil)
      (pss_cons (ps_for PassesOwn.never rfl (pi_range1 rfl T.range (pa_cons (pe_callB call_len_seq (by rfl) T.len PySem.boot_len (pa_cons (pv 1) pa_nil)) pa_nil)) (pg_name (i := 2) scLike.nd rfl (Or.inl rfl))
        (pss_one (ps_if (pt_not (pt_val (pe_call G hr (by rfl) m F.kp b .nil pass0 (pa_cons (pe_ix ix_seq (pv 0) (pv 2) (fun _ _ => rfl)) (pa_cons (pe_ix ix_seq (pv 1) (pv 2) (fun _ _ => rfl)) pa_nil)))))
          (pss_one (ps_ret pe_bl)) pss_nil)))
      (pss_one (ps_ret pe_bl)))))))), ?_⟩
    have sc : (v = u ∧ (x = .non ∧ u = .non ∨ (∃ b, x = .bl b ∧ u = .bl b) ∨ (∃ i, x = .int i ∧ u = .int i) ∨ ∃ s, x = .str s ∧ u = .str s)) ∨ ∃ ds, x = .lst ds ∨ x = .tup ds := by
      cases x with
      | non =>
        have h1 : v = .non := by simpa [At] using hv
        have h2 : u = .non := by simpa [At] using hu
        exact .inl ⟨h1.trans h2.symm, .inl ⟨rfl, h2⟩⟩
      | bl b =>
        have h1 : v = .bl b := by simpa [At] using hv
        have h2 : u = .bl b := by simpa [At] using hu
        exact .inl ⟨h1.trans h2.symm, .inr (.inl ⟨b, rfl, h2⟩)⟩
      | int i =>
        have h1 : v = .int i := by simpa [At] using hv
        have h2 : u = .int i := by simpa [At] using hu
        exact .inl ⟨h1.trans h2.symm, .inr (.inr (.inl ⟨i, rfl, h2⟩))⟩
      | str s =>
        have h1 : v = .str s := by simpa [At] using hv
        have h2 : u = .str s := by simpa [At] using hu
        exact .inl ⟨h1.trans h2.symm, .inr (.inr (.inr ⟨s, rfl, h2⟩))⟩
      | lst ds => exact .inr ⟨ds, .inl rfl⟩
      | tup ds => exact .inr ⟨ds, .inr rfl⟩
    rcases sc with ⟨rfl, ⟨rfl, rfl⟩ | ⟨bb, rfl, rfl⟩ | ⟨i, rfl, rfl⟩ | ⟨z, rfl, rfl⟩⟩ | ⟨ds, hx⟩
    · refine ⟨_, rfl, _, _, _, _, false, rfl, .ty _, hu.ty, kit_ty (by dsimp only [D.ty]; decide +kernel), _, rfl, iteF ?_⟩
      refine ⟨_, rfl, _, _, _, _, false, rfl, .ty _, hu.ty, kit_ty (by dsimp only [D.ty]; decide +kernel), _, rfl, iteF ?_⟩
      refine ⟨_, rfl, _, _, _, _, false, rfl, .ty _, hu.ty, kit_ty (by dsimp only [D.ty]; decide +kernel), _, rfl, iteF ?_⟩
      exact ⟨_, rfl, rfl, _, rfl, iteT ⟨_, rfl, rfl, q⟩⟩
    · refine ⟨_, rfl, _, _, _, _, true, rfl, .ty _, hu.ty, kit_ty (by dsimp only [D.ty]; decide +kernel), _, rfl, iteT ?_⟩
      refine ⟨_, rfl, _, _, _, _, true, rfl, .ty _, hu.ty, kit_ty (by dsimp only [D.ty]; decide +kernel), _, rfl, iteT ⟨_, rfl, _, rfl, rfl, ?_⟩⟩
      rw [decide_eq_true rfl]; exact q
    · refine ⟨_, rfl, _, _, _, _, false, rfl, .ty _, hu.ty, kit_ty (by dsimp only [D.ty]; decide +kernel), _, rfl, iteF ?_⟩
      refine ⟨_, rfl, _, _, _, _, false, rfl, .ty _, hu.ty, kit_ty (by dsimp only [D.ty]; decide +kernel), _, rfl, iteF ?_⟩
      refine ⟨_, rfl, _, _, _, _, true, rfl, .ty _, hu.ty, kit_ty (by dsimp only [D.ty]; decide +kernel), _, rfl, iteT ?_⟩
      refine ⟨_, rfl, _, _, _, _, true, rfl, .ty _, hu.ty, kit_ty (by dsimp only [D.ty]; decide +kernel), _, rfl, iteT ⟨_, rfl, _, _, _, _, false, rfl, .ty _, hu.ty, kit_ty (by dsimp only [D.ty]; decide +kernel), _, rfl, _, rfl, iteT ⟨_, rfl, _, rfl, rfl, ?_⟩⟩⟩
      rw [decide_eq_true rfl]; exact q
    · refine ⟨_, rfl, _, _, _, _, false, rfl, .ty _, hu.ty, kit_ty (by dsimp only [D.ty]; decide +kernel), _, rfl, iteF ?_⟩
      refine ⟨_, rfl, _, _, _, _, true, rfl, .ty _, hu.ty, kit_ty (by dsimp only [D.ty]; decide +kernel), _, rfl, iteT ?_⟩
      refine ⟨_, rfl, _, _, _, _, true, rfl, .ty _, hu.ty, kit_ty (by dsimp only [D.ty]; decide +kernel), _, rfl, iteT ⟨_, rfl, _, rfl, rfl, ?_⟩⟩
      rw [decide_eq_true rfl]; exact q
    · obtain ⟨a, vs, rfl, ha, hvs⟩ := At.sq (K := K) hx hv
      obtain ⟨c, us, rfl, hc, hus⟩ := At.sq (K := K) hx hu
      have hnn : x.dep = depL ds + 1 := D.dep_of hx
      have hb : kitB x.ty "bool" = some false := by rcases hx with rfl | rfl <;> dsimp only [D.ty] <;> decide +kernel
      have hs : kitB x.ty "str" = some false := by rcases hx with rfl | rfl <;> dsimp only [D.ty] <;> decide +kernel
      have hi : kitB x.ty "int" = some false := by rcases hx with rfl | rfl <;> dsimp only [D.ty] <;> decide +kernel
      obtain ⟨bt, ht⟩ : ∃ bt, kitB x.ty "tuple" = some bt := by
        rcases hx with rfl | rfl
        · exact ⟨false, by dsimp only [D.ty]; decide +kernel⟩
        · exact ⟨true, by dsimp only [D.ty]; decide +kernel⟩
      obtain ⟨bl, hl⟩ : ∃ bl, kitB x.ty "list" = some bl := by
        rcases hx with rfl | rfl
        · exact ⟨true, by dsimp only [D.ty]; decide +kernel⟩
        · exact ⟨false, by dsimp only [D.ty]; decide +kernel⟩
      refine ⟨_, rfl, _, _, _, _, _, rfl, .ty _, hu.ty, kit_ty hb, _, rfl, iteF ?_⟩
      refine ⟨_, rfl, _, _, _, _, _, rfl, .ty _, hu.ty, kit_ty hs, _, rfl, iteF ?_⟩
      refine ⟨_, rfl, _, _, _, _, _, rfl, .ty _, hu.ty, kit_ty hi, _, rfl, iteF ?_⟩
      refine ⟨_, rfl, rfl, _, rfl, iteF ?_⟩
      refine ⟨_, rfl, _, _, _, _, _, rfl, .ty _, hu.ty, kit_ty ht, _, rfl, _, _, _, _, _, rfl, .ty _, hv.ty, kit_ty ht, rfl, _, rfl, ?_⟩
      rw [decide_eq_true rfl]
      refine iteF ⟨_, rfl, _, _, _, _, _, rfl, .ty _, hu.ty, kit_ty hl, _, rfl, _, _, _, _, _, rfl, .ty _, hv.ty, kit_ty hl, rfl, _, rfl, ?_⟩
      rw [decide_eq_true rfl]
      refine iteF ⟨_, rfl, a, _, rfl, ha, _, rfl, c, _, rfl, hc, rfl, _, rfl, ?_⟩
      have hlen : vs.length = us.length := hvs.len.trans hus.len.symm
      rw [hlen, decide_eq_true rfl]
      have hul : us.length < 2 ^ 62 := by
        have z1 := (D.fit_of hx hfit).1
        have z2 := hus.len
        omega
      refine iteF ⟨_, rfl, c, _, rfl, hc, _, rfl, by omega, by omega, ?_⟩
      refine for_range (lo := 0) (n := us.length) (fun i σ H' => H' = H ∧ ∃ z, σ = [some (.ref a), some (.ref c), z]) ⟨rfl, _, rfl⟩ ?_ ?_
      · rintro i σ H' hi ⟨rfl, z, rfl⟩
        have e0 : (0 : Int) + (i : Int) = (i : Int) := Int.zero_add _
        rw [e0]
        obtain ⟨v1, y1, g1, g2, g3⟩ := hvs.get i (by rw [← hus.len]; exact hi)
        obtain ⟨u1, y2, g4, g5, g6⟩ := hus.get i (by rw [← hus.len]; exact hi)
        have ey : y2 = y1 := by rw [g2] at g5; exact (Option.some.inj g5).symm
        subst ey
        refine ⟨_, rfl, _, rfl, sq_ix ha g1 ?_⟩
        refine ⟨_, rfl, _, rfl, sq_ix hc g4 ?_⟩
        refine hk _ _ _ _ _ _ g3 g6 (by have := depL_get g2; omega) (fitL_iff.mp (D.fit_of hx hfit).2 _ (List.mem_of_getElem? g2)) ⟨_, rfl, iteF ⟨rfl, _, rfl⟩⟩
      · rintro σ H' ⟨rfl, z, rfl⟩
        exact q
theorem ok_like {f : Addr} {fd : FuncData} (F : Fun K "_law_like" "_law_like" sLike f fd) (b : Binds K fd ["_law_found", "_law_due"] []) (m : mg "_law_like" = some (.ref f)) (T : Bt mg) :
    ∀ n : Nat, FnOk P w K mg base CX0 (n + 1) f fd ["_law_found", "_law_due"] (spLike K n)
  | 0 => like_one F b m T (ok_no (k := 0)) (fun _ _ _ _ _ _ _ _ h _ _ => by omega)
  | n + 1 => like_one F b m T (ok_like F b m T n) (fun v u x H Q E h1 h2 h3 h4 q => ⟨v, u, x, rfl, h1, h2, by omega, h4, q⟩)
end
end DL
namespace DL
open PySem L2
/-! ### rows -/
inductive Row where
  | load (w n : Nat) | add (w n : Nat) | take (w n : Nat) | store (w n : Nat) | say (n : Nat) | test (a b : Nat) | stop
def rowVs : Row → List V
  | .load w n => [.str "load", .int (w : Int), .int (n : Int)]
  | .add w n => [.str "add", .int (w : Int), .int (n : Int)]
  | .take w n => [.str "take", .int (w : Int), .int (n : Int)]
  | .store w n => [.str "store", .int (w : Int), .int (n : Int)]
  | .say n => [.str "say", .int (n : Int)]
  | .test a b => [.str "test", .int (a : Int), .int (b : Int)]
  | .stop => [.str "stop"]
def Row.ok (W N : Nat) : Row → Prop
  | .load w n => w < W ∧ n < N
  | .add w n => w < W ∧ n < N
  | .take w n => w < W ∧ n < N
  | .store w n => w < W ∧ n < N
  | .say n => n < N
  | .test a b => a < N ∧ b < N
  | .stop => True
def Row.plain : Row → Prop
  | .test _ _ => False
  | .stop => False
  | _ => True
def Row.to (m : Nat) : Row → Row
  | .load w _ => .load w m
  | .add w _ => .add w m
  | .take w _ => .take w m
  | .store w _ => .store w m
  | .say _ => .say m
  | r => r
def isT (r : Row) : Nat := if decide ((rowVs r)[0]? = some (V.str "test")) = true then 1 else 0
def tests (rs : List Row) : Nat := (rs.map isT).sum
theorem isT_le (r : Row) : isT r ≤ 1 := by
  unfold isT
  split <;> decide
theorem isT_plain : ∀ {r : Row}, r.plain → isT r = 0
  | .load _ _, _ => (by decide +kernel : (if decide (some (V.str "load") = some (V.str "test")) = true then 1 else 0) = 0)
  | .add _ _, _ => (by decide +kernel : (if decide (some (V.str "add") = some (V.str "test")) = true then 1 else 0) = 0)
  | .take _ _, _ => (by decide +kernel : (if decide (some (V.str "take") = some (V.str "test")) = true then 1 else 0) = 0)
  | .store _ _, _ => (by decide +kernel : (if decide (some (V.str "store") = some (V.str "test")) = true then 1 else 0) = 0)
  | .say _, _ => (by decide +kernel : (if decide (some (V.str "say") = some (V.str "test")) = true then 1 else 0) = 0)
theorem isT_stop : isT .stop = 0 := (by decide +kernel : (if decide (some (V.str "stop") = some (V.str "test")) = true then 1 else 0) = 0)
theorem isT_to {r : Row} {m : Nat} (p : r.plain) : isT (r.to m) = 0 := by
  cases r <;> first | exact p.elim | exact isT_plain trivial
theorem tests_app : ∀ (a b : List Row), tests (a ++ b) = tests a + tests b
  | [], b => by unfold tests; simp
  | x :: a, b => by
    show isT x + tests (a ++ b) = isT x + tests a + tests b
    rw [tests_app a b]
    omega
theorem tests_cons (x : Row) (a : List Row) : tests (x :: a) = isT x + tests a := rfl
theorem tests_one {r : Row} : tests [r] = isT r := Nat.add_zero _
theorem tests_plain : ∀ {rs : List Row}, (∀ r ∈ rs, r.plain) → tests rs = 0
  | [], _ => rfl
  | x :: rs, h => by
    rw [tests_cons, isT_plain (h x List.mem_cons_self), tests_plain fun r hr => h r (List.mem_cons_of_mem _ hr)]
theorem Row.ok.mono {W N M : Nat} (h : N ≤ M) : ∀ {r : Row}, r.ok W N → r.ok W M := fun {r} k => by
  cases r <;> simp only [Row.ok] at * <;> omega
theorem Row.ok.to {W N m M : Nat} (hm : m < M) : ∀ {r : Row}, r.plain → r.ok W N → (r.to m).ok W M := fun {r} p k => by
  cases r <;> simp only [Row.ok, Row.to, Row.plain] at * <;> omega
theorem Row.vs_to {m : Nat} : ∀ {r : Row}, r.plain → rowVs (r.to m) = (rowVs r).dropLast ++ [V.int (m : Int)] := fun {r} p => by
  cases r <;> first | rfl | exact p.elim
theorem Row.vs_len (r : Row) : 1 ≤ (rowVs r).length ∧ (rowVs r).length ≤ 3 := by cases r <;> simp [rowVs]
def RowsAt (H : Hp) (bs : List Addr) (rs : List Row) : Prop := Paired (fun b r => H b = some (.tup (rowVs r))) bs rs
theorem RowsAt.kp {H H' : Hp} {bs : List Addr} {rs : List Row} (h : RowsAt H bs rs) (k : Kp H H') : RowsAt H' bs rs := Paired.mapP h fun _ _ q => k _ _ q
theorem Paired.app {α β : Type} {F : α → β → Prop} : ∀ {a : List α} {b : List β} {c : List α} {d : List β}, Paired F a b → Paired F c d → Paired F (a ++ c) (b ++ d)
  | _, _, _, _, .nil, h => h
  | _, _, _, _, .cons x t, h => .cons x (Paired.app t h)
theorem Paired.get {α β : Type} {F : α → β → Prop} : ∀ {a : List α} {b : List β} {i : Nat} {x : α}, Paired F a b → a[i]? = some x → ∃ y, b[i]? = some y ∧ F x y
  | _, _, _, _, .nil, e => by simp at e
  | _, _, 0, _, .cons h _, e => by simp at e; subst e; exact ⟨_, rfl, h⟩
  | _, _, i + 1, _, .cons _ t, e => by
    obtain ⟨y, h1, h2⟩ := Paired.get (i := i) t (by simpa using e)
    exact ⟨y, by simpa using h1, h2⟩
theorem Paired.getR {α β : Type} {F : α → β → Prop} : ∀ {a : List α} {b : List β} {i : Nat} {y : β}, Paired F a b → b[i]? = some y → ∃ x, a[i]? = some x ∧ F x y
  | _, _, _, _, .nil, e => by simp at e
  | _, _, 0, _, .cons h _, e => by simp at e; subst e; exact ⟨_, rfl, h⟩
  | _, _, i + 1, _, .cons _ t, e => by
    obtain ⟨y, h1, h2⟩ := Paired.getR (i := i) t (by simpa using e)
    exact ⟨y, by simpa using h1, h2⟩
theorem Paired.one {α β : Type} {F : α → β → Prop} {x : α} {y : β} (h : F x y) : Paired F [x] [y] := .cons h .nil
structure Fd (K : Frg) (mg : Str → Option Value) (x : Str) (st : Stmt) (ps : List Str) where
  f : Addr
  fd : FuncData
  F : Fun K x x st f fd
  b : Binds K fd ps []
  m : mg x = some (.ref f)
abbrev FNext (K : Frg) (mg : Str → Option Value) := Fd K mg "_law_next" sNext ["_law_dice_here", "_law_many"]
abbrev sStraight : Stmt := top 56
abbrev FStraight (K : Frg) (mg : Str → Option Value) := Fd K mg "_law_straight" sStraight ["_law_d", "_law_at"]
def spStraight (K : Frg) : Sp := fun vs H Q _ => ∃ (d sa : Addr) (ns : List Int) (at_ : Nat), vs = [.ref d, .int (at_ : Int)] ∧ Ent K H d sa ns ∧
  ∀ t r H', Dc K H H' d sa ns → H' t = some (.tup (rowVs r)) → r.plain → r.ok 8 (at_ + 2) → Q (.ref t) H'
section
variable {P : Program} {w : World} {K : PySem.W.Frag} {mg : Str → Option Value} {base : Heap}
theorem scStraight : FnScope ["_law_d", "_law_at", "_law_way"] ["_law_d", "_law_at"] (defScope sStraight) := ⟨rfl, rfl, rfl, by decide +kernel, rfl, by decide +kernel, by decide +kernel⟩
theorem ok_straight (c : FStraight K mg) (cN : FNext K mg) (T : Bt mg) : FnOk P w K mg base CX0 2 c.f c.fd ["_law_d", "_law_at"] (spStraight K) := by
  have GN : FnOk P w K mg base CX0 1 cN.f cN.fd ["_law_dice_here", "_law_many"] (spNext K) := ok_next cN.F T
  refine c.F.ok scStraight (fun vs H Q E h => ?_) (fun cdv A outer s H vs Q E hr h => ?_)
  · obtain ⟨d, sa, ns, a, rfl, _⟩ := h
    rfl
  · obtain ⟨d, sa, ns, a, rfl, hE, k⟩ := h
    refine ⟨_, pss_cons (ps_set (i := 2) scStraight.nd rfl (Or.inl rfl) (pe_call GN hr (by rfl) cN.m cN.F.kp cN.b .nil pass0 (pa_cons (pv 0) (pa_cons pe_int pa_nil))))
      (pss_cons (ps_if (pt_cmpR op_eq (pv 2) pe_int (nomark _)) (pss_one (ps_ret (pe_tup (pa_cons pe_str (pa_cons (pe_op op_add (pv 1) pe_int) pa_nil))))) pss_nil)
      (pss_one (ps_ret (pe_tup (pa_cons (pe_ix ix_list (pe_lst (pa_cons pe_str (pa_cons pe_str (pa_cons pe_str (pa_cons pe_str (pa_cons pe_str pa_nil)))))) (pv 2) (fun _ _ => rfl))
        (pa_cons (pe_op op_add pe_int (pe_call GN hr (by rfl) cN.m cN.F.kp cN.b .nil pass0 (pa_cons (pv 0) (pa_cons pe_int pa_nil)))) (pa_cons (pe_op op_add (pv 1) pe_int) pa_nil))))))), ?_⟩
    refine ⟨_, rfl, d, sa, ns, _, rfl, hE, by decide, by decide, fun n H1 n0 n1 C1 => ?_⟩
    refine ⟨_, rfl, rfl, _, rfl, ?_⟩
    refine ite2 (fun e => ?_) (fun e => ?_)
    · refine ⟨_, rfl, _, _, rfl, rfl, (by show 2 ≤ sizeLine; decide), fun t ht => ?_⟩
      refine k t (.say (a + 1)) _ (C1.new ht) (by rw [upd_same]; rfl) trivial (by show a + 1 < a + 2; omega)
    · have n5 : n ≠ 5 := fun q => e (by rw [q]; exact decide_eq_true rfl)
      refine ⟨(by show 5 ≤ sizeLine; decide), fun l hl => ?_⟩
      obtain ⟨j, hj⟩ : ∃ j : Nat, n = (j : Int) := ⟨n.toNat, by omega⟩
      subst hj
      have hj5 : j < 5 := by omega
      obtain ⟨wd, hw⟩ : ∃ wd : Str, ([V.str "load", V.str "add", V.str "take", V.str "store", V.str "add"] : List V)[j]? = some (.str wd) ∧ ∀ x y : Nat, ∃ r : Row, rowVs r = [.str wd, .int (x : Int), .int (y : Int)] ∧ r.plain ∧ (x < 8 → y < a + 2 → r.ok 8 (a + 2)) := by
        match j, hj5 with
        | 0, _ => exact ⟨_, rfl, fun x y => ⟨.load x y, rfl, trivial, fun p q => ⟨p, q⟩⟩⟩
        | 1, _ => exact ⟨_, rfl, fun x y => ⟨.add x y, rfl, trivial, fun p q => ⟨p, q⟩⟩⟩
        | 2, _ => exact ⟨_, rfl, fun x y => ⟨.take x y, rfl, trivial, fun p q => ⟨p, q⟩⟩⟩
        | 3, _ => exact ⟨_, rfl, fun x y => ⟨.store x y, rfl, trivial, fun p q => ⟨p, q⟩⟩⟩
        | 4, _ => exact ⟨_, rfl, fun x y => ⟨.add x y, rfl, trivial, fun p q => ⟨p, q⟩⟩⟩
      have C2 := C1.new (o := .lst [V.str "load", V.str "add", V.str "take", V.str "store", V.str "add"]) hl
      refine ⟨_, rfl, l, _, _, _, rfl, rfl, SqL.of upd_same, atI_nat hw.1, ?_⟩
      refine ⟨_, rfl, d, sa, ns, _, rfl, C2.ent, by decide, by decide, fun m H2 m0 m1 C3 => ?_⟩
      refine ⟨_, _, rfl, rfl, _, rfl, _, _, rfl, rfl, (by show 3 ≤ sizeLine; decide), fun t ht => ?_⟩
      obtain ⟨x, hx⟩ : ∃ x : Nat, (5 : Int) + m = (x : Int) := ⟨(5 + m).toNat, by omega⟩
      obtain ⟨r, r1, r2, r3⟩ := hw.2 x (a + 1)
      refine k t r _ ((C2.trans C3).new ht) ?_ r2 (r3 (by omega) (by omega))
      rw [upd_same, r1, ← hx]
      rfl
end
end DL
namespace DL
open PySem L2
theorem Paired.last {α β : Type} {F : α → β → Prop} {x : α} : ∀ {a : List α} {b : List β}, Paired F (a ++ [x]) b → ∃ b0 y, b = b0 ++ [y] ∧ Paired F a b0 ∧ F x y
  | [], _, .cons h t => by
    cases t
    exact ⟨[], _, rfl, .nil, h⟩
  | c :: a, _, .cons h t => by
    obtain ⟨b0, y, e, h1, h2⟩ := Paired.last (a := a) t
    subst e
    exact ⟨_ :: b0, y, rfl, .cons h h1, h2⟩
theorem snoc_of {α : Type} : ∀ {l : List α}, 1 ≤ l.length → ∃ a x, l = a ++ [x]
  | [], h => by simp at h
  | [x], _ => ⟨[], x, rfl⟩
  | x :: y :: l, _ => by
    obtain ⟨a, z, e⟩ := snoc_of (l := y :: l) (by simp)
    exact ⟨x :: a, z, by rw [e]; rfl⟩
theorem ix_last (n : Nat) : ixN (n + 1) (-1) = some n := by
  unfold ixN
  rw [if_neg (by decide), if_pos (by omega)]
  congr 1
  omega
theorem all_snoc {α : Type} {p : α → Prop} {l : List α} {x : α} (h : ∀ y ∈ l, p y) (hx : p x) : ∀ y ∈ l ++ [x], p y := fun y m => by
  rcases List.mem_append.mp m with q | q
  · exact h y q
  · rw [List.mem_singleton.mp q]; exact hx
theorem all_app {α : Type} {p : α → Prop} {l m : List α} (h : ∀ y ∈ l, p y) (hx : ∀ y ∈ m, p y) : ∀ y ∈ l ++ m, p y := fun y q => by
  rcases List.mem_append.mp q with q | q
  · exact h y q
  · exact hx y q
theorem plain_ne {r : Row} (p : r.plain) : r ≠ .stop := fun z => by rw [z] at p; exact p
theorem to_ne {r : Row} {m : Nat} (p : r.plain) : r.to m ≠ .stop := fun z => by cases r <;> first | exact p | cases z
def Row.okS (r : Row) (W N : Nat) : Prop := r.ok W N ∧ r ≠ .stop
theorem Row.okS.mono {W N M : Nat} (h : N ≤ M) {r : Row} (k : r.okS W N) : r.okS W M := ⟨Row.ok.mono h k.1, k.2⟩
abbrev sFork : Stmt := top 57
abbrev FFork (K : Frg) (mg : Str → Option Value) := Fd K mg "_law_fork" sFork ["_law_d", "_law_at"]
def spFork (K : Frg) : Sp := fun vs H Q _ => ∃ (d sa : Addr) (ns : List Int) (at_ : Nat), vs = [.ref d, .int (at_ : Int)] ∧ Ent K H d sa ns ∧
  ∀ l bs rs H', Dc K H H' d sa ns → H l = none → H' l = some (.lst (bs.map V.ref)) → RowsAt H' bs rs → 1 ≤ rs.length → rs.length ≤ 6 → 4 * tests rs ≤ rs.length → (∀ r ∈ rs, r.okS 8 (at_ + rs.length + 1)) → Q (.ref l) H'
theorem sIx_neg (n d : Nat) : HT.sIx n d (some (-1)) = ((-1 : Int) + n).toNat := by
  show (if (-1 : Int) < 0 then ((-1 : Int) + (n : Int)).toNat else min (-1 : Int).toNat n) = _
  exact if_pos (by decide)
theorem set_last {α : Type} {l : List α} {x y : α} {n : Nat} (h : l.length = n) : (l ++ [x]).set n y = l ++ [y] := by
  subst h
  rw [List.set_append_right _ _ (Nat.le_refl _), Nat.sub_self]
  rfl
theorem cut_last {xs : List V} (h : 1 ≤ xs.length) : cutV xs none (some (-1)) = xs.dropLast := by
  unfold cutV
  rw [sIx_neg, HT.sIx_none, List.drop_zero, List.dropLast_eq_take, Nat.sub_zero]
  congr 1
  omega
theorem cut_not {xs : List V} (h : 1 ≤ xs.length) : ¬ (HT.sIx xs.length 0 none = 0 ∧ HT.sIx xs.length xs.length (some (-1)) = xs.length) := by
  rintro ⟨_, q⟩
  rw [sIx_neg] at q
  omega
theorem row_ne {r : Row} (p : r.plain) : (rowVs r).dropLast ≠ [] := by
  cases r <;> first | exact p.elim | (intro e; cases e)
def StrAt (K : Frg) (H0 : Hp) (d sa : Addr) (ns : List Int) (D : Addr) (at_ : Nat) (i : Nat) (H : Hp) : Prop :=
  ∃ bs rs, Dc K H0 H d sa ns ∧ H0 D = none ∧ H D = some (.lst (bs.map V.ref)) ∧ RowsAt H bs rs ∧ rs.length = i ∧ ∀ r ∈ rs, r.plain ∧ r.ok 8 (at_ + i + 1)
theorem StrAt.zero {K : Frg} {H0 H : Hp} {d sa : Addr} {ns : List Int} {D : Addr} {a : Nat} (C : Dc K H0 H d sa ns) (hD : H D = none) : StrAt K H0 d sa ns D a 0 (upd H D (.lst [])) :=
  ⟨[], [], C.new hD, C.here hD, upd_same, .nil, rfl, fun _ h => absurd h (by simp)⟩
theorem StrAt.step {K : Frg} {H0 H H' : Hp} {d sa : Addr} {ns : List Int} {D t : Addr} {a i : Nat} {bs : List Addr} {rs : List Row} {r : Row} (C : Dc K H0 H d sa ns) (n0 : H0 D = none) (hD : H D = some (.lst (bs.map V.ref))) (ha : RowsAt H bs rs) (hl : rs.length = i) (hr : ∀ r ∈ rs, r.plain ∧ r.ok 8 (a + i + 1))
    (C2 : Dc K H H' d sa ns) (ht : H' t = some (.tup (rowVs r))) (hp : r.plain) (ho : r.ok 8 (a + i + 2)) :
    H' D = some (.lst (bs.map V.ref)) ∧ StrAt K H0 d sa ns D a (i + 1) (upd H' D (.lst (bs.map V.ref ++ [.ref t]))) := by
  have C3 := C.trans C2
  have hD' : H' D = some (.lst (bs.map V.ref)) := C2.but _ _ (C.ned n0) hD
  refine ⟨hD', bs ++ [t], rs ++ [r], C3.mut n0, n0, by rw [upd_same, List.map_append]; rfl, ?_, by rw [List.length_append, hl]; rfl, ?_⟩
  · exact RowsAt.kp (Paired.app (ha.kp C2.kp) (Paired.one ht)) (Kp.lst hD')
  · refine all_snoc (fun y m => ?_) ⟨hp, by rw [show a + (i + 1) + 1 = a + i + 2 by omega]; exact ho⟩
    exact ⟨(hr y m).1, (hr y m).2.mono (by omega)⟩
section
variable {P : Program} {w : World} {K : PySem.W.Frag} {mg : Str → Option Value} {base : Heap}
abbrev nFork : List Str := ["_law_d", "_law_at", "_law_yes", "_law_begin", "_law_no", "_law_k"]
theorem scFork : FnScope nFork ["_law_d", "_law_at"] (defScope sFork) := ⟨rfl, rfl, rfl, by decide +kernel, rfl, by decide +kernel, by decide +kernel⟩
theorem ok_fork (c : FFork K mg) (cS : FStraight K mg) (cN : FNext K mg) (T : Bt mg) : FnOk P w K mg base CX0 3 c.f c.fd ["_law_d", "_law_at"] (spFork K) := by
  have GN : FnOk P w K mg base CX0 1 cN.f cN.fd ["_law_dice_here", "_law_many"] (spNext K) := ok_next cN.F T
  have GS : FnOk P w K mg base CX0 2 cS.f cS.fd ["_law_d", "_law_at"] (spStraight K) := ok_straight cS cN T
  refine c.F.ok scFork (fun vs H Q E h => ?_) (fun cdv A outer s H vs Q E hr h => ?_)
  · obtain ⟨d, sa, ns, a, rfl, _⟩ := h
    rfl
  · obtain ⟨d, sa, ns, a, rfl, hE, k⟩ := h
    have hr1 : Room 1 _ := hr.mono (by decide)
    refine ⟨_, pss_cons (ps_setLc (i := 2) (own := [("_law_k", 5)]) (g := gName 5) (tt := tYes) rfl scFork.nd rfl rfl (sw_true rfl rfl rfl (by decide +kernel))
        (pi_range1 rfl T.range (pa_cons (pe_op op_add pe_int (pe_call GN hr1 (by rfl) cN.m cN.F.kp cN.b .nil pass0 (pa_cons (pv 0) (pa_cons pe_int pa_nil)))) pa_nil))
        (blkOk_by (N := nFork) (sc := defScope sFork) (by decide +kernel)) (fun _ _ _ _ _ => pg_name (i := 5) scFork.nd rfl (Or.inl rfl)) (fun _ _ _ _ _ => pts_nil)
        (fun _ _ _ _ _ => (pe_call GS hr (by rfl) cS.m cS.F.kp cS.b .nil pass0 (pa_cons (pv 0) (pa_cons (pe_op op_add (pe_op op_add (pv 1) pe_int) (pv 5)) pa_nil)))))
      (pss_cons (ps_set (i := 3) scFork.nd rfl (Or.inr rfl) (pe_op op_add (pe_op op_add (pv 1) pe_int) (pe_callB call_len_seq (by rfl) T.len PySem.boot_len (pa_cons (pv 2) pa_nil))))
      (pss_cons (ps_setLc (i := 4) (own := [("_law_k", 5)]) (g := gName 5) (tt := tYes) rfl scFork.nd rfl rfl (sw_true rfl rfl rfl (by decide +kernel))
        (pi_range1 rfl T.range (pa_cons (pe_op op_add pe_int (pe_call GN hr1 (by rfl) cN.m cN.F.kp cN.b .nil pass0 (pa_cons (pv 0) (pa_cons pe_int pa_nil)))) pa_nil))
        (blkOk_by (N := nFork) (sc := defScope sFork) (by decide +kernel)) (fun _ _ _ _ _ => pg_name (i := 5) scFork.nd rfl (Or.inl rfl)) (fun _ _ _ _ _ => pts_nil)
        (fun _ _ _ _ _ => (pe_call GS hr (by rfl) cS.m cS.F.kp cS.b .nil pass0 (pa_cons (pv 0) (pa_cons (pe_op op_add (pv 3) (pv 5)) pa_nil)))))
      (pss_cons (ps_asg (pe_op op_catT (pe_slice sl_tup (pe_ix ix_list (pv 2) (pe_un un_neg pe_int) (fun _ _ => rfl)) po_none (po_some (pe_un un_neg pe_int)))
          (pe_tup (pa_cons (pe_op op_add (pv 3) (pe_callB call_len_seq (by rfl) T.len PySem.boot_len (pa_cons (pv 4) pa_nil))) pa_nil))) (pg_sub (pv 2) (pe_un un_neg pe_int) set_list))
      (pss_one (ps_ret (pe_op op_cat (pe_op op_cat (pe_lst (pa_cons (pe_tup (pa_cons pe_str (pa_cons (pe_op op_add pe_int (pe_call GN hr1 (by rfl) cN.m cN.F.kp cN.b .nil pass0 (pa_cons (pv 0) (pa_cons pe_int pa_nil)))) (pa_cons (pe_op op_add (pv 1) pe_int) pa_nil))))
        (pa_cons (pe_tup (pa_cons pe_str (pa_cons (pe_op op_add (pv 1) pe_int) (pa_cons (pv 3) pa_nil)))) pa_nil))) (pv 2)) (pv 4))))))), ?_⟩
    refine ⟨_, rfl, d, sa, ns, _, rfl, hE, by decide, by decide, fun n H1 n0 n1 C1 => ?_⟩
    refine ⟨_, _, rfl, rfl, _, rfl, by omega, by omega, fun D1 hD1 => ?_⟩
    refine lc_range (lo := 0) (n := (1 + n).toNat) (StrAt K H d sa ns D1 (a + 2)) (StrAt.zero C1 hD1) ?_ ?_
    · rintro i H2 hi ⟨bs, rs, C2, nD, hD, hR, hl, hr⟩
      refine ⟨rfl, _, rfl, _, rfl, _, _, rfl, rfl, _, rfl, _, _, rfl, rfl, d, sa, ns, a + 2 + i, ?_, C2.ent, fun t r H3 C3 ht hp ho => ?_⟩
      · show [V.ref d, V.int ((a : Int) + 2 + (0 + (i : Int)))] = [V.ref d, V.int ((a + 2 + i : Nat) : Int)]
        rw [show ((a + 2 + i : Nat) : Int) = (a : Int) + 2 + (0 + (i : Int)) by omega]
      · obtain ⟨z1, z2⟩ := StrAt.step C2 nD hD hR hl hr C3 ht hp ho
        exact ⟨_, z1, szl (by have := Paired.length hR; rw [List.length_map]; omega), z2⟩
    · rintro H2 ⟨bs1, rs1, C2, nD1, hD1', hR1, hl1, hr1'⟩
      have lb1 := Paired.length hR1
      refine ⟨_, rfl, _, _, rfl, rfl, _, rfl, D1, _, rfl, .inl (SqL.of hD1'), _, _, rfl, rfl, ?_⟩
      refine ⟨_, rfl, d, sa, ns, _, rfl, C2.ent, by decide, by decide, fun n2 H3 n20 n21 C3 => ?_⟩
      refine ⟨_, _, rfl, rfl, _, rfl, by omega, by omega, fun D2 hD2 => ?_⟩
      have C13 := C2.trans C3
      refine lc_range (lo := 0) (n := (1 + n2).toNat) (fun i H4 => StrAt K H d sa ns D2 (a + 2 + rs1.length) i H4 ∧ D2 ≠ D1 ∧ H4 D1 = some (.lst (bs1.map V.ref)) ∧ RowsAt H4 bs1 rs1) ?_ ?_ ?_
      · have nD12 : D2 ≠ D1 := (ne_of_none (C3.but _ _ (C2.ned nD1) hD1') hD2).symm
        exact ⟨StrAt.zero C13 hD2, nD12, by rw [upd_ne nD12.symm]; exact C3.but _ _ (C2.ned nD1) hD1', (hR1.kp C3.kp).kp (Kp.new hD2)⟩
      · rintro i H4 hi ⟨⟨bs, rs, C4, nD, hD, hR, hl, hr⟩, nD12, h1, hR1⟩
        refine ⟨rfl, _, rfl, _, rfl, _, rfl, _, _, rfl, rfl, d, sa, ns, a + 2 + rs1.length + i, ?_, C4.ent, fun t r H5 C5 ht hp ho => ?_⟩
        · show [V.ref d, V.int ((a : Int) + 2 + (((bs1.map V.ref).length : Nat) : Int) + (0 + (i : Int)))] = [V.ref d, V.int ((a + 2 + rs1.length + i : Nat) : Int)]
          rw [List.length_map, lb1, show ((a + 2 + rs1.length + i : Nat) : Int) = (a : Int) + 2 + (rs1.length : Int) + (0 + (i : Int)) by omega]
        · obtain ⟨z1, z2⟩ := StrAt.step C4 nD hD hR hl hr C5 ht hp ho
          refine ⟨_, z1, szl (by have := Paired.length hR; rw [List.length_map]; omega), z2, nD12, ?_, ?_⟩
          · rw [upd_ne nD12.symm]
            exact C5.but _ _ (C4.ned nD1) h1
          · exact (hR1.kp C5.kp).kp (Kp.lst z1)
      · rintro H4 ⟨⟨bs2, rs2, C4, nD2, hD2', hR2, hl2, hr2⟩, nD12, h1, hR1⟩
        have lb2 := Paired.length hR2
        obtain ⟨bs0, b, e⟩ := snoc_of (l := bs1) (by omega)
        subst e
        obtain ⟨rs0, r, e, hR0, hb⟩ := Paired.last hR1
        subst e
        have hr0 := hr1' r (List.mem_append_right _ List.mem_cons_self)
        have h1 : H4 D1 = some (.lst (bs0.map V.ref ++ [.ref b])) := by rw [List.map_append] at h1; exact h1
        have rl := Row.vs_len r
        refine ⟨_, rfl, _, rfl, D1, _, _, _, rfl, rfl, SqL.of h1, atI_last _ _, _, rfl, _, rfl, b, _, rfl, SqT.of hb, cut_not rl.1, fun p1 hp1 => ?_⟩
        rw [cut_last rl.1]
        refine alloc hp1 fun H5 s5 e5 => ?_
        refine ⟨_, rfl, _, rfl, D2, _, rfl, .inl (SqL.of (s5 _ _ hD2')), _, _, rfl, rfl, (by show 1 ≤ sizeLine; decide), fun p2 hp2 => ?_⟩
        refine alloc hp2 fun H6 s6 e6 => ?_
        have hsz : (rowVs r).dropLast.length + 1 ≤ sizeLine := sz (by rw [List.length_dropLast]; omega)
        refine ⟨p1, p2, _, _, rfl, rfl, SqT.of (s6 _ _ e5), SqT.of e6, row_ne hr0.1, hsz, (fun e => nomatch e), fun _ p3 hp3 => ?_⟩
        refine alloc hp3 fun H7 s7 e7 => ?_
        have S47 := (s5.trans s6).trans s7
        have h17 := S47 _ _ h1
        refine ⟨_, rfl, _, rfl, D1, _, _, bs0.length, rfl, rfl, h17, ?_, ?_⟩
        · rw [List.length_append, List.length_map]
          exact ix_last _
        rw [set_last (by rw [List.length_map])]
        have nD1' : D1 ≠ D2 := nD12.symm
        have C7 := (C4.same S47).mut (o := .lst (bs0.map V.ref ++ [.ref p3])) nD1
        have hp3 : p3 ≠ D1 := ne_of e7 h17 (by intro z; cases z)
        have R7 : RowsAt H7 (bs0 ++ [p3]) (rs0 ++ [r.to (a + 2 + rs0.length + 1 + rs2.length)]) := by
          refine Paired.app (RowsAt.kp hR0 (Kp.same S47)) (Paired.one ?_)
          rw [e7, Row.vs_to hr0.1]
          congr 3
          show [V.int ((a : Int) + 2 + (((bs0 ++ [b]).map V.ref).length : Int) + ((bs2.map V.ref).length : Int))] = _
          rw [List.length_map, List.length_map, lb1, lb2, List.length_append]
          congr 2
        have R72 : RowsAt H7 bs2 rs2 := RowsAt.kp hR2 (Kp.same S47)
        have K7 : Kp H7 (upd H7 D1 (.lst (bs0.map V.ref ++ [.ref p3]))) := Kp.lst h17
        have hD28 : (upd H7 D1 (.lst (bs0.map V.ref ++ [.ref p3]))) D2 = some (.lst (bs2.map V.ref)) := by rw [upd_ne nD12]; exact S47 _ _ hD2'
        revert C7 K7 hD28
        refine change fun H8 b8 e8 => ?_
        intro C8 K8 hD28
        have R8 := R7.kp K8
        have R82 := R72.kp K8
        refine ⟨_, rfl, d, sa, ns, _, rfl, C8.ent, by decide, by decide, fun m H9 m0 m1 C9 => ?_⟩
        refine ⟨_, _, rfl, rfl, _, rfl, _, _, rfl, rfl, (by show 3 ≤ sizeLine; decide), fun t1 ht1 => ?_⟩
        refine alloc ht1 fun H10 s10 e10 => ?_
        refine ⟨_, rfl, _, _, rfl, rfl, _, rfl, (by show 3 ≤ sizeLine; decide), fun t2 ht2 => ?_⟩
        refine alloc ht2 fun H11 s11 e11 => ?_
        refine ⟨(by show 2 ≤ sizeLine; decide), fun l1 hl1n => ?_⟩
        refine alloc hl1n fun H12 s12 e12 => ?_
        have S9 := (s10.trans s11).trans s12
        have g1 : H12 D1 = some (.lst (bs0.map V.ref ++ [.ref p3])) := S9 _ _ (C9.but _ _ (C8.ned nD1) e8)
        have g2 : H12 D2 = some (.lst (bs2.map V.ref)) := S9 _ _ (C9.but _ _ (C8.ned nD2) hD28)
        have C12 := (C8.trans C9).same S9
        refine ⟨_, rfl, l1, D1, _, _, rfl, rfl, e12, g1, ?_, fun l2 hl2n => ?_⟩
        · refine sz ?_
          rw [List.length_append, List.length_map]
          have z1 := Paired.length hR0
          rw [List.length_append] at hl1
          show 2 + (bs0.length + 1) ≤ 100000
          simp only [List.length_singleton] at hl1
          omega
        refine alloc hl2n fun H13 s13 e13 => ?_
        refine ⟨_, rfl, l2, D2, _, _, rfl, rfl, e13, s13 _ _ g2, ?_, fun l3 hl3n => ?_⟩
        · refine sz ?_
          rw [List.length_append, List.length_append, List.length_map, List.length_map]
          have z1 := Paired.length hR0
          rw [List.length_append] at hl1
          show 2 + (bs0.length + 1) + bs2.length ≤ 100000
          simp only [List.length_singleton] at hl1
          omega
        have C13' := C12.same s13
        have K13 : Kp H8 H13 := (C9.kp.trans (Kp.same S9)).trans (Kp.same s13)
        have rl0 := Paired.length hR0
        have hlen1 : rs0.length + 1 = (1 + n).toNat := by rw [← hl1, List.length_append]; rfl
        obtain ⟨x, hx⟩ : ∃ x : Nat, (5 : Int) + m = (x : Int) := ⟨(5 + m).toNat, by omega⟩
        have hm8 : x < 8 := by omega
        refine k l3 (t1 :: t2 :: (bs0 ++ [p3]) ++ bs2) (.load x (a + 1) :: .test (a + 2) (a + 2 + rs0.length + 1) :: (rs0 ++ [r.to (a + 2 + rs0.length + 1 + rs2.length)]) ++ rs2) _ (C13'.new hl3n) (C13'.here hl3n) ?_ ?_ ?_ ?_ ?_ ?_
        · rw [upd_same]
          simp only [List.map_append, List.map_cons, List.map_nil]
          rfl
        · refine RowsAt.kp ?_ (Kp.new hl3n)
          refine Paired.app (.cons ?_ (.cons ?_ (R8.kp K13))) (R82.kp K13)
          · refine (s11.trans (s12.trans s13)) _ _ (e10.trans ?_)
            show some (HO.tup [V.str "load", V.int (5 + m), V.int ((a : Int) + 1)]) = some (.tup [V.str "load", V.int (x : Int), V.int ((a + 1 : Nat) : Int)])
            rw [hx]
            rfl
          · refine (s12.trans s13) _ _ (e11.trans ?_)
            show some (HO.tup [V.str "test", V.int ((a : Int) + 2), V.int ((a : Int) + 2 + (((bs0 ++ [b]).map V.ref).length : Int))]) = some (.tup [V.str "test", V.int ((a + 2 : Nat) : Int), V.int ((a + 2 + rs0.length + 1 : Nat) : Int)])
            rw [List.length_map, List.length_append, rl0]
            rfl
        · simp
        · simp only [List.length_append, List.length_cons, List.length_nil]
          omega
        · have t2 : tests rs2 = 0 := tests_plain fun y hy => (hr2 y hy).1
          have t0 : tests rs0 = 0 := tests_plain fun y hy => (hr1' y (List.mem_append_left _ hy)).1
          have t1 := isT_le (.test (a + 2) (a + 2 + rs0.length + 1))
          have tl : isT (.load x (a + 1)) = 0 := isT_plain trivial
          have tr := isT_to (m := a + 2 + rs0.length + 1 + rs2.length) hr0.1
          rw [List.cons_append, List.cons_append, tests_cons, tests_cons, tests_app, tests_app, tests_one, t2, t0, tl, tr]
          simp only [List.length_append, List.length_cons, List.length_nil]
          omega
        · have hL : (Row.load x (a + 1) :: .test (a + 2) (a + 2 + rs0.length + 1) :: (rs0 ++ [r.to (a + 2 + rs0.length + 1 + rs2.length)]) ++ rs2).length = rs0.length + rs2.length + 3 := by
            simp only [List.length_append, List.length_cons, List.length_nil]
            omega
          rw [hL]
          intro y hy
          rcases List.mem_append.mp hy with hy | hy
          · rcases List.mem_cons.mp hy with rfl | hy
            · exact ⟨⟨hm8, by omega⟩, fun z => by cases z⟩
            · rcases List.mem_cons.mp hy with rfl | hy
              · exact ⟨⟨by omega, by omega⟩, fun z => by cases z⟩
              · rcases List.mem_append.mp hy with hy | hy
                · exact ⟨(hr1' y (List.mem_append_left _ hy)).2.mono (by omega), plain_ne (hr1' y (List.mem_append_left _ hy)).1⟩
                · rw [List.mem_singleton.mp hy]
                  exact ⟨hr0.2.to (by omega) hr0.1, to_ne hr0.1⟩
          · refine ⟨(hr2 y hy).2.mono ?_, plain_ne (hr2 y hy).1⟩
            rw [List.length_append, List.length_singleton]
            omega
end
end DL
namespace DL
open PySem L2
theorem if_elim {c : TT} {t u : TS} {D : Ends} {σ : St} {H : Hp} (R : Bool → Hp → Prop) (key : ∀ b H', R b H' → if b = true then t D σ H' else u D σ H') (test : ∀ F' : Bool → Hp → Prop, (∀ b H', R b H' → F' b H') → c σ H F') : tIfS c t u D σ H := test _ key
def PB : Nat → Nat
  | 0 => 6
  | n + 1 => 6 + 3 * PB n
abbrev sBody : Stmt := top 58
abbrev pBody : List Str := ["_law_d", "_law_at", "_law_deep"]
abbrev FBody (K : Frg) (mg : Str → Option Value) := Fd K mg "_law_body" sBody pBody
def spBody (K : Frg) (n : Nat) : Sp := fun vs H Q _ => ∃ (d sa : Addr) (ns : List Int) (at_ : Nat), vs = [.ref d, .int (at_ : Int), .int (n : Int)] ∧ n ≤ 2 ∧ Ent K H d sa ns ∧
  ∀ l bs rs H', Dc K H H' d sa ns → H l = none → H' l = some (.lst (bs.map V.ref)) → RowsAt H' bs rs → rs.length ≤ 3 * PB n → 4 * tests rs ≤ rs.length → (∀ r ∈ rs, r.okS 8 (at_ + rs.length + 1)) → Q (.ref l) H'
def BodyAt (K : Frg) (H0 : Hp) (d sa : Addr) (ns : List Int) (l : Addr) (at_ : Nat) (z : Nat) (H : Hp) : Prop :=
  ∃ bs rs, Dc K H0 H d sa ns ∧ H0 l = none ∧ H l = some (.lst (bs.map V.ref)) ∧ RowsAt H bs rs ∧ rs.length ≤ z ∧ 4 * tests rs ≤ rs.length ∧ ∀ r ∈ rs, r.okS 8 (at_ + rs.length + 1)
theorem BodyAt.after {K : Frg} {H0 H H' : Hp} {d sa : Addr} {ns : List Int} {l : Addr} {a z : Nat} (h : BodyAt K H0 d sa ns l a z H) (C : Dc K H H' d sa ns) : BodyAt K H0 d sa ns l a z H' := by
  obtain ⟨bs, rs, C0, n0, hl, hR, hz, hT, ho⟩ := h
  exact ⟨bs, rs, C0.trans C, n0, C.but _ _ (C0.ned n0) hl, hR.kp C.kp, hz, hT, ho⟩
theorem PB_le : ∀ {n : Nat}, n ≤ 2 → PB n ≤ 78
  | 0, _ => by decide
  | 1, _ => by decide
  | 2, _ => by decide
section
variable {P : Program} {w : World} {K : PySem.W.Frag} {mg : Str → Option Value} {base : Heap}
abbrev nBody : List Str := ["_law_d", "_law_at", "_law_deep", "_law_found", "_law_turn", "_law_here", "_law_way", "_law_inner", "_law_behind"]
theorem scBody : FnScope nBody pBody (defScope sBody) := ⟨rfl, rfl, rfl, by decide +kernel, rfl, by decide +kernel, by decide +kernel⟩
theorem body_one {k n : Nat} {sp : Sp} (cBody : FBody K mg) (cFork : FFork K mg) (cStraight : FStraight K mg) (cNext : FNext K mg) (T : Bt mg) (h3 : 3 ≤ k) (GBody : FnOk P w K mg base CX0 k cBody.f cBody.fd pBody sp) (hk : 0 < n → ∀ vs H Q E, spBody K (n - 1) vs H Q E → sp vs H Q E) :
    FnOk P w K mg base CX0 (k + 1) cBody.f cBody.fd pBody (spBody K n) := by
  have GNext : FnOk P w K mg base CX0 1 cNext.f cNext.fd ["_law_dice_here", "_law_many"] (spNext K) := ok_next cNext.F T
  have GStraight : FnOk P w K mg base CX0 2 cStraight.f cStraight.fd ["_law_d", "_law_at"] (spStraight K) := ok_straight cStraight cNext T
  have GFork : FnOk P w K mg base CX0 3 cFork.f cFork.fd ["_law_d", "_law_at"] (spFork K) := ok_fork cFork cStraight cNext T
  refine cBody.F.ok scBody (fun vs H Q E h => ?_) (fun cdv A outer s H vs Q E hr h => ?_)
  · obtain ⟨d, sa, ns, a, rfl, _⟩ := h
    rfl
  · obtain ⟨d, sa, ns, a, rfl, n2, hE, kq⟩ := h
    refine ⟨_, (pss_cons (ps_set (i := 3) scBody.nd rfl (Or.inl rfl) (pe_lst pa_nil))
      (pss_cons (ps_for PassesOwn.never rfl (pi_range1 rfl T.range (pa_cons (pe_op op_add pe_int (pe_call GNext (hr.mono (by first | omega | decide)) (by rfl) cNext.m cNext.F.kp cNext.b .nil pass0 (pa_cons (pv 0) (pa_cons pe_int pa_nil)))) pa_nil)) (pg_name (i := 4) scBody.nd rfl (Or.inl rfl))
          (pss_cons (ps_set (i := 5) scBody.nd rfl (Or.inl rfl) (pe_op op_add (pv 1) (pe_callB call_len_seq (by rfl) T.len PySem.boot_len (pa_cons (pv 3) pa_nil))))
          (pss_cons (ps_set (i := 6) scBody.nd rfl (Or.inl rfl) (pe_call GNext (hr.mono (by first | omega | decide)) (by rfl) cNext.m cNext.F.kp cNext.b .nil pass0 (pa_cons (pv 0) (pa_cons pe_int pa_nil))))
          (pss_one (ps_if (PW.pt (pw_or (pt_cmpR op_lt (pv 6) pe_int (nomark _)) (pw_or1 (PW.pt (pw_and (pt_cmpR op_eq (pv 6) pe_int (nomark _)) (pw_and (pt_cmpR op_lt (pv 2) pe_int (nomark _)) (pw_and1 (pt_cmpR op_eq (pe_call GNext (hr.mono (by first | omega | decide)) (by rfl) cNext.m cNext.F.kp cNext.b .nil pass0 (pa_cons (pv 0) (pa_cons pe_int pa_nil))) pe_int (nomark _)))))))))
              (pss_one (ps_expr (pe_bm PySem.F.plainAttrs_list PySem.F.slot_list_append PySem.F.type_list_append mt_append (pv 3) (pa_cons (pe_call GStraight (hr.mono (by first | omega | decide)) (by rfl) cStraight.m cStraight.F.kp cStraight.b .nil pass0 (pa_cons (pv 0) (pa_cons (pv 5) pa_nil))) pa_nil))))
              (pss_one (ps_if (pt_cmpR op_eq (pv 6) pe_int (nomark _))
                  (pss_one (ps_set (i := 3) scBody.nd rfl (Or.inl rfl) (pe_op op_cat (pv 3) (pe_call GFork (hr.mono (by first | omega | decide)) (by rfl) cFork.m cFork.F.kp cFork.b .nil pass0 (pa_cons (pv 0) (pa_cons (pv 5) pa_nil))))))
                  (pss_one (ps_if (pt_cmpR op_gt (pv 2) pe_int (nomark _))
                      (pss_cons (ps_set (i := 7) scBody.nd rfl (Or.inl rfl) (pe_call GBody (hr.mono (by first | omega | decide)) (by rfl) cBody.m cBody.F.kp cBody.b .nil pass0 (pa_cons (pv 0) (pa_cons (pe_op op_add (pv 5) pe_int) (pa_cons (pe_op op_sub (pv 2) pe_int) pa_nil)))))
                      (pss_cons (ps_set (i := 8) scBody.nd rfl (Or.inl rfl) (pe_op op_add (pe_op op_add (pv 5) pe_int) (pe_callB call_len_seq (by rfl) T.len PySem.boot_len (pa_cons (pv 7) pa_nil))))
                      (pss_cons (ps_set (i := 3) scBody.nd rfl (Or.inl rfl) (pe_op op_cat (pe_op op_cat (pv 3) (pe_lst (pa_cons (pe_tup (pa_cons pe_str (pa_cons (pv 2) (pa_cons (pe_op op_add (pv 5) pe_int) pa_nil)))) (pa_cons (pe_tup (pa_cons pe_str (pa_cons (pe_op op_add pe_int (pv 2)) (pa_cons (pe_op op_add (pv 5) pe_int) pa_nil)))) pa_nil)))) (pv 7)))
                      (pss_cons (ps_set (i := 3) scBody.nd rfl (Or.inl rfl) (pe_op op_cat (pv 3) (pe_lst (pa_cons (pe_tup (pa_cons pe_str (pa_cons (pe_op op_add pe_int (pv 2)) (pa_cons (pe_op op_add (pv 8) pe_int) pa_nil)))) (pa_cons (pe_tup (pa_cons pe_str (pa_cons pe_int (pa_cons (pe_op op_add (pv 8) pe_int) pa_nil)))) (pa_cons (pe_tup (pa_cons pe_str (pa_cons (pe_op op_add pe_int (pv 2)) (pa_cons (pe_op op_add (pv 8) pe_int) pa_nil)))) pa_nil))))))
                      (pss_one (ps_expr (pe_bm PySem.F.plainAttrs_list PySem.F.slot_list_append PySem.F.type_list_append mt_append (pv 3) (pa_cons (pe_tup (pa_cons pe_str (pa_cons (pe_op op_add (pv 8) pe_int) (pa_cons (pe_op op_add (pv 5) pe_int) pa_nil)))) pa_nil))))))))
                      pss_nil)))))))))
      (pss_one (ps_ret (pv 3))))), ?_⟩
    refine ⟨Nat.zero_le _, fun l0 hl0 => ?_⟩
    have B0 : BodyAt K H d sa ns l0 a 0 (upd H l0 (.lst [])) := ⟨[], [], (Dc.refl hE).new hl0, hl0, upd_same, .nil, Nat.le_refl _, Nat.le_refl 0, fun _ h => absurd h (by simp)⟩
    have C0 : Dc K H (upd H l0 (.lst [])) d sa ns := (Dc.refl hE).new hl0
    refine ⟨_, rfl, d, sa, ns, _, rfl, C0.ent, by decide, by decide, fun n3 H1 n30 n31 C1 => ?_⟩
    refine ⟨_, _, rfl, rfl, _, rfl, by omega, by omega, ?_⟩
    refine for_range (lo := 0) (n := (1 + n3).toNat) (fun i σ H' => ∃ (l : Addr) (x4 x5 x6 x7 x8 : Option V), σ = [some (.ref d), some (.int (a : Int)), some (.int (n : Int)), some (.ref l), x4, x5, x6, x7, x8] ∧ BodyAt K H d sa ns l a (i * PB n) H')
      ⟨l0, _, _, _, _, _, rfl, by rw [Nat.zero_mul]; exact B0.after C1⟩ ?_ ?_
    · rintro i σ H2 hi ⟨l, x4, x5, x6, x7, x8, rfl, bs, rs, C2, l0, hl, hR, hz, hT, ho⟩
      have hbl := Paired.length hR
      refine ⟨_, rfl, _, rfl, l, _, rfl, .inl (SqL.of hl), _, _, rfl, rfl, ?_⟩
      refine ⟨_, rfl, d, sa, ns, _, rfl, C2.ent, by decide, by decide, fun n6 H3 n60 n61 C3 => ?_⟩
      dsimp only [gName]
      refine if_elim (fun _ H4 => Dc K H2 H4 d sa ns) ?_ ?_
      · intro bb H4 C4
        have C24 := C2.trans C4
        have hl4 := C4.but _ _ (C2.ned l0) hl
        have hR4 := hR.kp C4.kp
        have hh : (a : Int) + ((bs.map V.ref).length : Int) = ((a + rs.length : Nat) : Int) := by rw [List.length_map, hbl]; rfl
        have hm : (i + 1) * PB n = i * PB n + PB n := Nat.succ_mul _ _
        have hp6 : 6 ≤ PB n := by cases n with
          | zero => exact Nat.le_refl _
          | succ n => show 6 ≤ 6 + 3 * PB n; omega
        have hi3 : i < 3 := by omega
        have hbig : i * PB n ≤ 300 := by
          have h1 := PB_le n2
          have h2 := Nat.mul_le_mul (show i ≤ 3 by omega) h1
          omega
        cases bb with
        | true =>
          refine ⟨_, rfl, .inl ⟨rfl, _, SqL.of hl4⟩, _, rfl, _, rfl, d, sa, ns, a + rs.length, ?_, C24.ent, fun t r H5 C5 ht hp ho5 => ?_⟩
          · show [V.ref d, V.int ((a : Int) + ((bs.map V.ref).length : Int))] = _
            rw [hh]
          · have hl5 := C5.but _ _ (C24.ned l0) hl4
            refine ⟨l, _, _, rfl, rfl, hl5, szl (by rw [List.length_map]; omega), ?_⟩
            refine ⟨l, _, _, _, _, _, rfl, bs ++ [t], rs ++ [r], (C24.trans C5).mut l0, l0, by rw [upd_same, List.map_append]; rfl, ?_, by rw [List.length_append, List.length_singleton]; omega, by rw [tests_app, tests_one, isT_plain hp, List.length_append, List.length_singleton]; omega, ?_⟩
            · exact RowsAt.kp (Paired.app (hR4.kp C5.kp) (Paired.one ht)) (Kp.lst hl5)
            · rw [List.length_append, List.length_singleton]
              exact all_snoc (fun y m => (ho y m).mono (by omega)) ⟨ho5.mono (by omega), plain_ne hp⟩
        | false =>
          refine ⟨_, rfl, rfl, _, rfl, ite2 (fun _ => ?_) (fun _ => ?_)⟩
          · refine ⟨_, rfl, _, rfl, _, rfl, d, sa, ns, a + rs.length, ?_, C24.ent, fun l2 bs2 rs2 H5 C5 nl2 hl2 hR2 h21 h26 hT2 ho2 => ?_⟩
            · show [V.ref d, V.int ((a : Int) + ((bs.map V.ref).length : Int))] = _
              rw [hh]
            · have hl5 := C5.but _ _ (C24.ned l0) hl4
              have hb2 := Paired.length hR2
              refine ⟨l, l2, _, _, rfl, rfl, hl5, hl2, sz (by rw [List.length_map, List.length_map]; omega), fun l3 hl3 => ?_⟩
              refine ⟨l3, _, _, _, _, _, rfl, bs ++ bs2, rs ++ rs2, (C24.trans C5).new hl3, (C24.trans C5).here hl3, by rw [upd_same, List.map_append], ?_, by rw [List.length_append]; omega, by rw [tests_app, List.length_append]; omega, ?_⟩
              · exact RowsAt.kp (Paired.app (hR4.kp C5.kp) hR2) (Kp.new hl3)
              · rw [List.length_append]
                exact all_app (fun y m => (ho y m).mono (by omega)) (fun y m => (ho2 y m).mono (by omega))
          · refine ⟨_, rfl, _, _, rfl, rfl, _, rfl, ite2 (fun c => ?_) (fun _ => ?_)⟩
            · have hn0 : 0 < n := by
                have c := of_decide_eq_true c
                omega
              have hPn : PB n = 6 + 3 * PB (n - 1) := by
                obtain ⟨n', e⟩ : ∃ n', n = n' + 1 := ⟨n - 1, by omega⟩
                subst e
                rfl
              have hP1 := PB_le (n := n - 1) (by omega)
              refine ⟨_, rfl, _, rfl, _, _, rfl, rfl, _, rfl, _, _, rfl, rfl, ?_⟩
              refine hk hn0 _ _ _ _ ⟨d, sa, ns, a + rs.length + 2, ?_, by omega, C24.ent, fun li bsi rsi H5 C5 nli hli hRi hzi hTi hoi => ?_⟩
              · show [V.ref d, V.int ((a : Int) + ((bs.map V.ref).length : Int) + 2), V.int ((n : Int) - 1)] = [V.ref d, V.int ((a + rs.length + 2 : Nat) : Int), V.int ((n - 1 : Nat) : Int)]
                rw [hh, show ((n - 1 : Nat) : Int) = (n : Int) - 1 by omega]
                rfl
              · have hl5 := C5.but _ _ (C24.ned l0) hl4
                have hR5 := hR4.kp C5.kp
                have hbi := Paired.length hRi
                have C25 := C24.trans C5
                have nlli : l ≠ li := ne_of_none hl4 nli
                refine ⟨_, rfl, _, _, rfl, rfl, _, rfl, li, _, rfl, .inl (SqL.of hli), _, _, rfl, rfl, ?_⟩
                refine ⟨_, rfl, _, rfl, _, rfl, _, _, rfl, rfl, (by show 3 ≤ sizeLine; decide), fun t1 ht1 => ?_⟩
                refine alloc ht1 fun H6 s6 e6 => ?_
                refine ⟨_, rfl, _, _, rfl, rfl, _, rfl, _, _, rfl, rfl, (by show 3 ≤ sizeLine; decide), fun t2 ht2 => ?_⟩
                refine alloc ht2 fun H7 s7 e7 => ?_
                refine ⟨(by show 2 ≤ sizeLine; decide), fun l6 hl6 => ?_⟩
                refine alloc hl6 fun H8 s8 e8 => ?_
                have S58 := (s6.trans s7).trans s8
                refine ⟨l, l6, _, _, rfl, rfl, S58 _ _ hl5, e8, sz (by rw [List.length_map]; show _ + 2 ≤ _; omega), fun l7 hl7 => ?_⟩
                refine alloc hl7 fun H9 s9 e9 => ?_
                refine ⟨_, rfl, l7, li, _, _, rfl, rfl, e9, (S58.trans s9) _ _ hli, sz (by rw [List.length_append, List.length_map, List.length_map]; show _ + 2 + _ ≤ _; omega), fun l8 hl8 => ?_⟩
                refine alloc hl8 fun H10 s10 e10 => ?_
                refine ⟨_, rfl, _, rfl, _, _, rfl, rfl, _, rfl, _, _, rfl, rfl, (by show 3 ≤ sizeLine; decide), fun t3 ht3 => ?_⟩
                refine alloc ht3 fun H11 s11 e11 => ?_
                refine ⟨_, rfl, _, _, rfl, rfl, (by show 3 ≤ sizeLine; decide), fun t4 ht4 => ?_⟩
                refine alloc ht4 fun H12 s12 e12 => ?_
                refine ⟨_, rfl, _, _, rfl, rfl, _, rfl, _, _, rfl, rfl, (by show 3 ≤ sizeLine; decide), fun t5 ht5 => ?_⟩
                refine alloc ht5 fun H13 s13 e13 => ?_
                refine ⟨(by show 3 ≤ sizeLine; decide), fun l9 hl9 => ?_⟩
                refine alloc hl9 fun H14 s14 e14 => ?_
                have S1014 := ((s11.trans s12).trans s13).trans s14
                refine ⟨l8, l9, _, _, rfl, rfl, S1014 _ _ e10, e14, sz (by rw [List.length_append, List.length_append, List.length_map, List.length_map]; show _ + 2 + _ + 3 ≤ _; omega), fun l10 hl10 => ?_⟩
                refine alloc hl10 fun H15 s15 e15 => ?_
                refine ⟨_, rfl, .inl ⟨rfl, _, SqL.of e15⟩, _, rfl, _, _, rfl, rfl, _, rfl, _, _, rfl, rfl, (by show 3 ≤ sizeLine; decide), fun t6 ht6 => ?_⟩
                refine alloc ht6 fun H16 s16 e16 => ?_
                have S516 := (((S58.trans s9).trans s10).trans S1014).trans (s15.trans s16)
                have C26 := C25.same S516
                have n10 : H l10 = none := C25.here ((((S58.trans s9).trans s10).trans S1014).free hl10)
                have f10 : H16 l10 = some (.lst (((bs.map V.ref ++ [.ref t1, .ref t2]) ++ bsi.map V.ref) ++ [.ref t3, .ref t4, .ref t5])) := s16 _ _ e15
                refine ⟨l10, _, _, rfl, rfl, f10, szl (by simp only [List.length_append, List.length_map, List.length_cons, List.length_nil]; omega), ?_⟩
                refine ⟨l10, _, _, _, _, _, rfl, ((bs ++ [t1, t2]) ++ bsi) ++ ([t3, t4, t5] ++ [t6]),
                  ((rs ++ [Row.load n (a + rs.length + 1), .store (2 + n) (a + rs.length + 2)]) ++ rsi) ++ ([Row.load (2 + n) (a + rs.length + 2 + rsi.length + 1), .take 0 (a + rs.length + 2 + rsi.length + 2), .store (2 + n) (a + rs.length + 2 + rsi.length + 3)] ++ [Row.test (a + rs.length + 2 + rsi.length + 4) (a + rs.length + 2)]),
                  C26.mut n10, n10, ?_, ?_, ?_, ?_, ?_⟩
                · rw [upd_same]
                  simp only [List.map_append, List.map_cons, List.map_nil, List.append_assoc]
                · refine RowsAt.kp ?_ (Kp.lst f10)
                  have hbe : (a : Int) + ((bs.map V.ref).length : Int) + 2 + ((bsi.map V.ref).length : Int) = ((a + rs.length + 2 + rsi.length : Nat) : Int) := by rw [hh, List.length_map, hbi]; rfl
                  refine Paired.app (Paired.app (Paired.app (hR5.kp (Kp.same S516)) (.cons ?_ (.cons ?_ .nil))) (hRi.kp (Kp.same S516))) (Paired.app (.cons ?_ (.cons ?_ (.cons ?_ .nil))) (Paired.one ?_))
                  · refine (s7.trans (s8.trans (s9.trans (s10.trans (S1014.trans (s15.trans s16)))))) _ _ (e6.trans ?_)
                    show some (HO.tup [V.str "load", V.int (n : Int), V.int ((a : Int) + ((bs.map V.ref).length : Int) + 1)]) = _
                    rw [hh]
                    rfl
                  · refine (s8.trans (s9.trans (s10.trans (S1014.trans (s15.trans s16))))) _ _ (e7.trans ?_)
                    show some (HO.tup [V.str "store", V.int (2 + (n : Int)), V.int ((a : Int) + ((bs.map V.ref).length : Int) + 2)]) = _
                    rw [hh, show (2 : Int) + (n : Int) = ((2 + n : Nat) : Int) by omega]
                    rfl
                  · refine (s12.trans (s13.trans (s14.trans (s15.trans s16)))) _ _ (e11.trans ?_)
                    show some (HO.tup [V.str "load", V.int (2 + (n : Int)), V.int ((a : Int) + ((bs.map V.ref).length : Int) + 2 + ((bsi.map V.ref).length : Int) + 1)]) = _
                    rw [hbe, show (2 : Int) + (n : Int) = ((2 + n : Nat) : Int) by omega]
                    rfl
                  · refine (s13.trans (s14.trans (s15.trans s16))) _ _ (e12.trans ?_)
                    show some (HO.tup [V.str "take", V.int 0, V.int ((a : Int) + ((bs.map V.ref).length : Int) + 2 + ((bsi.map V.ref).length : Int) + 2)]) = _
                    rw [hbe]
                    rfl
                  · refine (s14.trans (s15.trans s16)) _ _ (e13.trans ?_)
                    show some (HO.tup [V.str "store", V.int (2 + (n : Int)), V.int ((a : Int) + ((bs.map V.ref).length : Int) + 2 + ((bsi.map V.ref).length : Int) + 3)]) = _
                    rw [hbe, show (2 : Int) + (n : Int) = ((2 + n : Nat) : Int) by omega]
                    rfl
                  · refine e16.trans ?_
                    show some (HO.tup [V.str "test", V.int ((a : Int) + ((bs.map V.ref).length : Int) + 2 + ((bsi.map V.ref).length : Int) + 4), V.int ((a : Int) + ((bs.map V.ref).length : Int) + 2)]) = _
                    rw [hbe, hh]
                    rfl
                · simp only [List.length_append, List.length_cons, List.length_nil]
                  omega
                · have t1 := isT_le (.test (a + rs.length + 2 + rsi.length + 4) (a + rs.length + 2))
                  have q1 : isT (.load n (a + rs.length + 1)) = 0 := isT_plain trivial
                  have q2 : isT (.store (2 + n) (a + rs.length + 2)) = 0 := isT_plain trivial
                  have q3 : isT (.load (2 + n) (a + rs.length + 2 + rsi.length + 1)) = 0 := isT_plain trivial
                  have q4 : isT (.take 0 (a + rs.length + 2 + rsi.length + 2)) = 0 := isT_plain trivial
                  have q5 : isT (.store (2 + n) (a + rs.length + 2 + rsi.length + 3)) = 0 := isT_plain trivial
                  simp only [tests_app, tests_cons, tests_one, show tests [] = 0 from rfl, q1, q2, q3, q4, q5, List.length_append, List.length_cons, List.length_nil]
                  omega
                · have hL : (((rs ++ [Row.load n (a + rs.length + 1), .store (2 + n) (a + rs.length + 2)]) ++ rsi) ++ ([Row.load (2 + n) (a + rs.length + 2 + rsi.length + 1), .take 0 (a + rs.length + 2 + rsi.length + 2), .store (2 + n) (a + rs.length + 2 + rsi.length + 3)] ++ [Row.test (a + rs.length + 2 + rsi.length + 4) (a + rs.length + 2)])).length = rs.length + rsi.length + 6 := by
                    simp only [List.length_append, List.length_cons, List.length_nil]
                    omega
                  rw [hL]
                  refine all_app (all_app (all_app (fun y m => (ho y m).mono (by omega)) ?_) (fun y m => (hoi y m).mono (by omega))) (all_app ?_ ?_)
                  all_goals
                    intro y m
                    simp only [List.mem_cons, List.mem_singleton, List.not_mem_nil, or_false] at m
                    first
                      | (rcases m with rfl | rfl | rfl <;> exact ⟨by simp only [Row.ok]; omega, fun z => by cases z⟩)
                      | (rcases m with rfl | rfl <;> exact ⟨by simp only [Row.ok]; omega, fun z => by cases z⟩)
                      | (rcases m with rfl; exact ⟨by simp only [Row.ok]; omega, fun z => by cases z⟩)
            · exact ⟨l, _, _, _, _, _, rfl, bs, rs, C24, l0, hl4, hR4, by omega, hT, ho⟩
      · intro F' hF
        refine ⟨_, rfl, _, _, rfl, rfl, _, rfl, ite2 (fun _ => hF _ _ C3) (fun _ => ?_)⟩
        refine ⟨_, rfl, rfl, _, rfl, ite2 (fun _ => ?_) (fun _ => hF _ _ C3)⟩
        refine ⟨_, rfl, _, _, rfl, rfl, _, rfl, ite2 (fun _ => ?_) (fun _ => hF _ _ C3)⟩
        refine ⟨_, rfl, d, sa, ns, _, rfl, (C2.trans C3).ent, by decide, by decide, fun n7 H5 n70 n71 C5 => ?_⟩
        exact ⟨rfl, _, rfl, hF _ _ (C3.trans C5)⟩
    · rintro σ H2 ⟨l, x4, x5, x6, x7, x8, rfl, bs, rs, C2, l0, hl, hR, hz, hT, ho⟩
      refine ⟨_, rfl, kq l bs rs H2 C2 l0 hl hR ?_ hT ho⟩
      refine Nat.le_trans hz (Nat.mul_le_mul_right _ ?_)
      omega
theorem ok_body (cBody : FBody K mg) (cFork : FFork K mg) (cStraight : FStraight K mg) (cNext : FNext K mg) (T : Bt mg) : ∀ n : Nat, FnOk P w K mg base CX0 (n + 4) cBody.f cBody.fd pBody (spBody K n)
  | 0 => body_one (k := 3) cBody cFork cStraight cNext T (Nat.le_refl _) ok_no (fun h => absurd h (Nat.lt_irrefl 0))
  | n + 1 => body_one (k := n + 4) cBody cFork cStraight cNext T (by omega) (ok_body cBody cFork cStraight cNext T n) (fun _ vs H Q E h => h)
def spBodyU (K : Frg) : Sp := fun vs H Q E => ∃ n, n ≤ 2 ∧ spBody K n vs H Q E
theorem ok_bodyU (cBody : FBody K mg) (cFork : FFork K mg) (cStraight : FStraight K mg) (cNext : FNext K mg) (T : Bt mg) : FnOk P w K mg base CX0 6 cBody.f cBody.fd pBody (spBodyU K) := by
  refine ⟨fun vs H Q E ⟨n, hn, h⟩ => (ok_body (P := P) (w := w) (base := base) cBody cFork cStraight cNext T n).len _ _ _ _ h, fun A outer s H args us vs Q E hr he hb hv ⟨n, hn, h⟩ => ?_⟩
  exact ((ok_body cBody cFork cStraight cNext T n).mono (by omega)).run A outer s H args us vs Q E hr he hb hv h
end
end DL
namespace DL
open PySem L2 DLR
/-! ### programs -/
structure Prog where
  ws : List Int
  rows : List Row
structure Good (p : Prog) : Prop where
  r1 : 1 ≤ p.rows.length
  r40 : p.rows.length ≤ 40
  w8 : p.ws.length ≤ 8
  num : ∀ x ∈ p.ws, -1000000 ≤ x ∧ x ≤ 1000000
  ok : ∀ r ∈ p.rows, r.ok p.ws.length p.rows.length
def ProgAt (H : Hp) (a : Addr) (p : Prog) : Prop :=
  ∃ (wa ra : Addr) (bs : List Addr), H a = some (.tup [.ref wa, .ref ra]) ∧ H wa = some (.tup (p.ws.map V.int)) ∧ H ra = some (.tup (bs.map V.ref)) ∧ RowsAt H bs p.rows
theorem ProgAt.kp {H H' : Hp} {a : Addr} {p : Prog} (h : ProgAt H a p) (k : Kp H H') : ProgAt H' a p := by
  obtain ⟨wa, ra, bs, h1, h2, h3, h4⟩ := h
  exact ⟨wa, ra, bs, k _ _ h1, k _ _ h2, k _ _ h3, h4.kp k⟩
def nI (n : Nat) : V := .int (n : Int)
def PopAt (K : Frg) (H0 : Hp) (d sa : Addr) (ns : List Int) (D l : Addr) (all : List Nat) (i : Nat) (H : Hp) : Prop :=
  ∃ ks ls : List Nat, Dc K H0 H d sa ns ∧ H0 D = none ∧ H0 l = none ∧ D ≠ l ∧ H D = some (.lst (ks.map nI)) ∧ H l = some (.lst (ls.map nI)) ∧ (ks ++ ls).Perm all ∧ ks.length = i
theorem PopAt.perm {K : Frg} {H0 H : Hp} {d sa : Addr} {ns : List Int} {D l : Addr} {all : List Nat} (h : PopAt K H0 d sa ns D l all all.length H) :
    ∃ ks : List Nat, Dc K H0 H d sa ns ∧ H0 D = none ∧ H D = some (.lst (ks.map nI)) ∧ ks.Perm all := by
  obtain ⟨ks, ls, C, nD, nl, ne, hD, hl, hp, hk⟩ := h
  have e := hp.length_eq
  rw [List.length_append, hk] at e
  have z : ls = [] := List.length_eq_zero_iff.mp (by omega)
  subst z
  rw [List.append_nil] at hp
  exact ⟨ks, C, nD, hD, hp⟩
theorem erase_pm {α : Type} : ∀ {l : List α} {j : Nat} {x : α}, l[j]? = some x → (x :: l.eraseIdx j).Perm l
  | [], j, x, h => by simp at h
  | y :: l, 0, x, h => by
    have e : y = x := by simpa using h
    subst e
    exact List.Perm.refl _
  | y :: l, j + 1, x, h => by
    have ih := erase_pm (l := l) (j := j) (x := x) (by simpa using h)
    exact (List.Perm.swap y x _).trans (List.Perm.cons y ih)
theorem sl1 {xs : List V} (h : 1 ≤ xs.length) : cutV xs none (some 1) = xs.take 1 := by
  unfold cutV
  have e : HT.sIx xs.length xs.length (some 1) = min 1 xs.length := HT.sIx_nat _ _ 1
  rw [e, HT.sIx_none, List.drop_zero, Nat.sub_zero, Nat.min_eq_left h]
theorem drop1 {xs : List V} : cutV xs (some 1) none = xs.drop 1 := by
  unfold cutV
  have e : HT.sIx xs.length 0 (some 1) = min 1 xs.length := HT.sIx_nat _ _ 1
  rw [e, HT.sIx_none]
  cases xs with
  | nil => rfl
  | cons x xs =>
    have q : min 1 (x :: xs).length = 1 := Nat.min_eq_left (by simp)
    rw [q]
    exact List.take_of_length_le (by simp)
theorem map_erase {α β : Type} (f : α → β) : ∀ (l : List α) (j : Nat), (l.eraseIdx j).map f = (l.map f).eraseIdx j
  | [], _ => rfl
  | _ :: _, 0 => rfl
  | x :: l, j + 1 => by
    show f x :: (l.eraseIdx j).map f = f x :: (l.map f).eraseIdx j
    rw [map_erase f l j]
theorem pop_perm {ks ls all : List Nat} {j : Nat} {x : Nat} (h : (ks ++ ls).Perm all) (e : ls[j]? = some x) : ((ks ++ [x]) ++ ls.eraseIdx j).Perm all := by
  refine List.Perm.trans ?_ h
  rw [List.append_assoc]
  exact List.Perm.append_left _ (erase_pm e)
theorem nI_get {l : List Nat} {j : Nat} (h : j < l.length) : (l.map nI)[j]? = some (.int ((l[j] : Nat) : Int)) := by
  rw [List.getElem?_map, List.getElem?_eq_getElem h]
  rfl
theorem nI_getD {l : List Nat} {j : Nat} (h : j < l.length) : (l.map nI)[j]? = some (.int ((l.getD j 0 : Nat) : Int)) := by
  rw [nI_get h, List.getD_eq_getElem?_getD, List.getElem?_eq_getElem h]
  rfl
theorem nI_flat (l : List Nat) : (l.map nI).all flatV = true := by
  rw [List.all_eq_true]
  intro x hx
  obtain ⟨n, _, rfl⟩ := List.mem_map.mp hx
  rfl
theorem nI_none {l : List Nat} {x m : Nat} {z : V} (h : l[m]? ≠ some x) (e : (l.map nI)[m]? = some z) : eqV z (.int (x : Int)) = false := by
  rw [List.getElem?_map] at e
  cases q : l[m]? with
  | none => rw [q] at e; cases e
  | some y =>
    rw [q] at e
    have ez : nI y = z := Option.some.inj e
    subst ez
    show ((y : Int) == (x : Int)) = false
    refine beq_eq_false_iff_ne.mpr fun z => h ?_
    rw [q, Int.ofNat_inj.mp z]
theorem rgV_nI (n : Nat) : rgV 0 (n : Int) = (List.range n).map nI := by
  unfold rgV
  have e : ((n : Int) - 0).toNat = n := by omega
  rw [e]
  refine List.map_congr_left fun i _ => ?_
  show V.int (0 + (i : Int)) = V.int (i : Int)
  rw [Int.zero_add]
theorem rgV_nI1 (n : Nat) : rgV 1 (n : Int) = ((List.range (n - 1)).map (· + 1)).map nI := by
  unfold rgV
  have e : ((n : Int) - 1).toNat = n - 1 := by omega
  rw [e, List.map_map]
  refine List.map_congr_left fun i _ => ?_
  show V.int (1 + (i : Int)) = V.int ((i + 1 : Nat) : Int)
  rw [show ((i + 1 : Nat) : Int) = 1 + (i : Int) by omega]
def Row.ren (f g : Nat → Nat) : Row → Row
  | .load w n => .load (f w) (g n)
  | .add w n => .add (f w) (g n)
  | .take w n => .take (f w) (g n)
  | .store w n => .store (f w) (g n)
  | .say n => .say (g n)
  | .test a b => .test (g a) (g b)
  | .stop => .stop
def Row.uses : Row → Bool
  | .load _ _ => true
  | .add _ _ => true
  | .take _ _ => true
  | .store _ _ => true
  | _ => false
def Row.word : Row → Str
  | .load _ _ => "load"
  | .add _ _ => "add"
  | .take _ _ => "take"
  | .store _ _ => "store"
  | .say _ => "say"
  | .test _ _ => "test"
  | .stop => "stop"
theorem Row.w0 (r : Row) : (rowVs r)[0]? = some (.str r.word) := by cases r <;> rfl
theorem Row.ren_len (f g : Nat → Nat) (r : Row) : (rowVs (r.ren f g)).length = (rowVs r).length := by cases r <;> rfl
theorem Row.ren_w (f g : Nat → Nat) (r : Row) : (rowVs r).take 1 = (rowVs (r.ren f g)).take 1 := by cases r <;> rfl
theorem Row.ren_ok {f g : Nat → Nat} {W N : Nat} (hf : ∀ x, x < W → f x < W) (hg : ∀ x, x < N → g x < N) : ∀ {r : Row}, r.ok W N → (r.ren f g).ok W N := fun {r} h => by
  cases r <;> simp only [Row.ok, Row.ren] at * <;> first | exact ⟨hf _ h.1, hg _ h.2⟩ | exact ⟨hg _ h.1, hg _ h.2⟩ | exact hg _ h
theorem Row.ren_at {f g : Nat → Nat} {W N : Nat} : ∀ {r : Row} {i : Nat}, r.ok W N → i + 1 < (rowVs r).length → ∃ x : Nat, (rowVs r)[i + 1]? = some (.int (x : Int)) ∧
    ((i == 0 && r.uses) = true → x < W ∧ (rowVs (r.ren f g))[i + 1]? = some (.int (f x : Int))) ∧ ((i == 0 && r.uses) = false → x < N ∧ (rowVs (r.ren f g))[i + 1]? = some (.int (g x : Int))) := by
  intro r i h hi
  have hi3 : i < 2 := by have := Row.vs_len r; omega
  match i, hi3 with
  | 0, _ =>
    cases r <;> first
      | exact ⟨_, rfl, fun _ => ⟨h.1, rfl⟩, fun e => Bool.noConfusion e⟩
      | exact ⟨_, rfl, fun e => Bool.noConfusion e, fun _ => ⟨h, rfl⟩⟩
      | exact ⟨_, rfl, fun e => Bool.noConfusion e, fun _ => ⟨h.1, rfl⟩⟩
      | (exfalso; simp [rowVs] at hi)
  | 1, _ =>
    cases r <;> first
      | exact ⟨_, rfl, fun e => Bool.noConfusion e, fun _ => ⟨h.2, rfl⟩⟩
      | (exfalso; simp [rowVs] at hi)
theorem Row.in4 (r : Row) : inV (.str r.word) [.str "load", .str "add", .str "take", .str "store"] = r.uses := by cases r <;> (dsimp only [Row.word, Row.uses]; decide +kernel)
theorem first_of {l : List Nat} {x : Nat} (h : x ∈ l) : ∃ j, j < l.length ∧ l[j]? = some x ∧ ∀ m, m < j → l[m]? ≠ some x := by
  induction l with
  | nil => cases h
  | cons y l ih =>
    by_cases e : y = x
    · exact ⟨0, by simp, by simp [e], fun m hm => absurd hm (Nat.not_lt_zero _)⟩
    · obtain ⟨j, h1, h2, h3⟩ := ih ((List.mem_cons.mp h).resolve_left fun z => e z.symm)
      refine ⟨j + 1, by simp; omega, by simpa using h2, fun m hm => ?_⟩
      cases m with
      | zero => simpa using e
      | succ m => simpa using h3 m (by omega)
theorem refs_of {F : Addr → Row → Prop} : ∀ {l : List V}, (∀ i, i < l.length → ∃ b r, l[i]? = some (.ref b) ∧ F b r) → ∃ bs rs, l = bs.map V.ref ∧ Paired F bs rs
  | [], _ => ⟨[], [], rfl, .nil⟩
  | x :: l, h => by
    obtain ⟨b, r, h1, h2⟩ := h 0 (by simp)
    obtain ⟨bs, rs, h3, h4⟩ := refs_of (l := l) fun i hi => by
      obtain ⟨b, r, q1, q2⟩ := h (i + 1) (by simp; omega)
      exact ⟨b, r, by simpa using q1, q2⟩
    have e : x = .ref b := by simpa using h1
    exact ⟨b :: bs, r :: rs, by rw [e, h3]; rfl, .cons h2 h4⟩
theorem asg_elim {te : TE} {g : TG} {D : Ends} {σ : L2.St} {H : Hp} (R : V → Hp → Prop) (key : ∀ v H', R v H' → g v σ H' D.nx) (test : ∀ Q' : VK, (∀ v H', R v H' → Q' v H') → te σ H Q') : tAsg te g D σ H := test _ key
theorem ixN_nat {n x : Nat} (h : x < n) : ixN n (x : Int) = some x := by
  unfold ixN
  rw [if_pos (by omega), if_pos (by omega)]
  rfl
def kindR (r : Row) : Nat := isT r + if decide ((rowVs r)[0]? = some (V.str "stop")) = true then 2 else 0
structure MixAt (K : Frg) (H0 : Hp) (d sa : Addr) (ns : List Int) (D1 ln lf : Addr) (ks nums ts : List Nat) (W N : Nat) (i : Nat) (H : Hp) : Prop where
  dc : Dc K H0 H d sa ns
  nf : H0 lf = none
  ne1 : D1 ≠ lf
  ne2 : ln ≠ lf
  names : H D1 = some (.lst (ks.map nI))
  numbers : H ln = some (.lst (nums.map nI))
  found : ∃ fs : List V, H lf = some (.lst fs) ∧ fs.length = N ∧ ∀ x, x < N → x ∈ nums.take i → ∃ b r, fs[x]? = some (.ref b) ∧ H b = some (.tup (rowVs r)) ∧ r.ok W N ∧ ∃ j, nums[j]? = some x ∧ kindR r = ts.getD j 0
theorem MixAt.same {K : Frg} {H0 H H' : Hp} {d sa : Addr} {ns : List Int} {D1 ln lf : Addr} {ks nums ts : List Nat} {W N i : Nat} (m : MixAt K H0 d sa ns D1 ln lf ks nums ts W N i H) (s : Same1 H H') : MixAt K H0 d sa ns D1 ln lf ks nums ts W N i H' := by
  obtain ⟨fs, h1, h2, h3⟩ := m.found
  refine ⟨m.dc.same s, m.nf, m.ne1, m.ne2, s _ _ m.names, s _ _ m.numbers, fs, s _ _ h1, h2, fun x hx hm => ?_⟩
  obtain ⟨b, r, q1, q2, q3⟩ := h3 x hx hm
  exact ⟨b, r, q1, s _ _ q2, q3⟩
theorem MixAt.put {K : Frg} {H0 H : Hp} {d sa : Addr} {ns : List Int} {D1 ln lf : Addr} {ks nums ts : List Nat} {W N i y : Nat} {t : Addr} {r : Row} {fs : List V} (m : MixAt K H0 d sa ns D1 ln lf ks nums ts W N i H) (hf : H lf = some (.lst fs)) (hy : nums[i]? = some y) (hyN : y < N)
    (ht : H t = some (.tup (rowVs r))) (ho : r.ok W N) (hT : kindR r = ts.getD i 0) : MixAt K H0 d sa ns D1 ln lf ks nums ts W N (i + 1) (upd H lf (.lst (fs.set y (.ref t)))) := by
  obtain ⟨fs', h1, h2, h3⟩ := m.found
  rw [hf] at h1
  have e : fs = fs' := by injection (Option.some.inj h1)
  subst e
  have kp : Kp H (upd H lf (.lst (fs.set y (.ref t)))) := Kp.lst hf
  refine ⟨m.dc.mut m.nf, m.nf, m.ne1, m.ne2, by rw [upd_ne m.ne1]; exact m.names, by rw [upd_ne m.ne2]; exact m.numbers, fs.set y (.ref t), upd_same, by rw [List.length_set]; exact h2, fun x hx hm => ?_⟩
  by_cases e : y = x
  · subst e
    exact ⟨t, r, by rw [List.getElem?_set_self (by omega)], kp _ _ ht, ho, i, hy, hT⟩
  · rw [List.getElem?_set_ne e]
    rw [List.take_add_one, hy] at hm
    rcases List.mem_append.mp hm with q | q
    · obtain ⟨b, r, q1, q2, q3⟩ := h3 x hx q
      exact ⟨b, r, q1, kp _ _ q2, q3⟩
    · have q : x = y := by simpa using q
      exact absurd q.symm e
theorem isT_of {r r' : Row} (h : rowVs r = rowVs r') : isT r = isT r' := by
  unfold isT
  rw [h]
theorem isT_ren (f g : Nat → Nat) (r : Row) : isT (r.ren f g) = isT r := by
  unfold isT
  have e : (rowVs (r.ren f g))[0]? = (rowVs r)[0]? := by cases r <;> rfl
  rw [e]
theorem kindR_ren (f g : Nat → Nat) (r : Row) : kindR (r.ren f g) = kindR r := by
  unfold kindR
  have e : (rowVs (r.ren f g))[0]? = (rowVs r)[0]? := by cases r <;> rfl
  rw [e, isT_ren]
theorem kindR_T (r : Row) : isT r = kindR r % 2 := by
  have := isT_le r
  unfold kindR
  split <;> omega
theorem kindR_of {r r' : Row} (h : rowVs r = rowVs r') : kindR r = kindR r' := by
  unfold kindR isT
  rw [h]
theorem kindR_stop : kindR .stop = 2 := by
  unfold kindR
  rw [isT_stop, if_pos (by decide +kernel)]
theorem kindR_ne {r : Row} (h : kindR r = 2) : r = .stop := by
  cases r with
  | stop => rfl
  | _ =>
    have hle := isT_le
    unfold kindR at h
    rw [if_neg (by show decide (some (V.str _) = some (V.str "stop")) ≠ true; decide +kernel)] at h
    unfold isT at h
    split at h <;> omega
theorem permN_sum {α : Type} {f : α → Nat} {l m : List α} (h : l.Perm m) : (l.map f).sum = (m.map f).sum := by
  induction h with
  | nil => rfl
  | cons x _ ih => rw [List.map_cons, List.map_cons, List.sum_cons, List.sum_cons, ih]
  | swap x y l =>
    rw [List.map_cons, List.map_cons, List.map_cons, List.map_cons, List.sum_cons, List.sum_cons, List.sum_cons, List.sum_cons]
    omega
  | trans _ _ a b => rw [a, b]
theorem tests_range (rs : List Row) : tests rs = ((List.range rs.length).map fun x => isT (rs.getD x .stop)).sum := by
  unfold tests
  congr 1
  refine List.ext_getElem (by simp) fun i h1 h2 => ?_
  rw [List.length_map] at h1
  rw [List.getElem_map, List.getElem_map, List.getElem_range, List.getD_eq_getElem?_getD, List.getElem?_eq_getElem h1]
  rfl
theorem tests_perm {rs rs' : List Row} {nums : List Nat} (hl : rs'.length = rs.length) (hp : nums.Perm (List.range rs.length)) (h : ∀ x, x < rs.length → ∃ j, nums[j]? = some x ∧ isT (rs'.getD x .stop) = (rs.map isT).getD j 0) : tests rs' = tests rs := by
  have nd : nums.Nodup := hp.nodup_iff.mpr List.nodup_range
  rw [tests_range rs', hl, ← permN_sum hp]
  unfold tests
  congr 1
  have nl : nums.length = rs.length := by rw [hp.length_eq, List.length_range]
  refine List.ext_getElem (by rw [List.length_map, List.length_map, nl]) fun i h1 h2 => ?_
  rw [List.length_map] at h1 h2
  rw [List.getElem_map, List.getElem_map]
  have hx : nums[i] < rs.length := List.mem_range.mp (hp.mem_iff.mp (List.getElem_mem h1))
  obtain ⟨j, hj, e⟩ := h nums[i] hx
  obtain ⟨hj1, hj2⟩ := List.getElem?_eq_some_iff.mp hj
  have ij : j = i := (List.getElem_inj nd).mp hj2
  subst ij
  rw [e, List.getD_eq_getElem?_getD, List.getElem?_map, List.getElem?_eq_getElem h2]
  rfl
abbrev sMixed : Stmt := top 59
abbrev pMixed : List Str := ["_law_d", "_law_program"]
abbrev FMixed (K : Frg) (mg : Str → Option Value) := Fd K mg "_law_mixed" sMixed pMixed
def spMixed (K : Frg) : Sp := fun vs H Q _ => ∃ (d sa : Addr) (ns : List Int) (a : Addr) (p : Prog), vs = [.ref d, .ref a] ∧ Ent K H d sa ns ∧ ProgAt H a p ∧ Good p ∧
  ∀ b q H', Dc K H H' d sa ns → ProgAt H' b q → Good q → tests q.rows = tests p.rows → q.rows.length = p.rows.length → (p.rows.getD 0 .stop ≠ .stop → q.rows.getD 0 .stop ≠ .stop) → Q (.ref b) H'
section
variable {P : Program} {w : World} {K : PySem.W.Frag} {mg : Str → Option Value} {base : Heap}
abbrev nMixed : List Str := ["_law_d", "_law_program", "_law_worths", "_law_rows", "_law_left", "_law_names", "_law_row", "_law_numbers", "_law_found", "_law_number", "_law_told", "_law_k", "_law_is_worth", "_law_order", "_law_worth"]
theorem scMixed : FnScope nMixed pMixed (defScope sMixed) := ⟨rfl, rfl, rfl, by decide +kernel, rfl, by decide +kernel, by decide +kernel⟩
theorem ok_mixed (cMixed : FMixed K mg) (cNext : FNext K mg) (T : Bt mg) : FnOk P w K mg base CX0 2 cMixed.f cMixed.fd pMixed (spMixed K) := by
  have GNext : FnOk P w K mg base CX0 1 cNext.f cNext.fd ["_law_dice_here", "_law_many"] (spNext K) := ok_next cNext.F T
  refine cMixed.F.ok scMixed (fun vs H Q E h => ?_) (fun cdv A outer s H vs Q E hr h => ?_)
  · obtain ⟨d, sa, ns, a, p, rfl, _⟩ := h
    rfl
  · obtain ⟨d, sa, ns, a, p, rfl, hE, ⟨wa, ra, bs, ha, hwa, hra, hR⟩, g, kq⟩ := h
    refine ⟨_, (pss_cons (ps_asg (pv 1) (pg_tup rfl (pgs_cons (pg_name (i := 2) scMixed.nd rfl (Or.inr rfl)) (pgs_cons (pg_name (i := 3) scMixed.nd rfl (Or.inl rfl)) pgs_nil))))
      (pss_cons (ps_set (i := 4) scMixed.nd rfl (Or.inr rfl) (pe_listRg rfl (by rfl) T.list (prg_1 (by rfl) T.range (pe_callB call_len_seq (by rfl) T.len PySem.boot_len (pa_cons (pv 2) pa_nil)))))
      (pss_cons (ps_set (i := 5) scMixed.nd rfl (Or.inr rfl) (pe_lc (own := [("_law_worth", 14)]) (g := gName 14) (tt := tYes) rfl scMixed.nd (pi_tup (pv 2)) (blkOk_by (N := nMixed) (sc := defScope sMixed) (by decide +kernel)) (fun _ _ _ _ _ => (pg_name (i := 14) scMixed.nd rfl (Or.inl rfl))) (fun _ _ _ _ _ => pts_nil) (fun _ _ _ _ _ => (pe_bmK K rfl PySem.F.plainAttrs_list PySem.F.slot_list_pop PySem.F.type_list_pop mt_popAt (pv 4) (pa_cons (pe_call GNext (hr.mono (by first | omega | decide)) (by rfl) cNext.m cNext.F.kp cNext.b .nil pass0 (pa_cons (pv 0) (pa_cons (pe_callB (call_lenK K rfl) (by rfl) T.len PySem.boot_len (pa_cons (pv 4) pa_nil)) pa_nil))) pa_nil)))))
      (pss_cons (ps_set (i := 4) scMixed.nd rfl (Or.inr rfl) (pe_listRg rfl (by rfl) T.list (prg_2 (by rfl) T.range pe_int (pe_callB call_len_seq (by rfl) T.len PySem.boot_len (pa_cons (pv 3) pa_nil)))))
      (pss_cons (ps_set (i := 7) scMixed.nd rfl (Or.inl rfl) (pe_op op_cat (pe_lst (pa_cons pe_int pa_nil)) (pe_lc (own := [("_law_row", 6)]) (g := gName 6) (tt := tYes) rfl scMixed.nd (pi_tup (pe_slice sl_tupS (pv 3) (po_some pe_int) po_none)) (blkOk_by (N := nMixed) (sc := defScope sMixed) (by decide +kernel)) (fun _ _ _ _ _ => (pg_name (i := 6) scMixed.nd rfl (Or.inl rfl))) (fun _ _ _ _ _ => pts_nil) (fun _ _ _ _ _ => (pe_bmK K rfl PySem.F.plainAttrs_list PySem.F.slot_list_pop PySem.F.type_list_pop mt_popAt (pv 4) (pa_cons (pe_call GNext (hr.mono (by first | omega | decide)) (by rfl) cNext.m cNext.F.kp cNext.b .nil pass0 (pa_cons (pv 0) (pa_cons (pe_callB (call_lenK K rfl) (by rfl) T.len PySem.boot_len (pa_cons (pv 4) pa_nil)) pa_nil))) pa_nil))))))
      (pss_cons (ps_set (i := 8) scMixed.nd rfl (Or.inl rfl) (pe_op op_rep (pe_lst (pa_cons pe_non pa_nil)) (pe_callB call_len_seq (by rfl) T.len PySem.boot_len (pa_cons (pv 3) pa_nil))))
      (pss_cons (ps_for PassesOwn.never rfl (pi_enumT (by rfl) T.enumerate (pa_cons (pv 3) pa_nil)) (pg_tup rfl (pgs_cons (pg_name (i := 9) scMixed.nd rfl (Or.inl rfl)) (pgs_cons (pg_name (i := 6) scMixed.nd rfl (Or.inl rfl)) pgs_nil)))
          (pss_cons (ps_set (i := 10) scMixed.nd rfl (Or.inl rfl) (pe_slice sl_tupS (pv 6) po_none (po_some pe_int)))
          (pss_cons (ps_for PassesOwn.never rfl (pi_range2 rfl T.range (pa_cons pe_int (pa_cons (pe_callB call_len_seq (by rfl) T.len PySem.boot_len (pa_cons (pv 6) pa_nil)) pa_nil))) (pg_name (i := 11) scMixed.nd rfl (Or.inl rfl))
              (pss_cons (ps_set (i := 12) scMixed.nd rfl (Or.inl rfl) (pe_and (pe_cmpR op_eq (pv 11) pe_int (nomark _)) (pe_one (pe_cmpR op_in_seq (pe_ix ix_tup (pv 6) pe_int (fun _ _ => rfl)) (pe_tup (pa_cons pe_str (pa_cons pe_str (pa_cons pe_str (pa_cons pe_str pa_nil))))) rfl))))
              (pss_one (ps_set (i := 10) scMixed.nd rfl (Or.inl rfl) (pe_op op_catS (pv 10) (pe_tup (pa_cons (pe_ix ix_list (pe_ifExp (pt_val (pv 12)) (pv 5) (pv 7)) (pe_ix ix_tup (pv 6) (pv 11) (fun _ _ => rfl)) (fun _ _ => rfl)) pa_nil)))))))
          (pss_one (ps_asg (pv 10) (pg_sub (pv 8) (pe_ix ix_list (pv 7) (pv 9) (fun _ _ => rfl)) set_list))))))
      (pss_cons (ps_setLc (i := 13) (own := [("_law_worth", 14)]) (g := gName 14) (tt := tYes) rfl scMixed.nd rfl rfl (sw_true rfl rfl rfl (by decide +kernel)) (pi_range1 rfl T.range (pa_cons (pe_callB call_len_seq (by rfl) T.len PySem.boot_len (pa_cons (pv 2) pa_nil)) pa_nil)) (blkOk_by (N := nMixed) (sc := defScope sMixed) (by decide +kernel)) (fun _ _ _ _ _ => (pg_name (i := 14) scMixed.nd rfl (Or.inl rfl))) (fun _ _ _ _ _ => pts_nil) (fun _ _ _ _ _ => (pe_bmK K rfl PySem.F.plainAttrs_list PySem.F.slot_list_index PySem.F.type_list_index (mt_indexK K rfl) (pv 5) (pa_cons (pv 14) pa_nil))))
      (pss_one (ps_ret (pe_tup (pa_cons (pe_callTy call_tuple_of (by rfl) T.tuple (by decide +kernel) (pa_cons (pe_lc (own := [("_law_worth", 14)]) (g := gName 14) (tt := tYes) rfl scMixed.nd (pi_list (pv 13)) (blkOk_by (N := nMixed) (sc := defScope sMixed) (by decide +kernel)) (fun _ _ _ _ _ => (pg_name (i := 14) scMixed.nd rfl (Or.inl rfl))) (fun _ _ _ _ _ => pts_nil) (fun _ _ _ _ _ => (pe_ix (ix_tupK K rfl) (pv 2) (pv 14) (fun _ _ => rfl)))) pa_nil)) (pa_cons (pe_callTy call_tuple_of (by rfl) T.tuple (by decide +kernel) (pa_cons (pv 8) pa_nil)) pa_nil))))))))))))), ?_⟩
    have hK0 := Dc.refl hE
    have hbr := Paired.length hR
    refine ⟨_, rfl, a, _, rfl, SqT.of ha, rfl, .ref wa, _, rfl, .ref ra, _, rfl, rfl, ?_⟩
    have hW8 := g.w8
    have hR40 := g.r40
    have hR1 := g.r1
    refine ⟨_, rfl, wa, _, rfl, .inr (SqT.of hwa), _, rfl, RgOk.of_le (Int.le_refl _) (by rw [List.length_map]; omega) (by omega) (by omega), fun l1 hl1 => ?_⟩
    refine alloc hl1 fun H1 s1 e1 => ?_
    rw [List.length_map, rgV_nI] at e1
    have C1 := hK0.same s1
    refine ⟨_, rfl, wa, rfl, ⟨_, SqT.of (s1 _ _ hwa)⟩, fun D1 hD1 => ?_⟩
    have nDl : D1 ≠ l1 := (ne_of_none e1 hD1).symm
    refine lc_tup (K := K) (a := wa) (xs := p.ws.map V.int) (PopAt K H d sa ns D1 l1 (List.range p.ws.length))
      ⟨[], _, C1.new hD1, C1.here hD1, hl1, nDl, upd_same, by rw [upd_ne nDl.symm]; exact e1, List.Perm.refl _, rfl⟩ (fun i H2 _ ⟨_, _, C, _⟩ => SqT.of (C.kp _ _ hwa)) ?_ ?_
    · rintro i x H2 hi ⟨ks, ls, C2, nD, nl, ne, hD, hl, hp, hk⟩
      have hiW : i < p.ws.length := by
        have q := (List.getElem?_eq_some_iff.mp hi).1
        rwa [List.length_map] at q
      have hle := hp.length_eq
      rw [List.length_append, hk, List.length_range] at hle
      refine ⟨rfl, _, rfl, .inl ⟨rfl, _, SqL.of hl⟩, _, rfl, _, rfl, l1, _, rfl, .inl (SqL.of hl), d, sa, ns, _, rfl, C2.ent, ?_, ?_, fun n H3 n0 n1 C3 => ?_⟩
      · rw [List.length_map]; omega
      · rw [List.length_map]; omega
      · rw [List.length_map] at n1
        obtain ⟨j, hj⟩ : ∃ j : Nat, n = (j : Int) := ⟨n.toNat, by omega⟩
        subst hj
        have hjl : j < ls.length := by omega
        have hl3 := C3.but _ _ (C2.ned nl) hl
        have hD3 := C3.but _ _ (C2.ned nD) hD
        refine ⟨l1, _, _, j, _, rfl, rfl, hl3, by omega, by omega, ?_, nI_get hjl, _, ?_, szl (show (ks.map nI).length < 100000 by rw [List.length_map]; omega), ?_⟩
        · rw [List.length_map, seqIndex_of (by omega) (by omega)]
          rfl
        · rw [upd_ne ne]; exact hD3
        · refine ⟨ks ++ [ls[j]], ls.eraseIdx j, ((C2.trans C3).mut nl).mut nD, nD, nl, ne, ?_, ?_, pop_perm hp (List.getElem?_eq_getElem hjl), by rw [List.length_append, hk]; rfl⟩
          · rw [upd_same, List.map_append]; rfl
          · rw [upd_ne ne.symm, upd_same, map_erase]
    · intro H2 h2
      rw [List.length_map] at h2
      obtain ⟨ks, C2, nD1, hks, hkp⟩ := PopAt.perm (all := List.range p.ws.length) (by rw [List.length_range]; exact h2)
      have hra2 := C2.kp _ _ hra
      refine ⟨_, rfl, ra, _, rfl, .inr (SqT.of hra2), _, _, rfl, rfl, RgOk.of_le (by decide) (by rw [List.length_map]; omega) (by decide) (by omega), fun l2 hl2 => ?_⟩
      refine alloc hl2 fun H3 s3 e3 => ?_
      rw [List.length_map, hbr, rgV_nI1] at e3
      have C3 := C2.same s3
      refine ⟨(by show 1 ≤ sizeLine; decide), fun l0 hl0 => ?_⟩
      refine alloc hl0 fun H4 s4 e4 => ?_
      have C4 := C3.same s4
      refine ⟨_, rfl, _, rfl, ra, _, rfl, C4.kp _ _ hra, fun p2 H5 s5 e5 => ?_⟩
      rw [drop1] at e5
      have C5 := C4.same s5
      refine ⟨p2, rfl, ⟨_, SqT.of e5⟩, fun D2 hD2 => ?_⟩
      have hxl : ((bs.map V.ref).drop 1).length = p.rows.length - 1 := by rw [List.length_drop, List.length_map, hbr]
      have el2 : H5 l2 = some (.lst (((List.range (p.rows.length - 1)).map (· + 1)).map nI)) := (s4.trans s5) _ _ e3
      have el0 : H5 l0 = some (.lst [.int 0]) := s5 _ _ e4
      have hks5 : H5 D1 = some (.lst (ks.map nI)) := ((s3.trans s4).trans s5) _ _ hks
      have nDl2 : D2 ≠ l2 := (ne_of_none el2 hD2).symm
      have nl2 : H l2 = none := C2.here hl2
      have nl0 : H l0 = none := C3.here hl0
      have nDa : D1 ≠ l2 := ne_of_none hks hl2
      have nDb : D1 ≠ D2 := ne_of_none hks5 hD2
      have nl02 : l0 ≠ l2 := (ne_of_none e3 hl0).symm
      have nl0D : l0 ≠ D2 := ne_of_none el0 hD2
      refine lc_tup (K := K) (a := p2) (xs := (bs.map V.ref).drop 1)
        (fun i H6 => PopAt K H d sa ns D2 l2 ((List.range (p.rows.length - 1)).map (· + 1)) i H6 ∧ H6 D1 = some (.lst (ks.map nI)) ∧ H6 l0 = some (.lst [.int 0]) ∧ H6 p2 = some (.tup ((bs.map V.ref).drop 1)))
        ⟨⟨[], _, C5.new hD2, C5.here hD2, nl2, nDl2, upd_same, by rw [upd_ne nDl2.symm]; exact el2, List.Perm.refl _, rfl⟩, by rw [upd_ne nDb]; exact hks5, by rw [upd_ne nl0D]; exact el0,
          by rw [upd_ne (ne_of_none e5 hD2)]; exact e5⟩ (fun i H2 _ ⟨_, _, _, q⟩ => SqT.of q) ?_ ?_
      · rintro i x H2 hi ⟨⟨ks2, ls, C2, nD, nl, ne, hD, hl, hp, hk⟩, g1, g0, g2⟩
        have hiW : i < p.rows.length - 1 := by
          have q := (List.getElem?_eq_some_iff.mp hi).1
          rwa [hxl] at q
        have hle := hp.length_eq
        rw [List.length_append, hk, List.length_map, List.length_range] at hle
        refine ⟨rfl, _, rfl, .inl ⟨rfl, _, SqL.of hl⟩, _, rfl, _, rfl, l2, _, rfl, .inl (SqL.of hl), d, sa, ns, _, rfl, C2.ent, ?_, ?_, fun n H3 n0 n1 C3 => ?_⟩
        · rw [List.length_map]; omega
        · rw [List.length_map]; omega
        · rw [List.length_map] at n1
          obtain ⟨j, hj⟩ : ∃ j : Nat, n = (j : Int) := ⟨n.toNat, by omega⟩
          subst hj
          have hjl : j < ls.length := by omega
          have hl3 := C3.but _ _ (C2.ned nl) hl
          have hD3 := C3.but _ _ (C2.ned nD) hD
          refine ⟨l2, _, _, j, _, rfl, rfl, hl3, by omega, by omega, ?_, nI_get hjl, _, ?_, szl (show (ks2.map nI).length < 100000 by rw [List.length_map]; omega), ?_⟩
          · rw [List.length_map, seqIndex_of (by omega) (by omega)]
            rfl
          · rw [upd_ne ne]; exact hD3
          · refine ⟨⟨ks2 ++ [ls[j]], ls.eraseIdx j, ((C2.trans C3).mut nl).mut nD, nD, nl, ne, ?_, ?_, pop_perm hp (List.getElem?_eq_getElem hjl), by rw [List.length_append, hk]; rfl⟩, ?_, ?_, ?_⟩
            · rw [upd_same, List.map_append]; rfl
            · rw [upd_ne ne.symm, upd_same, map_erase]
            · rw [upd_ne nDb, upd_ne nDa]; exact C3.but _ _ (C2.ned nD1) g1
            · rw [upd_ne nl0D, upd_ne nl02]; exact C3.but _ _ (C2.ned nl0) g0
            · exact ((C3.kp.trans (Kp.lst hl3)).trans (Kp.lst (by rw [upd_ne ne]; exact hD3))) _ _ g2
      · rintro H6 ⟨h6, g1, g0, g2⟩
        rw [hxl] at h6
        obtain ⟨ms, C6, nD2, hms, hmp⟩ := PopAt.perm (all := (List.range (p.rows.length - 1)).map (· + 1)) (by rw [List.length_map, List.length_range]; exact h6)
        have hml := hmp.length_eq
        rw [List.length_map, List.length_range] at hml
        refine ⟨l0, D2, _, _, rfl, rfl, g0, hms, sz (by rw [List.length_map]; show 1 + _ ≤ _; omega), fun ln hln => ?_⟩
        refine alloc hln fun H7 s7 e7 => ?_
        have e7 : H7 ln = some (.lst ((0 :: ms).map nI)) := e7
        have C7 := C6.same s7
        refine ⟨(by show 1 ≤ sizeLine; decide), fun l7 hl7 => ?_⟩
        refine alloc hl7 fun H8 s8 e8 => ?_
        have C8 := C7.same s8
        have hra8 := C8.kp _ _ hra
        refine ⟨_, rfl, ra, _, rfl, .inr (SqT.of hra8), l7, _, _, rfl, rfl, e8, ?_, ?_, ?_, fun lf hlf => ?_⟩
        · rw [List.length_map]; omega
        · rw [List.length_map]; omega
        · refine sz ?_
          show 1 * _ ≤ _
          rw [List.length_map]; omega
        refine alloc hlf fun H9 s9 e9 => ?_
        rw [List.flatten_replicate_singleton, List.length_map, hbr] at e9
        have C9 := C8.same s9
        have n1f : D1 ≠ lf := ne_of_none ((s7.trans s8) _ _ g1) hlf
        have n2f : ln ≠ lf := ne_of_none (s8 _ _ e7) hlf
        have hmem : ∀ x, x ∈ (0 :: ms) ↔ x < p.rows.length := fun x => by
          rw [List.mem_cons, hmp.mem_iff, List.mem_map]
          constructor
          · rintro (q | ⟨y, q1, q2⟩)
            · omega
            · have := List.mem_range.mp q1; omega
          · intro q
            cases x with
            | zero => exact .inl rfl
            | succ x => exact .inr ⟨x, List.mem_range.mpr (by omega), rfl⟩
        have hpm : (0 :: ms).Perm (List.range p.rows.length) := by
          have e : List.range p.rows.length = 0 :: (List.range (p.rows.length - 1)).map (· + 1) := by
            rw [show p.rows.length = (p.rows.length - 1) + 1 by omega, List.range_succ_eq_map]
            rfl
          rw [e]
          exact hmp.cons 0
        have hkm : ∀ x, x ∈ ks ↔ x < p.ws.length := fun x => by rw [hkp.mem_iff, List.mem_range]
        have hnl : (0 :: ms).length = p.rows.length := by show ms.length + 1 = _; omega
        have hkl : ks.length = p.ws.length := by rw [hkp.length_eq, List.length_range]
        have hf : ∀ x, x < p.ws.length → ks.getD x 0 < p.ws.length := fun x hx => by
          rw [List.getD_eq_getElem?_getD, List.getElem?_eq_getElem (by omega)]
          exact (hkm _).mp (List.getElem_mem _)
        have hg : ∀ x, x < p.rows.length → (0 :: ms).getD x 0 < p.rows.length := fun x hx => by
          rw [List.getD_eq_getElem?_getD, List.getElem?_eq_getElem (by omega)]
          exact (hmem _).mp (List.getElem_mem _)
        refine ⟨_, rfl, ra, _, rfl, SqT.of (C9.kp _ _ hra), for_enumT (K := K) (a := ra) (xs := bs.map V.ref)
          (fun i σ H' => ∃ x6 x9 x10 x11 x12 : Option V, σ = [some (.ref d), some (.ref a), some (.ref wa), some (.ref ra), some (.ref l2), some (.ref D1), x6, some (.ref ln), some (.ref lf), x9, x10, x11, x12, none, none] ∧
            MixAt K H d sa ns D1 ln lf ks (0 :: ms) (p.rows.map kindR) p.ws.length p.rows.length i H')
          ⟨_, _, _, _, _, rfl, C9, C8.here hlf, n1f, n2f, ((s7.trans s8).trans s9) _ _ g1, (s8.trans s9) _ _ e7, _, e9, List.length_replicate, fun _ _ q => absurd q (by simp)⟩
          (fun i σ H' ⟨_, _, _, _, _, _, m⟩ => SqT.of (m.dc.kp _ _ hra)) ?_ ?_⟩
        · rintro i x T' σ H' hi ⟨x6, x9, x10, x11, x12, rfl, m⟩ hT'
          have hiR : i < p.rows.length := by
            have q := (List.getElem?_eq_some_iff.mp hi).1
            rwa [List.length_map, hbr] at q
          obtain ⟨r, hr1⟩ : ∃ r, p.rows[i]? = some r := ⟨_, List.getElem?_eq_getElem hiR⟩
          obtain ⟨b, hb1, hb2⟩ := Paired.getR hR hr1
          have hrm : r ∈ p.rows := List.mem_of_getElem? hr1
          have hro := g.ok r hrm
          have ex : x = V.ref b := by
            rw [List.getElem?_map, hb1] at hi
            exact (Option.some.inj hi).symm
          subst ex
          refine alloc hT' fun H2 s2 e2 => ?_
          have m2 := m.same s2
          have hb3 := m2.dc.kp _ _ hb2
          refine ⟨T', _, rfl, SqT.of e2, rfl, _, _, rfl, _, _, rfl, rfl, ?_⟩
          refine ⟨_, rfl, _, rfl, b, _, rfl, hb3, fun t H3 s3 e3 => ?_⟩
          have rl := Row.vs_len r
          rw [sl1 rl.1, Row.ren_w (fun x => ks.getD x 0) (fun x => (0 :: ms).getD x 0)] at e3
          have m3 := m2.same s3
          have hb4 := s3 _ _ hb3
          refine ⟨_, rfl, b, _, rfl, .inr (SqT.of hb4), _, _, rfl, ⟨by decide, by decide, by omega, by omega⟩, ?_⟩
          refine for_range (lo := 1) (n := (((rowVs r).length : Int) - 1).toNat) (fun j σ H' => ∃ (x11 x12 : Option V) (t : Addr), σ = [some (.ref d), some (.ref a), some (.ref wa), some (.ref ra), some (.ref l2), some (.ref D1), some (.ref b), some (.ref ln), some (.ref lf), some (.int (i : Int)), some (.ref t), x11, x12, none, none] ∧
            Same1 H3 H' ∧ H' t = some (.tup ((rowVs (r.ren (fun x => ks.getD x 0) (fun x => (0 :: ms).getD x 0))).take (1 + j)))) ⟨_, _, t, rfl, Same.refl _, e3⟩ ?_ ?_
          · rintro j σ H4 hj ⟨x11, x12, t, rfl, S4, ht⟩
            have hj1 : j + 1 < (rowVs r).length := by omega
            obtain ⟨x, hx, hx1, hx2⟩ := Row.ren_at (f := fun x => ks.getD x 0) (g := fun x => (0 :: ms).getD x 0) hro hj1
            have hb5 := S4 _ _ hb4
            have ej : (1 : Int) + (j : Int) = ((j + 1 : Nat) : Int) := by omega
            refine asg_elim (fun v H' => v = .bl (j == 0 && r.uses) ∧ Same1 H4 H') ?_ ?_
            · rintro v H5 ⟨rfl, s5⟩
              have S5 := S4.trans s5
              have m5 := m3.same S5
              have fin : ∀ (y : Nat) (t5 t6 : Addr) (H6 H7 : Hp) (c : Bool), (rowVs (r.ren (fun x => ks.getD x 0) (fun x => (0 :: ms).getD x 0)))[j + 1]? = some (.int (y : Int)) → Same1 H5 H6 → Same1 H6 H7 →
                  H7 t6 = some (.tup ((rowVs (r.ren (fun x => ks.getD x 0) (fun x => (0 :: ms).getD x 0))).take (1 + j) ++ [.int (y : Int)])) →
                  Same1 H3 H7 ∧ H7 t6 = some (.tup ((rowVs (r.ren (fun x => ks.getD x 0) (fun x => (0 :: ms).getD x 0))).take (1 + (j + 1)))) := by
                intro y t5 t6 H6 H7 c q1 q2 q3 q4
                refine ⟨(S5.trans q2).trans q3, q4.trans ?_⟩
                rw [show 1 + (j + 1) = (1 + j) + 1 by omega, List.take_add_one, show 1 + j = j + 1 by omega, q1]
                rfl
              cases hc : (j == 0 && r.uses) with
              | true =>
                obtain ⟨q1, q2⟩ := hx1 hc
                refine ⟨_, rfl, _, rfl, _, rfl, _, rfl, _, rfl, _, rfl, b, _, _, .int (x : Int), rfl, rfl, SqT.of (s5 _ _ hb5), by rw [ej]; exact atI_nat hx, D1, _, _, _, rfl, rfl, SqL.of m5.names, atI_nat (nI_getD (by rw [hkl]; exact q1)), (by show 1 ≤ sizeLine; decide), fun t5 ht5 => ?_⟩
                refine alloc ht5 fun H6 s6 e6 => ?_
                refine ⟨t, t5, _, _, rfl, rfl, (s5.trans s6) _ _ ht, e6, sz (by rw [List.length_take]; show _ + 1 ≤ _; omega), fun t6 H7 s7 e7 => ?_⟩
                exact ⟨_, _, t6, rfl, fin _ t5 t6 H6 H7 true q2 s6 s7 e7⟩
              | false =>
                obtain ⟨q1, q2⟩ := hx2 hc
                refine ⟨_, rfl, _, rfl, _, rfl, _, rfl, _, rfl, _, rfl, b, _, _, .int (x : Int), rfl, rfl, SqT.of (s5 _ _ hb5), by rw [ej]; exact atI_nat hx, ln, _, _, _, rfl, rfl, SqL.of m5.numbers, atI_nat (nI_getD (by rw [hnl]; exact q1)), (by show 1 ≤ sizeLine; decide), fun t5 ht5 => ?_⟩
                refine alloc ht5 fun H6 s6 e6 => ?_
                refine ⟨t, t5, _, _, rfl, rfl, (s5.trans s6) _ _ ht, e6, sz (by rw [List.length_take]; show _ + 1 ≤ _; omega), fun t6 H7 s7 e7 => ?_⟩
                exact ⟨_, _, t6, rfl, fin _ t5 t6 H6 H7 true q2 s6 s7 e7⟩
            · intro Q' hQ
              refine ⟨_, rfl, rfl, _, rfl, ite2 (fun c => ?_) (fun c => ?_)⟩
              · have c := of_decide_eq_true c
                have c : (1 : Int) + (j : Int) = 1 := by injection c
                have j0 : j = 0 := by omega
                subst j0
                refine ⟨_, rfl, b, _, _, _, rfl, rfl, SqT.of hb5, atI_nat (j := 0) (Row.w0 r), (by show 4 ≤ sizeLine; decide), fun t4 ht4 => ?_⟩
                refine alloc ht4 fun H5 s5 e5 => ?_
                refine ⟨t4, _, rfl, .inr (SqT.of e5), rfl, rfl, hQ _ _ ⟨?_, s5⟩⟩
                show V.bl (inV (.str r.word) [.str "load", .str "add", .str "take", .str "store"]) = V.bl (0 == 0 && r.uses)
                rw [Row.in4]
                rfl
              · refine hQ _ _ ⟨?_, Same.refl _⟩
                have hj0 : j ≠ 0 := fun e => by subst e; exact c (decide_eq_true rfl)
                rw [beq_false_of_ne hj0]
                rfl
          · rintro σ H4 ⟨x11, x12, t, rfl, S4, ht⟩
            have m4 := m3.same S4
            rw [List.take_of_length_le (by rw [Row.ren_len]; omega)] at ht
            obtain ⟨fs, hf1, hf2, hf3⟩ := m4.found
            have hy := nI_getD (l := 0 :: ms) (j := i) (by rw [hnl]; exact hiR)
            have hy2 : (0 :: ms)[i]? = some ((0 :: ms).getD i 0) := by
              rw [List.getD_eq_getElem?_getD, List.getElem?_eq_getElem (by rw [hnl]; exact hiR)]
              rfl
            have hyN := hg i hiR
            refine ⟨_, rfl, _, rfl, _, rfl, _, rfl, ln, _, _, _, rfl, rfl, SqL.of m4.numbers, atI_nat hy, lf, fs, _, (0 :: ms).getD i 0, rfl, rfl, hf1, ixN_nat (by rw [hf2]; exact hyN), ?_⟩
            exact ⟨_, _, _, _, _, rfl, m4.put hf1 hy2 hyN ht (Row.ren_ok hf hg hro) (by rw [kindR_ren, List.getD_eq_getElem?_getD, List.getElem?_map, hr1]; rfl)⟩
        · rintro σ H' ⟨x6, x9, x10, x11, x12, rfl, m⟩
          rw [List.length_map, hbr] at m
          obtain ⟨fs, hf1, hf2, hf3⟩ := m.found
          obtain ⟨bs', rs', hfs, hF⟩ := refs_of (F := fun b r => H' b = some (.tup (rowVs r)) ∧ r.ok p.ws.length p.rows.length) (l := fs) (fun i hi => by
            obtain ⟨b, r, q1, q2, q3, _⟩ := hf3 i (by omega) (by rw [List.take_of_length_le (by omega)]; exact (hmem i).mpr (by omega))
            exact ⟨b, r, q1, q2, q3⟩)
          have hwa2 := m.dc.kp _ _ hwa
          have hfl : bs'.length = p.rows.length := by rw [← hf2, hfs, List.length_map]
          have hrl : rs'.length = p.rows.length := by rw [← Paired.length hF, hfl]
          have hTT : tests rs' = tests p.rows := by
            refine tests_perm (nums := 0 :: ms) hrl hpm fun x hx => ?_
            obtain ⟨b, r, q1, q2, q3, j, q4, q5⟩ := hf3 x (by omega) (by rw [List.take_of_length_le (by omega)]; exact (hmem x).mpr hx)
            refine ⟨j, q4, ?_⟩
            have q6 : isT r = (p.rows.map isT).getD j 0 := by
              rw [kindR_T, q5, List.getD_eq_getElem?_getD, List.getD_eq_getElem?_getD, List.getElem?_map, List.getElem?_map]
              cases hpj : p.rows[j]? with
              | none => rfl
              | some rr => exact (kindR_T rr).symm
            rw [← q6]
            have hx' : x < rs'.length := by omega
            obtain ⟨b', hb1, hb2⟩ := Paired.getR hF (List.getElem?_eq_getElem hx')
            have eb : b' = b := by
              rw [hfs, List.getElem?_map, hb1] at q1
              exact V.ref.inj (Option.some.inj q1)
            subst eb
            have e2 := hb2.1
            rw [q2] at e2
            rw [List.getD_eq_getElem?_getD, List.getElem?_eq_getElem hx']
            exact (isT_of (HO.tup.inj (Option.some.inj e2))).symm
          have hST : p.rows.getD 0 .stop ≠ .stop → rs'.getD 0 .stop ≠ .stop := fun hn0 hz => by
            have r1 := g.r1
            obtain ⟨b, r, q1, q2, q3, j, q4, q5⟩ := hf3 0 (by omega) (by rw [List.take_of_length_le (by omega)]; exact (hmem 0).mpr (by omega))
            have hj0 : j = 0 := by
              have nd : (0 :: ms).Nodup := hpm.nodup_iff.mpr List.nodup_range
              cases j with
              | zero => rfl
              | succ j => exact absurd (List.mem_of_getElem? (show ms[j]? = some 0 from q4)) (List.nodup_cons.mp nd).1
            subst hj0
            have hx' : 0 < rs'.length := by omega
            obtain ⟨b', hb1, hb2⟩ := Paired.getR hF (List.getElem?_eq_getElem hx')
            have eb : b' = b := by
              rw [hfs, List.getElem?_map, hb1] at q1
              exact V.ref.inj (Option.some.inj q1)
            subst eb
            have e2 := hb2.1
            rw [q2] at e2
            have ek := kindR_of (HO.tup.inj (Option.some.inj e2))
            rw [List.getD_eq_getElem?_getD, List.getElem?_eq_getElem hx'] at hz
            have hz : rs'[0] = .stop := hz
            rw [hz, kindR_stop, q5] at ek
            refine hn0 (kindR_ne ?_)
            rw [← ek, List.getD_eq_getElem?_getD, List.getD_eq_getElem?_getD, List.getElem?_map, List.getElem?_eq_getElem (show 0 < p.rows.length by omega)]
            rfl
          refine ⟨_, rfl, wa, _, rfl, .inr (SqT.of hwa2), _, rfl, by rw [List.length_map]; omega, by rw [List.length_map]; omega, fun D3 hD3 => ?_⟩
          have n13 : D1 ≠ D3 := ne_of_none m.names hD3
          have nf3 : lf ≠ D3 := ne_of_none hf1 hD3
          refine lc_range (lo := 0) (n := (((p.ws.map V.int).length : Nat) : Int).toNat) (fun i H2 => ∃ js : List Nat, Dc K H H2 d sa ns ∧ H D3 = none ∧ H2 D3 = some (.lst (js.map nI)) ∧ js.length = i ∧ (∀ x ∈ js, x < p.ws.length) ∧ Kp H' H2 ∧ H2 D1 = some (.lst (ks.map nI)) ∧ H2 lf = some (.lst fs))
            ⟨[], m.dc.new hD3, m.dc.here hD3, upd_same, rfl, fun _ h => absurd h (by simp), Kp.new hD3, by rw [upd_ne n13]; exact m.names, by rw [upd_ne nf3]; exact hf1⟩ ?_ ?_
          · rintro i H2 hi ⟨js, C, nD3, hj, hjl, hjm, k2, g1, g2⟩
            have hiW : i < p.ws.length := by rw [List.length_map] at hi; omega
            obtain ⟨j, j1, j2, j3⟩ := first_of ((hkm i).mpr hiW)
            have e0 : (0 : Int) + (i : Int) = (i : Int) := Int.zero_add _
            rw [e0]
            refine ⟨rfl, _, rfl, .inl ⟨rfl, _, SqL.of g1⟩, _, rfl, D1, _, _, j, .int (i : Int), rfl, rfl, SqL.of g1, rfl, nI_flat ks, ?_, ?_, fun m z hm e => nI_none (j3 m hm) e, _, hj, szl (by rw [List.length_map]; omega), ?_⟩
            · rw [List.getElem?_map, j2]; rfl
            · show ((i : Int) == (i : Int)) = true
              exact beq_self_eq_true _
            · refine ⟨js ++ [j], C.mut nD3, nD3, by rw [upd_same, List.map_append]; rfl, by rw [List.length_append, hjl]; rfl, all_snoc hjm (by omega), k2.trans (Kp.lst hj), by rw [upd_ne n13]; exact g1, by rw [upd_ne nf3]; exact g2⟩
          · rintro H2 ⟨js, C, nD3, hj, hjl, hjm, k2, g1, g2⟩
            rw [List.length_map, Int.toNat_natCast] at hjl
            have hwa3 := k2 _ _ hwa2
            refine ⟨_, rfl, D3, rfl, ⟨_, SqL.of hj⟩, fun D4 hD4 => ?_⟩
            have nf4 : lf ≠ D4 := ne_of_none g2 hD4
            have n34 : D3 ≠ D4 := ne_of_none hj hD4
            refine lc_list (K := K) (a := D3) (xs := js.map nI) (fun i H3 => ∃ us : List Int, Dc K H H3 d sa ns ∧ H D4 = none ∧ H3 D4 = some (.lst (us.map V.int)) ∧ us.length = i ∧ (∀ x ∈ us, x ∈ p.ws) ∧ Kp H2 H3 ∧ H3 D3 = some (.lst (js.map nI)) ∧ H3 lf = some (.lst fs))
              ⟨[], C.new hD4, C.here hD4, upd_same, rfl, fun _ h => absurd h (by simp), Kp.new hD4, by rw [upd_ne n34]; exact hj, by rw [upd_ne nf4]; exact g2⟩ (fun i H3 _ ⟨_, _, _, _, _, _, _, q, _⟩ => SqL.of q) ?_ ?_
            · rintro i x H3 hi ⟨us, C3, nD4, hu, hul, hum, k3, g3, g4⟩
              have hij : i < js.length := by
                have q := (List.getElem?_eq_some_iff.mp hi).1
                rwa [List.length_map] at q
              have ex : x = .int ((js[i] : Nat) : Int) := by
                rw [nI_get hij] at hi
                exact (Option.some.inj hi).symm
              subst ex
              have hjw := hjm _ (List.getElem_mem hij)
              have hat : (p.ws.map V.int)[js[i]]? = some (.int p.ws[js[i]]) := by
                rw [List.getElem?_map, List.getElem?_eq_getElem hjw]
                rfl
              refine ⟨rfl, _, rfl, _, rfl, wa, _, _, _, rfl, rfl, SqT.of (k3 _ _ hwa3), atI_nat hat, _, hu, szl (by rw [List.length_map]; omega), ?_⟩
              exact ⟨us ++ [p.ws[js[i]]], C3.mut nD4, nD4, by rw [upd_same, List.map_append]; rfl, by rw [List.length_append, hul]; rfl, all_snoc hum (List.getElem_mem _), k3.trans (Kp.lst hu), by rw [upd_ne n34]; exact g3, by rw [upd_ne nf4]; exact g4⟩
            · rintro H3 ⟨us, C3, nD4, hu, hul, hum, k3, g3, g4⟩
              rw [List.length_map, hjl] at hul
              refine ⟨D4, _, rfl, .inl ⟨SqL.of hu, fun t1 ht1 => ?_⟩⟩
              refine alloc ht1 fun H4 s4 e4 => ?_
              refine ⟨_, rfl, lf, _, rfl, .inl ⟨SqL.of (s4 _ _ g4), fun t2 ht2 => ?_⟩⟩
              refine alloc ht2 fun H5 s5 e5 => ?_
              refine ⟨(by show 2 ≤ sizeLine; decide), fun t3 ht3 => ?_⟩
              refine alloc ht3 fun H6 s6 e6 => ?_
              have S36 := (s4.trans s5).trans s6
              have kF : Kp H' H6 := (k2.trans k3).trans (Kp.same S36)
              refine kq t3 ⟨us, rs'⟩ H6 (C3.same S36) ⟨t1, t2, bs', e6, (s5.trans s6) _ _ e4, ?_, ?_⟩ ⟨?_, ?_, ?_, ?_, ?_⟩ hTT hrl hST
              · rw [← hfs]; exact s6 _ _ e5
              · exact Paired.mapP hF fun b r q => kF _ _ q.1
              · show 1 ≤ rs'.length
                omega
              · show rs'.length ≤ 40
                omega
              · show us.length ≤ 8
                omega
              · exact fun x hx => g.num x (hum x hx)
              · intro r hr
                show r.ok us.length rs'.length
                rw [hul, hrl]
                obtain ⟨i, hi⟩ := List.getElem?_of_mem hr
                obtain ⟨b, _, q⟩ := Paired.getR hF hi
                exact q.2
end
end DL
namespace DL
open PySem L2 DLR
def rowD : Row → PyData
  | .load w n => .tuple [.str "load", .int (w : Int), .int (n : Int)]
  | .add w n => .tuple [.str "add", .int (w : Int), .int (n : Int)]
  | .take w n => .tuple [.str "take", .int (w : Int), .int (n : Int)]
  | .store w n => .tuple [.str "store", .int (w : Int), .int (n : Int)]
  | .say n => .tuple [.str "say", .int (n : Int)]
  | .test a b => .tuple [.str "test", .int (a : Int), .int (b : Int)]
  | .stop => .tuple [.str "stop"]
theorem rowD_dp {K : Frg} {H : Hp} {b : Addr} {r : Row} (h : H b = some (.tup (rowVs r))) : Dp K H (.ref b) (rowD r) := by
  cases r <;> exact .tup (SqT.of h) (by first | exact .cons (.str _) (.cons (.int _) (.cons (.int _) .nil)) | exact .cons (.str _) (.cons (.int _) .nil) | exact .cons (.str _) .nil)
theorem rowsD_dp {K : Frg} {H : Hp} : ∀ {bs : List Addr} {rs : List Row}, RowsAt H bs rs → DpAll K H (bs.map V.ref) (rs.map rowD)
  | _, _, .nil => .nil
  | _, _, .cons h t => .cons (rowD_dp h) (rowsD_dp t)
theorem strOk4 : (["load", "add", "take", "store", "say", "test", "stop"] : List Str).all PyData.strOk = true := by decide +kernel
theorem rowD_lay (r : Row) : (rowD r).canLay0 = true := by
  have k : ∀ x ∈ (["load", "add", "take", "store", "say", "test", "stop"] : List Str), PyData.strOk x = true := List.all_eq_true.mp strOk4
  cases r <;> (simp only [rowD, PyData.canLay0, PyData.canLayAll0, Bool.and_true, Bool.and_eq_true]; apply k; simp)
theorem rowsD_lay : ∀ rs : List Row, PyData.canLayAll0 (rs.map rowD) = true
  | [] => rfl
  | r :: rs => by
    show ((rowD r).canLay0 && PyData.canLayAll0 (rs.map rowD)) = true
    rw [rowD_lay, rowsD_lay rs]
    rfl
theorem rowsD_dep : ∀ rs : List Row, PyData.depthAll (rs.map rowD) ≤ 3
  | [] => by decide
  | r :: rs => by
    have h := rowsD_dep rs
    show max (rowD r).depth (PyData.depthAll (rs.map rowD)) ≤ 3
    have : (rowD r).depth ≤ 3 := by cases r <;> simp [rowD, PyData.depth, PyData.depthAll]
    omega
theorem eq_nil {K : Frg} {H : Hp} {l e : Addr} {bs : List Addr} {rs : List Row} {Q : VK} (hl : H l = some (.lst (bs.map V.ref))) (hR : RowsAt H bs rs) (he : H e = some (.lst [])) (q : Q (.bl rs.isEmpty) H) : rEqD K (.ref l) (.ref e) H Q := by
  refine ⟨.list (rs.map rowD), .list [], .lst (SqL.of hl) (rowsD_dp hR), .lst (SqL.of he) .nil, ?_, by decide +kernel, ?_⟩
  · show (PyData.canLayAll0 (rs.map rowD) && decide (PyData.depth (.list (rs.map rowD)) ≤ 64)) = true
    rw [rowsD_lay]
    refine decide_eq_true ?_
    have := rowsD_dep rs
    show _ + _ ≤ 64
    omega
  · have e : PyData.eqv (.list (rs.map rowD)) (.list []) = rs.isEmpty := by cases rs <;> rfl
    rw [e]; exact q
theorem seq_elim {t u : TS} {D : Ends} {σ : L2.St} {H : Hp} (R : L2.St → Hp → Prop) (key : ∀ σ' H', R σ' H' → u D σ' H') (first : ∀ N : L2.St → Hp → Prop, (∀ σ' H', R σ' H' → N σ' H') → t { D with nx := N } σ H) : tSeq t u D σ H := first _ key
def RowsL (K : Frg) (H0 : Hp) (d sa : Addr) (ns : List Int) (t3 : Addr) (ws : List Int) (l : Addr) (z : Nat) (H : Hp) : Prop :=
  ∃ bs rs, Dc K H0 H d sa ns ∧ H t3 = some (.tup (ws.map V.int)) ∧ H l = some (.lst (bs.map V.ref)) ∧ RowsAt H bs rs ∧ rs.length ≤ z ∧ 4 * tests rs ≤ rs.length ∧ ∀ r ∈ rs, r.okS 8 (rs.length + 1)
abbrev sStopping : Stmt := top 60
abbrev pStopping : List Str := ["_law_d", "_law_deep"]
abbrev FStopping (K : Frg) (mg : Str → Option Value) := Fd K mg "_law_stopping" sStopping pStopping
def spStopping (K : Frg) : Sp := fun vs H Q _ => ∃ (d sa : Addr) (ns : List Int) (n : Nat), vs = [.ref d, .int (n : Int)] ∧ n ≤ 2 ∧ Ent K H d sa ns ∧
  ∀ b q H', Dc K H H' d sa ns → ProgAt H' b q → Good q → 4 * tests q.rows ≤ q.rows.length ∧ q.rows.getD 0 .stop ≠ .stop → Q (.ref b) H'
section
variable {P : Program} {w : World} {K : PySem.W.Frag} {mg : Str → Option Value} {base : Heap}
abbrev nStopping : List Str := ["_law_d", "_law_deep", "_law_worths", "_law_rows", "_law_program", "_law_k"]
theorem scStopping : FnScope nStopping pStopping (defScope sStopping) := ⟨rfl, rfl, rfl, by decide +kernel, rfl, by decide +kernel, by decide +kernel⟩
theorem ok_stopping (cStopping : FStopping K mg) (cMixed : FMixed K mg) (cBody : FBody K mg) (cFork : FFork K mg) (cStraight : FStraight K mg) (cNext : FNext K mg) (T : Bt mg) : FnOk P w K mg base CX0 7 cStopping.f cStopping.fd pStopping (spStopping K) := by
  have GNext : FnOk P w K mg base CX0 1 cNext.f cNext.fd ["_law_dice_here", "_law_many"] (spNext K) := ok_next cNext.F T
  have GStraight : FnOk P w K mg base CX0 2 cStraight.f cStraight.fd ["_law_d", "_law_at"] (spStraight K) := ok_straight cStraight cNext T
  have GBody : FnOk P w K mg base CX0 6 cBody.f cBody.fd pBody (spBodyU K) := ok_bodyU cBody cFork cStraight cNext T
  have GMixed : FnOk P w K mg base CX0 2 cMixed.f cMixed.fd pMixed (spMixed K) := ok_mixed cMixed cNext T
  refine cStopping.F.ok scStopping (fun vs H Q E h => ?_) (fun cdv A outer s H vs Q E hr h => ?_)
  · obtain ⟨d, sa, ns, n, rfl, _⟩ := h
    rfl
  · obtain ⟨d, sa, ns, n, rfl, hn, hE, kq⟩ := h
    refine ⟨_, (pss_cons (ps_set (i := 2) scStopping.nd rfl (Or.inl rfl) (pe_tup (pa_cons pe_int (pa_cons (pe_op op_add pe_int (pe_call GNext (hr.mono (by first | omega | decide)) (by rfl) cNext.m cNext.F.kp cNext.b .nil pass0 (pa_cons (pv 0) (pa_cons pe_int pa_nil)))) (pa_cons (pe_op op_add pe_int (pe_call GNext (hr.mono (by first | omega | decide)) (by rfl) cNext.m cNext.F.kp cNext.b .nil pass0 (pa_cons (pv 0) (pa_cons pe_int pa_nil)))) (pa_cons pe_int (pa_cons pe_int pa_nil)))))))
      (pss_cons (ps_set (i := 2) scStopping.nd rfl (Or.inl rfl) (pe_op op_catS (pv 2) (pe_callTy call_tuple_of (by rfl) T.tuple (by decide +kernel) (pa_cons (pe_lc (own := [("_law_k", 5)]) (g := gName 5) (tt := tYes) rfl scStopping.nd (pi_range1 rfl T.range (pa_cons pe_int pa_nil)) (blkOk_by (N := nStopping) (sc := defScope sStopping) (by decide +kernel)) (fun _ _ _ _ _ => (pg_name (i := 5) scStopping.nd rfl (Or.inl rfl))) (fun _ _ _ _ _ => pts_nil) (fun _ _ _ _ _ => (pe_op op_sub (pe_call GNext (hr.mono (by first | omega | decide)) (by rfl) cNext.m cNext.F.kp cNext.b .nil pass0 (pa_cons (pv 0) (pa_cons pe_int pa_nil))) pe_int))) pa_nil))))
      (pss_cons (ps_set (i := 3) scStopping.nd rfl (Or.inl rfl) (pe_call GBody (hr.mono (by first | omega | decide)) (by rfl) cBody.m cBody.F.kp cBody.b .nil pass0 (pa_cons (pv 0) (pa_cons pe_int (pa_cons (pv 1) pa_nil)))))
      (pss_cons (ps_while PassesOwn.never (pt_cmpR op_gt (pe_callB call_len_seq (by rfl) T.len PySem.boot_len (pa_cons (pv 3) pa_nil)) pe_int (nomark _))
          (pss_one (ps_set (i := 3) scStopping.nd rfl (Or.inl rfl) (pe_call GBody (hr.mono (by first | omega | decide)) (by rfl) cBody.m cBody.F.kp cBody.b .nil pass0 (pa_cons (pv 0) (pa_cons pe_int (pa_cons pe_int pa_nil)))))))
      (pss_cons (ps_if (pt_cmpR (op_eqD hr.units) (pv 3) (pe_lst pa_nil) (nomark _))
          (pss_one (ps_set (i := 3) scStopping.nd rfl (Or.inl rfl) (pe_lst (pa_cons (pe_call GStraight (hr.mono (by first | omega | decide)) (by rfl) cStraight.m cStraight.F.kp cStraight.b .nil pass0 (pa_cons (pv 0) (pa_cons pe_int pa_nil))) pa_nil))))
          pss_nil)
      (pss_cons (ps_set (i := 4) scStopping.nd rfl (Or.inl rfl) (pe_tup (pa_cons (pv 2) (pa_cons (pe_op op_catS (pe_callTy call_tuple_of (by rfl) T.tuple (by decide +kernel) (pa_cons (pv 3) pa_nil)) (pe_tup (pa_cons (pe_tup (pa_cons pe_str pa_nil)) pa_nil))) pa_nil))))
      (pss_one (ps_ret (pe_ifExp (pt_cmpR op_eq (pe_call GNext (hr.mono (by first | omega | decide)) (by rfl) cNext.m cNext.F.kp cNext.b .nil pass0 (pa_cons (pv 0) (pa_cons pe_int pa_nil))) pe_int (nomark _)) (pe_call GMixed (hr.mono (by first | omega | decide)) (by rfl) cMixed.m cMixed.F.kp cMixed.b .nil pass0 (pa_cons (pv 0) (pa_cons (pv 4) pa_nil))) (pv 4)))))))))), ?_⟩
    refine ⟨_, rfl, d, sa, ns, _, rfl, hE, by decide, by decide, fun n5 H1 a0 a1 C1 => ?_⟩
    refine ⟨_, _, rfl, rfl, _, rfl, d, sa, ns, _, rfl, C1.ent, by decide, by decide, fun n4 H2 b0 b1 C2 => ?_⟩
    refine ⟨_, _, rfl, rfl, (by show 5 ≤ sizeLine; decide), fun t1 ht1 => ?_⟩
    refine alloc ht1 fun H3 s3 e3 => ?_
    have C3 := (C1.trans C2).same s3
    refine ⟨_, rfl, _, rfl, by decide, by decide, fun D hD => ?_⟩
    refine lc_range (lo := 0) (n := 3) (fun i H4 => ∃ us : List Int, Dc K H H4 d sa ns ∧ H D = none ∧ H4 D = some (.lst (us.map V.int)) ∧ us.length = i ∧ (∀ x ∈ us, -3 ≤ x ∧ x ≤ 3) ∧ Kp H3 H4)
      ⟨[], C3.new hD, C3.here hD, upd_same, rfl, fun _ h => absurd h (by simp), Kp.new hD⟩ ?_ ?_
    · rintro i H4 hi ⟨us, C4, nD, hu, hul, hum, k4⟩
      refine ⟨rfl, _, rfl, d, sa, ns, _, rfl, C4.ent, by decide, by decide, fun m H5 m0 m1 C5 => ?_⟩
      have hu5 := C5.but _ _ (C4.ned nD) hu
      refine ⟨_, _, rfl, rfl, _, hu5, szl (by rw [List.length_map]; omega), us ++ [m - 3], (C4.trans C5).mut nD, nD, by rw [upd_same, List.map_append]; rfl, by rw [List.length_append, hul]; rfl, all_snoc hum (by omega), (k4.trans C5.kp).trans (Kp.lst hu5)⟩
    · rintro H4 ⟨us, C4, nD, hu, hul, hum, k4⟩
      refine ⟨D, _, rfl, .inl ⟨SqL.of hu, fun t2 ht2 => ?_⟩⟩
      refine alloc ht2 fun H5 s5 e5 => ?_
      refine ⟨t1, t2, _, _, rfl, rfl, s5 _ _ (k4 _ _ e3), e5, sz (by rw [List.length_map]; show 5 + _ ≤ _; omega), fun t3 H6 s6 e6 => ?_⟩
      have e6 : H6 t3 = some (.tup (([1, 1 + n5, 1 + n4, 0, 0] ++ us).map V.int)) := by rw [e6, List.map_append]; rfl
      have hwl : ([1, 1 + n5, 1 + n4, 0, 0] ++ us).length = 8 := by simp [hul]
      have hwm : ∀ x ∈ ([1, 1 + n5, 1 + n4, 0, 0] ++ us), -1000000 ≤ x ∧ x ≤ 1000000 := by
        intro x hx
        rcases List.mem_append.mp hx with q | q
        · simp only [List.mem_cons, List.not_mem_nil, or_false] at q
          omega
        · have := hum x q; omega
      revert e6 hwl hwm
      generalize ([1, 1 + n5, 1 + n4, 0, 0] ++ us) = ws
      intro e6 hwl hwm
      have C6 := (C4.same s5).same s6
      have hP := PB_le hn
      refine ⟨_, rfl, _, rfl, n, hn, d, sa, ns, 0, rfl, hn, C6.ent, fun l bs rs H7 C7 nl hl hR hz hT ho => ?_⟩
      have w0 : RowsL K H d sa ns t3 ws l 300 H7 := ⟨bs, rs, C6.trans C7, C7.kp _ _ e6, hl, hR, by omega, hT, fun r hr => (ho r hr).mono (by omega)⟩
      refine ⟨fun m σ H' => ∃ l, σ = [some (.ref d), some (.int (n : Int)), some (.ref t3), some (.ref l), none, none] ∧ RowsL K H d sa ns t3 ws l (39 + m * 300) H', ⟨1, l, rfl, ?_⟩, ?_⟩
      · obtain ⟨bs, rs, q1, q2, q3, q4, q5, q6⟩ := w0
        exact ⟨bs, rs, q1, q2, q3, q4, by omega, q6⟩
      rintro m σ H8 ⟨l, rfl, bs, rs, C8, ht3, hl, hR, hz, hT, ho⟩
      have hbr := Paired.length hR
      refine ⟨_, rfl, l, _, rfl, .inl (SqL.of hl), _, _, rfl, rfl, _, rfl, ite2 (fun c => ?_) (fun c => ?_)⟩
      · have c : (39 : Int) < (((bs.map V.ref).length : Nat) : Int) := of_decide_eq_true c
        rw [List.length_map, hbr] at c
        refine ⟨_, fun σ' H' q => q, _, rfl, 0, by decide, d, sa, ns, 0, rfl, by decide, C8.ent, fun l2 bs2 rs2 H9 C9 nl2 hl2 hR2 hz2 hT2 ho2 => ?_⟩
        refine ⟨0, ?_, l2, rfl, bs2, rs2, C8.trans C9, C9.kp _ _ ht3, hl2, hR2, ?_, hT2, fun r hr => (ho2 r hr).mono (by omega)⟩
        · cases m with
          | zero => omega
          | succ m => exact Nat.succ_pos m
        · have z : rs2.length ≤ 3 * 6 := hz2
          omega
      · have c : ¬ (39 : Int) < (((bs.map V.ref).length : Nat) : Int) := fun q => c (decide_eq_true q)
        rw [List.length_map, hbr] at c
        dsimp only
        refine seq_elim (fun σ' H' => ∃ l bs rs, σ' = [some (.ref d), some (.int (n : Int)), some (.ref t3), some (.ref l), none, none] ∧ Dc K H H' d sa ns ∧ H' t3 = some (.tup (ws.map V.int)) ∧ H' l = some (.lst (bs.map V.ref)) ∧ RowsAt H' bs rs ∧ 1 ≤ rs.length ∧ rs.length ≤ 39 ∧ 4 * tests rs ≤ rs.length ∧ ∀ r ∈ rs, r.okS 8 (rs.length + 1)) ?_ ?_
        · rintro σ' H9 ⟨l, bs, rs, rfl, C9, ht3, hl, hR, h1, h39, hT, ho⟩
          have hbr := Paired.length hR
          refine ⟨_, rfl, _, rfl, l, _, rfl, .inl ⟨SqL.of hl, fun t4 ht4 => ?_⟩⟩
          refine alloc ht4 fun H10 s10 e10 => ?_
          refine ⟨(by show 1 ≤ sizeLine; decide), fun t5 ht5 => ?_⟩
          refine alloc ht5 fun H11 s11 e11 => ?_
          refine ⟨(by show 1 ≤ sizeLine; decide), fun t6 ht6 => ?_⟩
          refine alloc ht6 fun H12 s12 e12 => ?_
          refine ⟨t4, t6, _, _, rfl, rfl, (s11.trans s12) _ _ e10, e12, sz (by rw [List.length_map]; show _ + 1 ≤ _; omega), fun t7 H13 s13 e13 => ?_⟩
          refine ⟨(by show 2 ≤ sizeLine; decide), fun t8 ht8 => ?_⟩
          refine alloc ht8 fun H14 s14 e14 => ?_
          have S914 := ((((s10.trans s11).trans s12).trans s13).trans s14)
          have C14 := C9.same S914
          have hP : ProgAt H14 t8 ⟨ws, rs ++ [.stop]⟩ := by
            refine ⟨t3, t7, bs ++ [t5], e14, S914 _ _ ht3, ?_, ?_⟩
            · rw [s14 _ _ e13, List.map_append]; rfl
            · exact Paired.app (hR.kp (Kp.same S914)) (Paired.one (((s12.trans s13).trans s14) _ _ e11))
          have hG : Good ⟨ws, rs ++ [.stop]⟩ := by
            refine ⟨?_, ?_, ?_, hwm, ?_⟩
            · show 1 ≤ (rs ++ [Row.stop]).length
              rw [List.length_append]; exact Nat.le_add_left 1 _
            · show (rs ++ [Row.stop]).length ≤ 40
              rw [List.length_append]; show _ + 1 ≤ 40; omega
            · show ws.length ≤ 8
              omega
            · intro r hr
              show r.ok ws.length (rs ++ [Row.stop]).length
              rw [hwl, List.length_append]
              rcases List.mem_append.mp hr with q | q
              · exact (ho r q).1
              · rw [List.mem_singleton.mp q]; trivial
          have hTs : 4 * tests (rs ++ [Row.stop]) ≤ (rs ++ [Row.stop]).length := by
            rw [tests_app, tests_one, isT_stop, List.length_append]
            omega
          have hS0 : (rs ++ [Row.stop]).getD 0 .stop ≠ .stop := by
            cases rs with
            | nil => exact absurd h1 (by decide)
            | cons r0 rs0 => exact (ho r0 List.mem_cons_self).2
          refine ⟨_, rfl, d, sa, ns, _, rfl, C14.ent, by decide, by decide, fun n2 H15 m0 m1 C15 => ?_⟩
          refine ⟨rfl, _, rfl, ite2 (fun _ => ?_) (fun _ => ?_)⟩
          · exact ⟨_, rfl, _, rfl, d, sa, ns, t8, _, rfl, C15.ent, hP.kp C15.kp, hG, fun b q H16 C16 hp hg hT1 hT2 hS1 => kq b q H16 ((C14.trans C15).trans C16) hp hg ⟨(by rw [hT1, hT2]; exact hTs), hS1 hS0⟩⟩
          · exact ⟨_, rfl, kq t8 _ H15 (C14.trans C15) (hP.kp C15.kp) hG ⟨hTs, hS0⟩⟩
        · intro N hN
          refine ⟨_, rfl, Nat.zero_le _, fun e he => ?_⟩
          refine alloc he fun H9 s9 e9 => ?_
          have C9 := C8.same s9
          refine eq_nil (s9 _ _ hl) (hR.kp (Kp.same s9)) e9 ⟨_, rfl, ?_⟩
          cases rs with
          | nil =>
            refine ⟨_, rfl, d, sa, ns, 0, rfl, C9.ent, fun t r H10 C10 ht hp ho2 => ?_⟩
            refine ⟨(by show 1 ≤ sizeLine; decide), fun l9 hl9 => hN _ _ ?_⟩
            exact ⟨l9, [t], [r], rfl, (C9.trans C10).new hl9, (C10.kp.trans (Kp.new hl9)) _ _ (s9 _ _ ht3), upd_same, Paired.one (Kp.new hl9 _ _ ht), Nat.le_refl _, (by show 1 ≤ 39; decide), (by rw [tests_one, isT_plain hp]; exact Nat.zero_le _), fun y hy => by rw [List.mem_singleton.mp hy]; exact ⟨ho2, plain_ne hp⟩⟩
          | cons r rs =>
            exact hN _ _ ⟨l, bs, r :: rs, rfl, C9, s9 _ _ ht3, s9 _ _ hl, hR.kp (Kp.same s9), by simp, by omega, hT, ho⟩
end
end DL
namespace DL
open PySem L2 DLR
theorem word5 {a : Nat} {j : Nat} (hj : j < 5) : ∃ wd : Str, ([V.str "load", V.str "add", V.str "take", V.str "store", V.str "add"] : List V)[j]? = some (.str wd) ∧ ∀ x y : Nat, ∃ r : Row, rowVs r = [.str wd, .int (x : Int), .int (y : Int)] ∧ ∀ W N, x < W → y < N → r.ok W N := by
  match j, hj with
  | 0, _ => exact ⟨_, rfl, fun x y => ⟨.load x y, rfl, fun _ _ p q => ⟨p, q⟩⟩⟩
  | 1, _ => exact ⟨_, rfl, fun x y => ⟨.add x y, rfl, fun _ _ p q => ⟨p, q⟩⟩⟩
  | 2, _ => exact ⟨_, rfl, fun x y => ⟨.take x y, rfl, fun _ _ p q => ⟨p, q⟩⟩⟩
  | 3, _ => exact ⟨_, rfl, fun x y => ⟨.store x y, rfl, fun _ _ p q => ⟨p, q⟩⟩⟩
  | 4, _ => exact ⟨_, rfl, fun x y => ⟨.add x y, rfl, fun _ _ p q => ⟨p, q⟩⟩⟩
def AnyAt (K : Frg) (H0 : Hp) (d sa : Addr) (ns : List Int) (wt : Addr) (us : List Int) (l : Addr) (N : Nat) (i : Nat) (H : Hp) : Prop :=
  ∃ bs rs, Dc K H0 H d sa ns ∧ H0 l = none ∧ H wt = some (.tup (us.map V.int)) ∧ H l = some (.lst (bs.map V.ref)) ∧ RowsAt H bs rs ∧ rs.length = i ∧ ∀ r ∈ rs, r.ok us.length N
theorem AnyAt.put {K : Frg} {H0 H : Hp} {d sa : Addr} {ns : List Int} {wt : Addr} {us : List Int} {l : Addr} {N : Nat} {i : Nat} {bs : List Addr} {rs : List Row} {t : Addr} {r : Row} (C : Dc K H0 H d sa ns) (n0 : H0 l = none) (hw : H wt = some (.tup (us.map V.int)))
    (hl : H l = some (.lst (bs.map V.ref))) (hR : RowsAt H bs rs) (hi : rs.length = i) (ho : ∀ r ∈ rs, r.ok us.length N) (ht : H t = some (.tup (rowVs r))) (hr : r.ok us.length N) : AnyAt K H0 d sa ns wt us l N (i + 1) (upd H l (.lst (bs.map V.ref ++ [.ref t]))) := by
  have k : Kp H (upd H l (.lst (bs.map V.ref ++ [.ref t]))) := Kp.lst hl
  exact ⟨bs ++ [t], rs ++ [r], C.mut n0, n0, k _ _ hw, by rw [upd_same, List.map_append]; rfl, RowsAt.kp (Paired.app hR (Paired.one ht)) k, by rw [List.length_append, hi]; rfl, all_snoc ho hr⟩
abbrev sAny : Stmt := top 61
abbrev FAny (K : Frg) (mg : Str → Option Value) := Fd K mg "_law_any" sAny ["_law_d"]
def spAny (K : Frg) : Sp := fun vs H Q _ => ∃ (d sa : Addr) (ns : List Int), vs = [.ref d] ∧ Ent K H d sa ns ∧
  ∀ b q H', Dc K H H' d sa ns → ProgAt H' b q → Good q → Q (.ref b) H'
section
variable {P : Program} {w : World} {K : PySem.W.Frag} {mg : Str → Option Value} {base : Heap}
abbrev nAny : List Str := ["_law_d", "_law_many", "_law_rows", "_law_worths", "_law_size", "_law_number", "_law_near", "_law_way", "_law_k"]
theorem scAny : FnScope nAny ["_law_d"] (defScope sAny) := ⟨rfl, rfl, rfl, by decide +kernel, rfl, by decide +kernel, by decide +kernel⟩
theorem ok_any (cAny : FAny K mg) (cStopping : FStopping K mg) (cMixed : FMixed K mg) (cBody : FBody K mg) (cFork : FFork K mg) (cStraight : FStraight K mg) (cNext : FNext K mg) (T : Bt mg) : FnOk P w K mg base CX0 8 cAny.f cAny.fd ["_law_d"] (spAny K) := by
  have GNext : FnOk P w K mg base CX0 1 cNext.f cNext.fd ["_law_dice_here", "_law_many"] (spNext K) := ok_next cNext.F T
  have GStopping : FnOk P w K mg base CX0 7 cStopping.f cStopping.fd pStopping (spStopping K) := ok_stopping cStopping cMixed cBody cFork cStraight cNext T
  refine cAny.F.ok scAny (fun vs H Q E h => ?_) (fun cdv A outer s H vs Q E hr h => ?_)
  · obtain ⟨d, sa, ns, rfl, _⟩ := h
    rfl
  · obtain ⟨d, sa, ns, rfl, hE, kq⟩ := h
    refine ⟨_, (pss_cons (ps_if (pt_cmpR op_gt (pe_call GNext (hr.mono (by first | omega | decide)) (by rfl) cNext.m cNext.F.kp cNext.b .nil pass0 (pa_cons (pv 0) (pa_cons pe_int pa_nil))) pe_int (nomark _))
          (pss_one (ps_ret (pe_call GStopping (hr.mono (by first | omega | decide)) (by rfl) cStopping.m cStopping.F.kp cStopping.b .nil pass0 (pa_cons (pv 0) (pa_cons (pe_call GNext (hr.mono (by first | omega | decide)) (by rfl) cNext.m cNext.F.kp cNext.b .nil pass0 (pa_cons (pv 0) (pa_cons pe_int pa_nil))) pa_nil)))))
          pss_nil)
      (pss_cons (ps_par (i := 1) (j := 2) (by rfl) scAny.nd rfl rfl (by decide) rfl rfl (pa_cons (pe_call GNext (hr.mono (by first | omega | decide)) (by rfl) cNext.m cNext.F.kp cNext.b .nil pass0 (pa_cons (pv 0) (pa_cons pe_int pa_nil))) (pa_cons (pe_lst pa_nil) pa_nil)) (by rfl))
      (pss_cons (ps_set (i := 3) scAny.nd rfl (Or.inl rfl) (pe_callTy call_tuple_of (by rfl) T.tuple (by decide +kernel) (pa_cons (pe_lc (own := [("_law_k", 8)]) (g := gName 8) (tt := tYes) rfl scAny.nd (pi_range1 rfl T.range (pa_cons (pv 1) pa_nil)) (blkOk_by (N := nAny) (sc := defScope sAny) (by decide +kernel)) (fun _ _ _ _ _ => (pg_name (i := 8) scAny.nd rfl (Or.inl rfl))) (fun _ _ _ _ _ => pts_nil) (fun _ _ _ _ _ => (pe_ix (ix_listK K rfl) (pe_lst (pa_cons (pe_op op_sub (pe_call GNext (hr.mono (by first | omega | decide)) (by rfl) cNext.m cNext.F.kp cNext.b .nil pass0 (pa_cons (pv 0) (pa_cons pe_int pa_nil))) pe_int) (pa_cons (pe_op op_sub (pe_call GNext (hr.mono (by first | omega | decide)) (by rfl) cNext.m cNext.F.kp cNext.b .nil pass0 (pa_cons (pv 0) (pa_cons pe_int pa_nil))) (pe_op op_pow pe_int pe_int)) pa_nil))) (pe_call GNext (hr.mono (by first | omega | decide)) (by rfl) cNext.m cNext.F.kp cNext.b .nil pass0 (pa_cons (pv 0) (pa_cons pe_int pa_nil))) (fun _ _ => rfl)))) pa_nil)))
      (pss_cons (ps_set (i := 4) scAny.nd rfl (Or.inl rfl) (pe_op op_add pe_int (pe_call GNext (hr.mono (by first | omega | decide)) (by rfl) cNext.m cNext.F.kp cNext.b .nil pass0 (pa_cons (pv 0) (pa_cons (pe_ix ix_list (pe_lst (pa_cons pe_int (pa_cons pe_int (pa_cons pe_int pa_nil)))) (pe_call GNext (hr.mono (by first | omega | decide)) (by rfl) cNext.m cNext.F.kp cNext.b .nil pass0 (pa_cons (pv 0) (pa_cons pe_int pa_nil))) (fun _ _ => rfl)) pa_nil)))))
      (pss_cons (ps_for PassesOwn.never rfl (pi_range1 rfl T.range (pa_cons (pv 4) pa_nil)) (pg_name (i := 5) scAny.nd rfl (Or.inl rfl))
          (pss_cons (ps_set (i := 6) scAny.nd rfl (Or.inl rfl) (pe_ix ix_list (pe_lst (pa_cons (pe_op op_mod (pe_op op_add (pv 5) pe_int) (pv 4)) (pa_cons (pe_call GNext (hr.mono (by first | omega | decide)) (by rfl) cNext.m cNext.F.kp cNext.b .nil pass0 (pa_cons (pv 0) (pa_cons (pv 4) pa_nil))) pa_nil))) (pe_callTy call_int1 (by rfl) T.int (by decide +kernel) (pa_cons (pe_cmpR op_eq (pe_call GNext (hr.mono (by first | omega | decide)) (by rfl) cNext.m cNext.F.kp cNext.b .nil pass0 (pa_cons (pv 0) (pa_cons pe_int pa_nil))) pe_int (nomark _)) pa_nil)) (fun _ _ => rfl)))
          (pss_cons (ps_set (i := 7) scAny.nd rfl (Or.inl rfl) (pe_call GNext (hr.mono (by first | omega | decide)) (by rfl) cNext.m cNext.F.kp cNext.b .nil pass0 (pa_cons (pv 0) (pa_cons pe_int pa_nil))))
          (pss_one (ps_if (PW.pt (pw_and (pt_cmpR op_lt (pv 7) pe_int (nomark _)) (pw_and1 (pt_cmpR op_gt (pv 1) pe_int (nomark _)))))
              (pss_one (ps_expr (pe_bm PySem.F.plainAttrs_list PySem.F.slot_list_append PySem.F.type_list_append mt_append (pv 2) (pa_cons (pe_tup (pa_cons (pe_ix ix_list (pe_lst (pa_cons pe_str (pa_cons pe_str (pa_cons pe_str (pa_cons pe_str (pa_cons pe_str pa_nil)))))) (pv 7) (fun _ _ => rfl)) (pa_cons (pe_call GNext (hr.mono (by first | omega | decide)) (by rfl) cNext.m cNext.F.kp cNext.b .nil pass0 (pa_cons (pv 0) (pa_cons (pv 1) pa_nil))) (pa_cons (pv 6) pa_nil)))) pa_nil))))
              (pss_one (ps_expr (pe_bm PySem.F.plainAttrs_list PySem.F.slot_list_append PySem.F.type_list_append mt_append (pv 2) (pa_cons (pe_ix ix_list (pe_lst (pa_cons (pe_tup (pa_cons pe_str (pa_cons (pv 6) pa_nil))) (pa_cons (pe_tup (pa_cons pe_str (pa_cons (pe_call GNext (hr.mono (by first | omega | decide)) (by rfl) cNext.m cNext.F.kp cNext.b .nil pass0 (pa_cons (pv 0) (pa_cons (pv 4) pa_nil))) (pa_cons (pv 6) pa_nil)))) (pa_cons (pe_tup (pa_cons pe_str pa_nil)) pa_nil)))) (pe_op op_mod (pv 7) pe_int) (fun _ _ => rfl)) pa_nil)))))))))
      (pss_one (ps_ret (pe_tup (pa_cons (pv 3) (pa_cons (pe_callTy call_tuple_of (by rfl) T.tuple (by decide +kernel) (pa_cons (pv 2) pa_nil)) pa_nil)))))))))), ?_⟩
    refine ⟨_, rfl, d, sa, ns, _, rfl, hE, by decide, by decide, fun n0 H1 a0 a1 C1 => ?_⟩
    refine ⟨_, _, rfl, rfl, _, rfl, ite2 (fun _ => ?_) (fun _ => ?_)⟩
    · refine ⟨_, rfl, _, rfl, d, sa, ns, _, rfl, C1.ent, by decide, by decide, fun n1 H2 b0 b1 C2 => ?_⟩
      refine ⟨d, sa, ns, n1.toNat, ?_, by omega, C2.ent, fun b q H3 C3 hp hg _ => kq b q H3 ((C1.trans C2).trans C3) hp hg⟩
      show [V.ref d, V.int n1] = _
      rw [Int.toNat_of_nonneg b0]
    refine ⟨_, rfl, d, sa, ns, _, rfl, C1.ent, by decide, by decide, fun many H2 b0 b1 C2 => ?_⟩
    obtain ⟨mn, rfl⟩ : ∃ mn : Nat, many = (mn : Int) := ⟨many.toNat, by omega⟩
    refine ⟨Nat.zero_le _, fun l hl => ?_⟩
    refine alloc hl fun H3 s3 e3 => ?_
    have C3 := (C1.trans C2).same s3
    have nl : H l = none := (C1.trans C2).here hl
    refine ⟨_, _, rfl, ?_⟩
    refine ⟨_, rfl, _, rfl, by omega, by omega, fun D hD => ?_⟩
    have nlD : l ≠ D := ne_of_none e3 hD
    refine lc_range (lo := 0) (n := (mn : Int).toNat) (fun i H4 => ∃ us : List Int, Dc K H H4 d sa ns ∧ H D = none ∧ H4 D = some (.lst (us.map V.int)) ∧ us.length = i ∧ (∀ x ∈ us, -1000000 ≤ x ∧ x ≤ 1000000) ∧ H4 l = some (.lst []))
      ⟨[], C3.new hD, C3.here hD, upd_same, rfl, fun _ h => absurd h (by simp), by rw [upd_ne nlD]; exact e3⟩ ?_ ?_
    · rintro i H4 hi ⟨us, C4, nD, hu, hul, hum, hl4⟩
      refine ⟨rfl, _, rfl, d, sa, ns, _, rfl, C4.ent, by decide, by decide, fun m1 H5 m10 m11 C5 => ?_⟩
      refine ⟨_, _, rfl, rfl, _, rfl, d, sa, ns, _, rfl, C5.ent, by decide, by decide, fun m2 H6 m20 m21 C6 => ?_⟩
      refine ⟨_, _, rfl, rfl, ⟨by decide, by decide, by decide⟩, _, _, rfl, rfl, (by show 2 ≤ sizeLine; decide), fun lx hlx => ?_⟩
      refine alloc hlx fun H7 s7 e7 => ?_
      have C7 := (C5.trans C6).same s7
      refine ⟨_, rfl, d, sa, ns, _, rfl, C7.ent, by decide, by decide, fun m3 H8 m30 m31 C8 => ?_⟩
      have C48 := C7.trans C8
      have hu8 := C48.but _ _ (C4.ned nD) hu
      have hl8 := C48.but _ _ (C4.ned nl) hl4
      have hx8 := C8.but _ _ (((C4.trans C5).trans C6).ned (((C4.trans C5).trans C6).here hlx)) e7
      have e6 : ((10 : Int) ^ (6 : Int).toNat) = 1000000 := by decide
      obtain ⟨z, hz, hz1, hz2⟩ : ∃ z : Int, atI ([V.int (m1 - 4), V.int (m2 - (10 : Int) ^ (6 : Int).toNat)] : List V) m3 = some (.int z) ∧ -1000000 ≤ z ∧ z ≤ 1000000 := by
        rcases (show m3 = 0 ∨ m3 = 1 by omega) with q | q
        · exact ⟨m1 - 4, by rw [q]; exact at0, by omega, by omega⟩
        · exact ⟨m2 - 1000000, by rw [q, e6]; exact at1, by omega, by omega⟩
      refine ⟨lx, _, _, _, rfl, rfl, SqL.of hx8, hz, _, hu8, szl (by rw [List.length_map]; omega), us ++ [z], (C4.trans C48).mut nD, nD, by rw [upd_same, List.map_append]; rfl, by rw [List.length_append, hul]; rfl, all_snoc hum ⟨hz1, hz2⟩, by rw [upd_ne nlD]; exact hl8⟩
    · rintro H4 ⟨us, C4, nD, hu, hul, hum, hl4⟩
      rw [Int.toNat_natCast] at hul
      refine ⟨D, _, rfl, .inl ⟨SqL.of hu, fun wt hwt => ?_⟩⟩
      refine alloc hwt fun H5 s5 e5 => ?_
      have C5 := C4.same s5
      refine ⟨_, rfl, (by show 3 ≤ sizeLine; decide), fun ly hly => ?_⟩
      refine alloc hly fun H6 s6 e6 => ?_
      have C6 := C5.same s6
      refine ⟨_, rfl, d, sa, ns, _, rfl, C6.ent, by decide, by decide, fun m3 H7 m30 m31 C7 => ?_⟩
      have C67 := C6.trans C7
      obtain ⟨z, hz, hz1, hz2⟩ : ∃ z : Int, atI ([V.int 6, V.int 12, V.int 40] : List V) m3 = some (.int z) ∧ 0 < z ∧ z ≤ 40 := by
        rcases (show m3 = 0 ∨ m3 = 1 ∨ m3 = 2 by omega) with q | q | q
        · exact ⟨6, by rw [q]; exact at0, by decide, by decide⟩
        · exact ⟨12, by rw [q]; exact at1, by decide, by decide⟩
        · exact ⟨40, by rw [q]; exact at2, by decide, by decide⟩
      refine ⟨ly, _, _, _, rfl, rfl, SqL.of (C7.but _ _ (C5.ned (C5.here hly)) e6), hz, d, sa, ns, _, rfl, C67.ent, hz1, by omega, fun m4 H8 m40 m41 C8 => ?_⟩
      refine ⟨_, _, rfl, rfl, ?_⟩
      have C8' := C67.trans C8
      obtain ⟨N, hN⟩ : ∃ N : Nat, 1 + m4 = (N : Int) := ⟨(1 + m4).toNat, by omega⟩
      have hN1 : 1 ≤ N := by omega
      have hN40 : N ≤ 40 := by omega
      refine ⟨_, rfl, 1 + m4, rfl, by omega, by omega, ?_⟩
      refine for_range (lo := 0) (n := (1 + m4).toNat) (fun i σ H' => ∃ x5 x6 x7 : Option V, σ = [some (.ref d), some (.int (mn : Int)), some (.ref l), some (.ref wt), some (.int (N : Int)), x5, x6, x7, none] ∧ AnyAt K H d sa ns wt us l N i H')
        ⟨none, none, none, by rw [← hN]; rfl, [], [], C8', nl, (C7.kp.trans C8.kp) _ _ (s6 _ _ e5), (C7.trans C8).but _ _ (C6.ned nl) ((s5.trans s6) _ _ hl4), .nil, rfl, fun _ h => absurd h (by simp)⟩ ?_ ?_
      · rintro i σ H9 hi ⟨x5, x6, x7, rfl, bs, rs, C9, _, hw9, hl9, hR, hil, ho⟩
        have hbr := Paired.length hR
        have hiN : i < N := by omega
        refine ⟨_, rfl, _, _, rfl, rfl, _, rfl, _, _, rfl, rfl, (by omega), _, rfl, _, rfl, d, sa, ns, _, rfl, C9.ent, (by omega), (by omega), fun m5 H10 m50 m51 C10 => ?_⟩
        refine ⟨(by show 2 ≤ sizeLine; decide), fun lz hlz => ?_⟩
        refine alloc hlz fun H11 s11 e11 => ?_
        have C11 := C10.same s11
        refine ⟨_, rfl, d, sa, ns, _, rfl, C11.ent, by decide, by decide, fun m6 H12 m60 m61 C12 => ?_⟩
        obtain ⟨z, hz, hzN⟩ : ∃ z : Nat, atI ([V.int ((0 + (i : Int) + 1) % (N : Int)), V.int m5] : List V) (if decide (V.int m6 = V.int 3) = true then 1 else 0) = some (.int (z : Int)) ∧ z < N := by
          by_cases c : decide (V.int m6 = V.int 3) = true
          · rw [if_pos c]
            obtain ⟨z, q⟩ : ∃ z : Nat, m5 = (z : Int) := ⟨m5.toNat, by omega⟩
            exact ⟨z, by rw [q]; exact at1, by omega⟩
          · rw [if_neg c]
            have q0 := Int.emod_nonneg (0 + (i : Int) + 1) (show (N : Int) ≠ 0 by omega)
            have q1 := Int.emod_lt_of_pos (0 + (i : Int) + 1) (show (0 : Int) < (N : Int) by omega)
            obtain ⟨z, q⟩ : ∃ z : Nat, (0 + (i : Int) + 1) % (N : Int) = (z : Int) := ⟨((0 + (i : Int) + 1) % (N : Int)).toNat, by omega⟩
            exact ⟨z, by rw [q]; exact at0, by omega⟩
        have C912 := C11.trans C12
        refine ⟨rfl, .inr ⟨_, rfl, lz, _, _, _, rfl, rfl, SqL.of (C12.but _ _ (C10.ned (C10.here hlz)) e11), hz, ?_⟩⟩
        refine ⟨_, rfl, d, sa, ns, _, rfl, C912.ent, by decide, by decide, fun wy H13 w0 w1 C13 => ?_⟩
        dsimp only [gName]
        have C913 := C912.trans C13
        have hl13 := C913.but _ _ (C9.ned nl) hl9
        have hw13 := C913.kp _ _ hw9
        have hR13 := hR.kp C913.kp
        refine if_elim (fun b H' => H' = H13 ∧ (b = true → wy < 5 ∧ 0 < mn)) ?_ ?_
        · rintro bb _ ⟨rfl, hbb⟩
          cases bb with
          | true =>
            obtain ⟨hw5, hm0⟩ := hbb rfl
            refine ⟨_, rfl, .inl ⟨rfl, _, SqL.of hl13⟩, (by show 5 ≤ sizeLine; decide), fun l5 hl5 => ?_⟩
            refine alloc hl5 fun H14 s14 e14 => ?_
            obtain ⟨j, rfl⟩ : ∃ j : Nat, wy = (j : Int) := ⟨wy.toNat, by omega⟩
            obtain ⟨wd, hwd, hrow⟩ := word5 (a := 0) (j := j) (by omega)
            have C14 := C913.same s14
            refine ⟨_, rfl, l5, _, _, _, rfl, rfl, SqL.of e14, atI_nat hwd, ?_⟩
            refine ⟨_, rfl, _, rfl, d, sa, ns, _, rfl, C14.ent, (by omega), (by omega), fun m7 H15 m70 m71 C15 => ?_⟩
            obtain ⟨y, rfl⟩ : ∃ y : Nat, m7 = (y : Int) := ⟨m7.toNat, by omega⟩
            obtain ⟨r, hr1, hr2⟩ := hrow y z
            refine ⟨_, rfl, (by show 3 ≤ sizeLine; decide), fun t ht => ?_⟩
            refine alloc ht fun H16 s16 e16 => ?_
            have C16 := (C14.trans C15).same s16
            have hl16 := C16.but _ _ (C9.ned nl) hl9
            refine ⟨l, _, _, rfl, rfl, hl16, szl (by rw [List.length_map]; omega), _, _, _, rfl, ?_⟩
            exact AnyAt.put (C9.trans C16) nl (C16.kp _ _ hw9) hl16 (hR.kp C16.kp) hil ho (by rw [e16, hr1]) (hr2 _ _ (by omega) hzN)
          | false =>
            refine ⟨_, rfl, .inl ⟨rfl, _, SqL.of hl13⟩, _, rfl, (by show 2 ≤ sizeLine; decide), fun t1 ht1 => ?_⟩
            refine alloc ht1 fun H14 s14 e14 => ?_
            have C14 := C913.same s14
            refine ⟨_, rfl, _, rfl, d, sa, ns, _, rfl, C14.ent, (by omega), (by omega), fun m7 H15 m70 m71 C15 => ?_⟩
            obtain ⟨y, rfl⟩ : ∃ y : Nat, m7 = (y : Int) := ⟨m7.toNat, by omega⟩
            refine ⟨_, rfl, (by show 3 ≤ sizeLine; decide), fun t2 ht2 => ?_⟩
            refine alloc ht2 fun H16 s16 e16 => ?_
            refine ⟨(by show 1 ≤ sizeLine; decide), fun t3 ht3 => ?_⟩
            refine alloc ht3 fun H17 s17 e17 => ?_
            refine ⟨(by show 3 ≤ sizeLine; decide), fun lx hlx => ?_⟩
            refine alloc hlx fun H18 s18 e18 => ?_
            have C18 := (((C14.trans C15).same s16).same s17).same s18
            obtain ⟨t, r, hat, htr, hrr⟩ : ∃ (t : Addr) (r : Row), atI ([V.ref t1, V.ref t2, V.ref t3] : List V) (wy % 3) = some (.ref t) ∧ H18 t = some (.tup (rowVs r)) ∧ r.ok us.length N := by
              have S18 := s17.trans s18
              rcases (show wy % 3 = 0 ∨ wy % 3 = 1 ∨ wy % 3 = 2 by omega) with q | q | q
              · exact ⟨t1, .say z, by rw [q]; exact at0, (C15.kp.trans (Kp.same (s16.trans S18))) _ _ e14, hzN⟩
              · exact ⟨t2, .test y z, by rw [q]; exact at1, S18 _ _ e16, by omega, hzN⟩
              · exact ⟨t3, .stop, by rw [q]; exact at2, s18 _ _ e17, trivial⟩
            have hl18 := C18.but _ _ (C9.ned nl) hl9
            refine ⟨_, rfl, _, _, rfl, rfl, (by show (0 : Int) < 3; decide), lx, _, _, _, rfl, rfl, SqL.of e18, hat, l, _, _, rfl, rfl, hl18, szl (by rw [List.length_map]; omega), _, _, _, rfl, ?_⟩
            exact AnyAt.put (C9.trans C18) nl (C18.kp _ _ hw9) hl18 (hR.kp C18.kp) hil ho htr hrr
        · intro F' hF
          refine ⟨_, rfl, _, _, rfl, rfl, _, rfl, ite2 (fun c => ?_) (fun _ => hF _ _ ⟨rfl, fun e => Bool.noConfusion e⟩)⟩
          have c := of_decide_eq_true c
          refine ⟨_, rfl, _, _, rfl, rfl, _, rfl, hF _ _ ⟨rfl, fun e => ⟨c, ?_⟩⟩⟩
          have e := of_decide_eq_true e
          omega
      · rintro σ H9 ⟨x5, x6, x7, rfl, bs, rs, C9, _, hw9, hl9, hR, hil, ho⟩
        have hbr := Paired.length hR
        refine ⟨_, rfl, _, rfl, l, _, rfl, .inl ⟨SqL.of hl9, fun t1 ht1 => ?_⟩⟩
        refine alloc ht1 fun H10 s10 e10 => ?_
        refine ⟨(by show 2 ≤ sizeLine; decide), fun t2 ht2 => ?_⟩
        refine alloc ht2 fun H11 s11 e11 => ?_
        have S := s10.trans s11
        have hNl : rs.length = N := by omega
        refine kq t2 ⟨us, rs⟩ H11 (C9.same S) ⟨wt, t1, bs, e11, S _ _ hw9, s11 _ _ e10, hR.kp (Kp.same S)⟩ ⟨?_, ?_, ?_, hum, ?_⟩
        · show 1 ≤ rs.length
          omega
        · show rs.length ≤ 40
          omega
        · show us.length ≤ 8
          omega
        · intro r hr
          show r.ok us.length rs.length
          rw [hNl]
          exact ho r hr
end
end DL
namespace DL
open PySem L2 DLR
/-! ### the machine -/
def ring (n : Int) : Int := (n + 1000000000) % 2000000000 - 1000000000
structure Mach where
  desk : Int
  ws : List Int
  said : List Int
def InR (x : Int) : Prop := -1000000000 ≤ x ∧ x < 1000000000
theorem ring_in (n : Int) : InR (ring n) := by
  have h0 := Int.emod_nonneg (n + 1000000000) (show (2000000000 : Int) ≠ 0 by decide)
  have h1 := Int.emod_lt_of_pos (n + 1000000000) (show (0 : Int) < 2000000000 by decide)
  unfold ring InR
  omega
theorem ring_id {n : Int} (h : InR n) : ring n = n := by
  unfold ring
  rw [Int.emod_eq_of_lt (by unfold InR at h; omega) (by unfold InR at h; omega)]
  omega
theorem ring_add (a b : Int) : ring (ring a + b) = ring (a + b) := by
  unfold ring
  have e : (a + 1000000000) % 2000000000 - 1000000000 + b + 1000000000 = (a + 1000000000) % 2000000000 + b := by omega
  rw [e, Int.emod_add_emod]
  have e2 : a + 1000000000 + b = a + b + 1000000000 := by omega
  rw [e2]
structure MOk (m : Mach) : Prop where
  desk : InR m.desk
  ws : ∀ x ∈ m.ws, InR x
def Mach.at (m : Mach) (w : Nat) : Int := m.ws.getD w 0
def stepM (m : Mach) : Row → Mach × Option Nat
  | .load w n => ({ m with desk := m.at w }, some n)
  | .add w n => ({ m with desk := ring (m.desk + m.at w) }, some n)
  | .take w n => ({ m with desk := ring (m.desk - m.at w) }, some n)
  | .store w n => ({ m with ws := m.ws.set w m.desk }, some n)
  | .say n => ({ m with said := m.said ++ [m.desk] }, some n)
  | .test a b => (m, some (if m.desk = 0 then a else b))
  | .stop => (m, none)
theorem at_in {m : Mach} (h : MOk m) {w : Nat} (hw : w < m.ws.length) : m.ws[w]? = some (m.at w) ∧ InR (m.at w) := by
  have e : m.ws[w]? = some (m.at w) := by
    unfold Mach.at
    rw [List.getD_eq_getElem?_getD, List.getElem?_eq_getElem hw]
    rfl
  exact ⟨e, h.ws _ (List.mem_of_getElem? e)⟩
theorem stepM_ok {m : Mach} (h : MOk m) {r : Row} {N : Nat} (ho : r.ok m.ws.length N) : MOk (stepM m r).1 ∧ (stepM m r).1.ws.length = m.ws.length ∧ (stepM m r).1.said.length ≤ m.said.length + 1 ∧ ∀ n, (stepM m r).2 = some n → n < N := by
  cases r with
  | load w n => exact ⟨⟨(at_in h ho.1).2, h.ws⟩, rfl, Nat.le_succ _, fun k e => by cases e; exact ho.2⟩
  | add w n => exact ⟨⟨ring_in _, h.ws⟩, rfl, Nat.le_succ _, fun k e => by cases e; exact ho.2⟩
  | take w n => exact ⟨⟨ring_in _, h.ws⟩, rfl, Nat.le_succ _, fun k e => by cases e; exact ho.2⟩
  | store w n =>
    refine ⟨⟨h.desk, fun x hx => ?_⟩, List.length_set .., Nat.le_succ _, fun k e => by cases e; exact ho.2⟩
    rcases List.mem_or_eq_of_mem_set hx with q | q
    · exact h.ws x q
    · rw [q]; exact h.desk
  | say n => exact ⟨⟨h.desk, h.ws⟩, rfl, by show (m.said ++ [m.desk]).length ≤ _; rw [List.length_append]; exact Nat.le_refl _, fun k e => by cases e; exact ho⟩
  | test a b =>
    refine ⟨h, rfl, Nat.le_succ _, fun k e => ?_⟩
    have e : (if m.desk = 0 then a else b) = k := Option.some.inj e
    rw [← e]
    split
    · exact ho.1
    · exact ho.2
  | stop => exact ⟨h, rfl, Nat.le_succ _, fun k e => by cases e⟩
def oV : Option Nat → V
  | none => .non
  | some n => .int (n : Int)
/-! ### the law's own machine: a dict -/
def kW : Key := .inr "worths"
def kD : Key := .inr "desk"
def kS : Key := .inr "said"
theorem k_WD : kW ≠ kD := by decide +kernel
theorem k_WS : kW ≠ kS := by decide +kernel
theorem k_DS : kD ≠ kS := by decide +kernel
structure LawM (ex : Key → Option V) (H : Hp) (ad aw as_ : Addr) (m : Mach) : Prop where
  dic : ∃ kvs : List (Key × V), H ad = some (.dK kvs) ∧ kvs.length ≤ 100 ∧ valV kvs kW = some (.ref aw) ∧ valV kvs kD = some (.int m.desk) ∧ valV kvs kS = some (.ref as_) ∧ ∀ k, k ≠ kW → k ≠ kD → k ≠ kS → valV kvs k = ex k
  ws : H aw = some (.lst (m.ws.map V.int))
  said : H as_ = some (.lst (m.said.map V.int))
  ne : aw ≠ as_
def But3 (a b c : Addr) (H H' : Hp) : Prop := ∀ x o, x ≠ a → x ≠ b → x ≠ c → H x = some o → H' x = some o
theorem But3.of {a b c : Addr} {H H' : Hp} (s : Same1 H H') : But3 a b c H H' := fun x o _ _ _ h => s x o h
theorem But3.trans {a b c : Addr} {H H1 H2 : Hp} (s : But3 a b c H H1) (t : But3 a b c H1 H2) : But3 a b c H H2 := fun x o h1 h2 h3 h => t x o h1 h2 h3 (s x o h1 h2 h3 h)
theorem But3.upd1 {a b c : Addr} {H : Hp} {o : HO} : But3 a b c H (upd H a o) := fun x u h _ _ e => by rw [upd_ne h]; exact e
theorem But3.upd2 {a b c : Addr} {H : Hp} {o : HO} : But3 a b c H (upd H b o) := fun x u _ h _ e => by rw [upd_ne h]; exact e
theorem But3.upd3 {a b c : Addr} {H : Hp} {o : HO} : But3 a b c H (upd H c o) := fun x u _ _ h e => by rw [upd_ne h]; exact e
theorem LawM.same {ex : Key → Option V} {H H' : Hp} {ad aw as_ : Addr} {m : Mach} (h : LawM ex H ad aw as_ m) (s : Same1 H H') : LawM ex H' ad aw as_ m := by
  obtain ⟨⟨kvs, h1, h2⟩, h3, h4, h5⟩ := h
  exact ⟨⟨kvs, s _ _ h1, h2⟩, s _ _ h3, s _ _ h4, h5⟩
theorem put_len {κ : Type} [DecidableEq κ] {kvs : List (κ × V)} {k : κ} {v x : V} (h : valV kvs k = some x) : (putK kvs k v).length = kvs.length := by
  unfold putK
  rw [valV_any, h, if_pos (by rfl), List.length_map]
theorem LawM.put {ex : Key → Option V} {H : Hp} {ad aw as_ : Addr} {m : Mach} {kvs : List (Key × V)} {z : Int} (h : LawM ex H ad aw as_ m) (e : H ad = some (.dK kvs)) : LawM ex (upd H ad (.dK (putK kvs kD (.int z)))) ad aw as_ { m with desk := z } := by
  obtain ⟨⟨kvs', h1, h2, h3, h4, h5, h9⟩, h6, h7, h8⟩ := h
  rw [e] at h1
  have q : kvs = kvs' := by injection (Option.some.inj h1)
  subst q
  have nw : aw ≠ ad := ne_of h6 e (by intro z; cases z)
  have ns : as_ ≠ ad := ne_of h7 e (by intro z; cases z)
  refine ⟨⟨putK kvs kD (.int z), upd_same, by rw [put_len h4]; exact h2, ?_, ?_, ?_, fun k a b c => by rw [valV_put, if_neg (fun z => b z)]; exact h9 k a b c⟩, by rw [upd_ne nw]; exact h6, by rw [upd_ne ns]; exact h7, h8⟩
  · rw [valV_put, if_neg k_WD]; exact h3
  · rw [valV_put, if_pos rfl]
  · rw [valV_put, if_neg k_DS.symm]; exact h5
theorem dget {H : Hp} {a : Addr} {kvs : List (Key × V)} {k : Key} {v : V} (e : H a = some (.dK kvs)) (h : valV kvs k = some v) : DGet H a (kV k) (some v) := by
  have q := DGet.k (k := k) e
  rw [h] at q
  exact q
def Row.ar : Row → Bool
  | .load _ _ => true
  | .add _ _ => true
  | .take _ _ => true
  | _ => false
theorem Row.in3 (r : Row) : inV (.str r.word) [.str "load", .str "add", .str "take"] = r.ar := by cases r <;> (dsimp only [Row.word, Row.ar]; decide +kernel)
def Row.isWd (s : Str) (r : Row) : Bool := decide (V.str r.word = V.str s)
def Row.fac (r : Row) : Int × Int := match r with
  | .load _ _ => (0, 1)
  | .take _ _ => (1, -1)
  | _ => (1, 1)
theorem Row.f1 (r : Row) : (if (!decide (V.str r.word = V.str "load")) = true then (1 : Int) else 0) = r.fac.1 := by
  cases r with
  | load _ _ => exact (by decide +kernel : (if (!decide (V.str "load" = V.str "load")) = true then (1 : Int) else 0) = 0)
  | add _ _ => exact (by decide +kernel : (if (!decide (V.str "add" = V.str "load")) = true then (1 : Int) else 0) = 1)
  | take _ _ => exact (by decide +kernel : (if (!decide (V.str "take" = V.str "load")) = true then (1 : Int) else 0) = 1)
  | store _ _ => exact (by decide +kernel : (if (!decide (V.str "store" = V.str "load")) = true then (1 : Int) else 0) = 1)
  | say _ => exact (by decide +kernel : (if (!decide (V.str "say" = V.str "load")) = true then (1 : Int) else 0) = 1)
  | test _ _ => exact (by decide +kernel : (if (!decide (V.str "test" = V.str "load")) = true then (1 : Int) else 0) = 1)
  | stop  => exact (by decide +kernel : (if (!decide (V.str "stop" = V.str "load")) = true then (1 : Int) else 0) = 1)
theorem Row.f2 (r : Row) : atI ([V.int 1, V.int (-1)] : List V) (if decide (V.str r.word = V.str "take") = true then (1 : Int) else 0) = some (.int r.fac.2) := by
  cases r with
  | load _ _ => exact (by decide +kernel : atI ([V.int 1, V.int (-1)] : List V) (if decide (V.str "load" = V.str "take") = true then (1 : Int) else 0) = some (.int (1)))
  | add _ _ => exact (by decide +kernel : atI ([V.int 1, V.int (-1)] : List V) (if decide (V.str "add" = V.str "take") = true then (1 : Int) else 0) = some (.int (1)))
  | take _ _ => exact (by decide +kernel : atI ([V.int 1, V.int (-1)] : List V) (if decide (V.str "take" = V.str "take") = true then (1 : Int) else 0) = some (.int (-1)))
  | store _ _ => exact (by decide +kernel : atI ([V.int 1, V.int (-1)] : List V) (if decide (V.str "store" = V.str "take") = true then (1 : Int) else 0) = some (.int (1)))
  | say _ => exact (by decide +kernel : atI ([V.int 1, V.int (-1)] : List V) (if decide (V.str "say" = V.str "take") = true then (1 : Int) else 0) = some (.int (1)))
  | test _ _ => exact (by decide +kernel : atI ([V.int 1, V.int (-1)] : List V) (if decide (V.str "test" = V.str "take") = true then (1 : Int) else 0) = some (.int (1)))
  | stop  => exact (by decide +kernel : atI ([V.int 1, V.int (-1)] : List V) (if decide (V.str "stop" = V.str "take") = true then (1 : Int) else 0) = some (.int (1)))
theorem Row.wd_eq (r : Row) : r.isWd "test" = (match r with | .test _ _ => true | _ => false) ∧ r.isWd "store" = (match r with | .store _ _ => true | _ => false) ∧ r.isWd "say" = (match r with | .say _ => true | _ => false) ∧ r.isWd "stop" = (match r with | .stop => true | _ => false) := by
  cases r with
  | load _ _ => exact (by decide +kernel : decide (V.str "load" = V.str "test") = false ∧ decide (V.str "load" = V.str "store") = false ∧ decide (V.str "load" = V.str "say") = false ∧ decide (V.str "load" = V.str "stop") = false)
  | add _ _ => exact (by decide +kernel : decide (V.str "add" = V.str "test") = false ∧ decide (V.str "add" = V.str "store") = false ∧ decide (V.str "add" = V.str "say") = false ∧ decide (V.str "add" = V.str "stop") = false)
  | take _ _ => exact (by decide +kernel : decide (V.str "take" = V.str "test") = false ∧ decide (V.str "take" = V.str "store") = false ∧ decide (V.str "take" = V.str "say") = false ∧ decide (V.str "take" = V.str "stop") = false)
  | store _ _ => exact (by decide +kernel : decide (V.str "store" = V.str "test") = false ∧ decide (V.str "store" = V.str "store") = true ∧ decide (V.str "store" = V.str "say") = false ∧ decide (V.str "store" = V.str "stop") = false)
  | say _ => exact (by decide +kernel : decide (V.str "say" = V.str "test") = false ∧ decide (V.str "say" = V.str "store") = false ∧ decide (V.str "say" = V.str "say") = true ∧ decide (V.str "say" = V.str "stop") = false)
  | test _ _ => exact (by decide +kernel : decide (V.str "test" = V.str "test") = true ∧ decide (V.str "test" = V.str "store") = false ∧ decide (V.str "test" = V.str "say") = false ∧ decide (V.str "test" = V.str "stop") = false)
  | stop  => exact (by decide +kernel : decide (V.str "stop" = V.str "test") = false ∧ decide (V.str "stop" = V.str "store") = false ∧ decide (V.str "stop" = V.str "say") = false ∧ decide (V.str "stop" = V.str "stop") = true)
theorem Row.ar_of {r : Row} (h : r.ar = true) {W N : Nat} (ho : r.ok W N) : ∃ w n : Nat, (rowVs r)[1]? = some (.int (w : Int)) ∧ w < W ∧ atI (rowVs r) (-1) = some (.int (n : Int)) ∧
    ∀ m : Mach, MOk m → w < m.ws.length → stepM m r = ({ m with desk := ring (m.desk * r.fac.1 + m.at w * r.fac.2) }, some n) := by
  cases r with
  | load w n =>
    refine ⟨w, n, rfl, ho.1, rfl, fun m hm hw => ?_⟩
    show ({ m with desk := m.at w }, some n) = ({ m with desk := ring (m.desk * 0 + m.at w * 1) }, some n)
    rw [Int.mul_zero, Int.zero_add, Int.mul_one, ring_id (at_in hm hw).2]
  | add w n =>
    refine ⟨w, n, rfl, ho.1, rfl, fun m hm hw => ?_⟩
    show ({ m with desk := ring (m.desk + m.at w) }, some n) = ({ m with desk := ring (m.desk * 1 + m.at w * 1) }, some n)
    rw [Int.mul_one, Int.mul_one]
  | take w n =>
    refine ⟨w, n, rfl, ho.1, rfl, fun m hm hw => ?_⟩
    show ({ m with desk := ring (m.desk - m.at w) }, some n) = ({ m with desk := ring (m.desk * 1 + m.at w * -1) }, some n)
    rw [Int.mul_one, Int.mul_neg_one]
    rfl
  | store w n => cases h
  | say n => cases h
  | test a b => cases h
  | stop => cases h
theorem Row.fb (r : Row) : (0 ≤ r.fac.1 ∧ r.fac.1 ≤ 1) ∧ (-1 ≤ r.fac.2 ∧ r.fac.2 ≤ 1) := by cases r <;> (dsimp only [Row.fac]; decide)
def spRing : Sp := fun vs H Q _ => ∃ n : Int, vs = [.int n] ∧ Q (.int (ring n)) H
def spStep : Sp := fun vs H Q _ => ∃ (ex : Key → Option V) (ad aw as_ ra : Addr) (m : Mach) (r : Row) (N : Nat), vs = [.ref ad, .ref ra] ∧ LawM ex H ad aw as_ m ∧ MOk m ∧ m.said.length ≤ 9000 ∧ H ra = some (.tup (rowVs r)) ∧ r.ok m.ws.length N ∧
  ∀ H', But3 ad aw as_ H H' → LawM ex H' ad aw as_ (stepM m r).1 → Q (oV (stepM m r).2) H'
section
variable {P : Program} {w : World} {K : PySem.W.Frag} {mg : Str → Option Value} {base : Heap}
abbrev nStep : List Str := ["_law_s", "_law_row", "_law_number"]
end
end DL
namespace DLR
open PySem PySem.Spec PyProof.Rows L2
/-! ### sorted(a dict whose keys are pairs of whole numbers), any number of them -/
def pairH (H : Hp) (a : Addr) : Int × Int := match H a with
  | some (.tup [.int i, .int j]) => (i, j)
  | _ => (0, 0)
theorem pairH_of {H : Hp} {a : Addr} {i j : Int} (h : H a = some (.tup [.int i, .int j])) : pairH H a = (i, j) := by
  unfold pairH
  rw [h]
def pairV (H : Hp) : Value → Int × Int
  | .ref a => pairH H a
  | _ => (0, 0)
def keyP (q : Int × Int) : List Key := [Sum.inl q.1, Sum.inl q.2]
def PairsAt (H : Hp) (bs : List Addr) (L : List (Int × Int)) : Prop := Paired (fun b q => H b = some (.tup [.int q.1, .int q.2])) bs L
theorem pairs_of_map {H : Hp} : ∀ {bs : List Addr}, (∀ b ∈ bs, H b = some (.tup [.int (pairH H b).1, .int (pairH H b).2])) → PairsAt H bs (bs.map (pairH H))
  | [], _ => .nil
  | b :: bs, h => .cons (h b List.mem_cons_self) (pairs_of_map fun c hc => h c (List.mem_cons_of_mem _ hc))
theorem keys_pairs {H : Hp} {kvs : List (List Key × V)} {ks : List (List Key × Addr × Value)} (r : KT H kvs ks) : ∀ {ps : List (Int × Int)}, kvs.map (·.1) = ps.map keyP → PairsAt H (ks.map fun x => x.2.1) ps := by
  induction r with
  | nil =>
    intro ps h
    cases ps with
    | nil => exact .nil
    | cons q ps => cases h
  | @cons p x pt xt h t ih =>
    intro ps hp
    cases ps with
    | nil => cases hp
    | cons q ps =>
      obtain ⟨e1, e2⟩ := List.cons.inj hp
      refine .cons ?_ (ih e2)
      have z := h.2.1
      have e1 : p.1 = keyP q := e1
      rw [e1] at z
      exact z
theorem pairs_map {H : Hp} : ∀ {bs : List Addr} {ps : List (Int × Int)}, PairsAt H bs ps → bs.map (pairH H) = ps
  | _, _, .nil => rfl
  | _, _, .cons h t => by
    rw [List.map_cons, pairs_map t, pairH_of h]
def rSortedDT : List V → Hp → VK → Prop := fun vs H Q => ∃ (d : Addr) (kvs : List (List Key × V)) (ps : List (Int × Int)), vs = [V.ref d] ∧ Rd H d (.dT kvs) ∧ kvs.map (·.1) = ps.map keyP ∧
  ∀ (p : Addr) (ys : List Addr) (L : List (Int × Int)), PairsAt H ys L → SrtO.Srtd SrtO.lexB L → SrtO.Stb SrtO.lexB L ps → H p = none → Q (.ref p) (upd H p (.lst (ys.map V.ref)))
theorem cr_sortedDT {X : Cx} (hc : X.calm = true) : CallR X (.builtin "sorted") rSortedDT := by
  intro pins s σ H vs us Q I r h
  obtain ⟨d, kvs, ps, rfl, hd, hps, q⟩ := h
  obtain ⟨u, rfl, rx⟩ := r.one
  cases rx
  obtain ⟨z, hs, ks, pr, o, es, ep, ho, hx, hdt, he, hn⟩ := (show ObjOk X.prog X.w H s.heap d (.dT kvs) from hd.ok I.hok)
  have l1 := size_of_entries he
  have l2 := Paired.length pr
  refine Calls.call_function_entry kind_sorted plain_sorted entry_sorted (args_sorted1 _) ?_
  unfold Builtin.«sorted»
  refine wpAny_bind (m := checkCount "sorted" 1 1 _) (wpAny_pure ?_)
  refine wpAny_bind (PySem.W.kdu_collect (A := X.A.in1) (kdl_raw hs hx hdt) (I.ok.hd hc) ho (by omega) fun h' tk acc kp it => ?_)
  have ea : acc.toList = (ks.map fun x => x.2.1).map Value.ref := by
    apply List.ext_getElem?
    intro j
    rw [List.map_map, List.getElem?_map]
    cases hj : acc.toList[j]? with
    | none =>
      have g := List.getElem?_eq_none_iff.mp hj
      rw [Array.length_toList, it.1, l1] at g
      rw [List.getElem?_eq_none g]
      rfl
    | some v =>
      obtain ⟨en, hen, hv⟩ := it.2 j v (by rw [← Array.getElem?_toList]; exact hj)
      have qe := entry_at he j
      rw [hen] at qe
      cases hb : ks[j]? with
      | none => rw [hb] at qe; cases qe
      | some b =>
        rw [hb] at qe
        have e2 := Option.some.inj qe
        rw [hv, e2]
        rfl
  have hal : acc.toList.length = ks.length := by rw [ea, List.length_map, List.length_map]
  have hz16 : acc.toList.length ≤ sizeLine := by omega
  have hP := keys_pairs pr hps
  have I1 : Inv X pins σ H { s with heap := h', toks := tk } := I.kept kp
  refine wpAny_bind (wpAny_newList ?_ hz16)
  have hoL : (h'.push (seqObj "list" acc.toList.toArray 0)).get? h'.objs.size = some (seqObj "list" acc.toList.toArray 0) := Heap.get?_push_size _ rfl
  have hpv : ∀ v ∈ acc.toList, Srt.IsPair (h'.push (seqObj "list" acc.toList.toArray 0)) v (pairV H v).1 (pairV H v).2 := by
    intro v hv
    rw [ea] at hv
    obtain ⟨b, hb, rfl⟩ := List.mem_map.mp hv
    obtain ⟨j, hj⟩ := List.getElem?_of_mem hb
    obtain ⟨y, hy, hy2⟩ := DL.Paired.get hP hj
    obtain ⟨_, its2, r2, o2, ho2, hc2, n2, hd2⟩ := I1.hok _ _ hy2
    obtain ⟨u1, u2, rfl, ri, rj⟩ := vals2 r2
    obtain ⟨t1, rfl⟩ := ri
    obtain ⟨t2, rfl⟩ := rj
    have e : pairV H (.ref b) = y := pairH_of hy2
    rw [e]
    exact ⟨b, o2, t1, t2, n2, rfl, Heap.get?_push_of_some _ ho2, hc2, hd2⟩
  show wpAny _ _ _ _ _ { s with heap := h'.push (seqObj "list" acc.toList.toArray 0), toks := tk }
  refine wpAny_bind (wpAny_holding (wpAny_call_entry slot_list_sort ⟨_, hoL, rfl⟩ entry_list_sort
    (SrtO.list_sort_ord (s := { s with heap := h'.push (seqObj "list" acc.toList.toArray 0), toks := tk }) (SrtO.swo_lex (pairV H)) hoL hz16 (fun h2 => ?_) fun out hs2 hb => ⟨_, rfl, ?_⟩) (args_list_sort _)))
  · refine SrtO.pairs_sortableO (by omega) hpv fun o3 e3 => ?_
    rw [show (({ s with heap := h'.push (seqObj "list" acc.toList.toArray 0), toks := tk } : Shared).heap.get? h'.objs.size) = _ from hoL] at e3
    cases e3
    intro c
    exact absurd (Value.type.inj c) (by decide)
  · obtain ⟨e', he'⟩ := PyProof.Rows.sortedHeap_at (vs := acc.toList) (out := out.toArray) hoL
    have href : ∀ u ∈ out, ∃ a, u = Value.ref a := fun u hu => by
      have m := hb.perm.mem_iff.mp hu
      rw [ea] at m
      obtain ⟨b, _, e⟩ := List.mem_map.mp m
      exact ⟨b, e.symm⟩
    obtain ⟨ys, hys⟩ : ∃ ys : List Addr, out = ys.map Value.ref := by
      clear hs2 hb he'
      induction out with
      | nil => exact ⟨[], rfl⟩
      | cons u t ih =>
        obtain ⟨a, ha⟩ := href u List.mem_cons_self
        obtain ⟨ys, e⟩ := ih fun v hv => href v (List.mem_cons_of_mem _ hv)
        exact ⟨a :: ys, by rw [ha, e]; rfl⟩
    have hlo : out.length ≤ sizeLine := by rw [hb.len]; exact hz16
    refine wpAny_pure ⟨_, rfl, .ref h'.objs.size, upd H h'.objs.size (.lst (ys.map V.ref)), I1.laid (t' := tk) (fun b u e => ?_) (Nat.le_refl _) ?_, rfl,
      q _ ys (ys.map (pairH H)) ?_ ?_ ?_ (I1.hok.fresh (Nat.le_refl _))⟩
    · have hlt : b < h'.objs.size := Heap.lt_size e
      rw [PyProof.Rows.sortedHeap_old (Nat.ne_of_lt hlt) (by rw [size_push']; exact Nat.lt_succ_of_lt hlt)]
      exact Heap.get?_push_of_some _ e
    · refine ⟨by rw [List.length_map, ← List.length_map (f := Value.ref), ← hys]; exact hlo, out, e', ?_, he'⟩
      rw [hys]
      exact vals_refs ys
    · refine pairs_of_map fun b hb2 => ?_
      have m : Value.ref b ∈ acc.toList := hb.perm.mem_iff.mp (by rw [hys]; exact List.mem_map.mpr ⟨b, hb2, rfl⟩)
      rw [ea] at m
      obtain ⟨c, hc2, e⟩ := List.mem_map.mp m
      cases e
      obtain ⟨j, hj⟩ := List.getElem?_of_mem hc2
      obtain ⟨y, hy, hy2⟩ := DL.Paired.get hP hj
      rw [pairH_of hy2]
      exact hy2
    · have e : ys.map (pairH H) = out.map (pairV H) := by rw [hys, List.map_map]; rfl
      rw [e]
      exact SrtO.srtd_map hs2
    · have e : ys.map (pairH H) = out.map (pairV H) := by rw [hys, List.map_map]; rfl
      have e2 : ps = acc.toList.map (pairV H) := by rw [ea, List.map_map, ← pairs_map hP]; rfl
      rw [e, e2]
      refine SrtO.Stb.map ?_ (pairV H) hb
      refine ⟨fun x y h => ?_, fun x y z h1 h2 => ?_⟩
      · have a := SrtO.lexB_iff.mp h
        exact SrtO.lexB_no.mpr (by omega)
      · have a := SrtO.lexB_no.mp h1
        have b := SrtO.lexB_no.mp h2
        exact SrtO.lexB_no.mpr (by omega)
end DLR
namespace DL
open PySem L2 DLR
/-! ### the mirror of a run -/
abbrev GL := List ((Int × Int) × V)
def gcount : Option V → Int
  | some (.int c) => c
  | _ => 0
def bump (g : GL) (q : Int × Int) : GL := putK g q (.int (gcount (valV g q) + 1))
structure RS where
  m : Mach
  cnt : List Int
  goes : GL
  here : Option Nat
def goesOf (g : GL) (r : Nat) : Option Nat → GL
  | none => g
  | some n => bump g ((r : Int), (n : Int))
def turnS (rows : List Row) (s : RS) : RS := match s.here with
  | none => s
  | some r => ⟨(stepM s.m (rows.getD r .stop)).1, s.cnt.set r (s.cnt.getD r 0 + 1),
      goesOf s.goes r (stepM s.m (rows.getD r .stop)).2,
      (stepM s.m (rows.getD r .stop)).2⟩
def startS (p : Prog) : RS := ⟨⟨0, p.ws, []⟩, List.replicate p.rows.length 0, [], some 0⟩
def runS (p : Prog) : Nat → RS
  | 0 => startS p
  | k + 1 => turnS p.rows (runS p k)
theorem runS_none {p : Prog} {j : Nat} (h : (runS p j).here = none) : ∀ k, runS p (j + k) = runS p j
  | 0 => rfl
  | k + 1 => by
    show turnS p.rows (runS p (j + k)) = _
    rw [runS_none h k]
    unfold turnS
    rw [h]
structure ROk (p : Prog) (k : Nat) (s : RS) : Prop where
  m : MOk s.m
  w : s.m.ws.length = p.ws.length
  said : s.m.said.length ≤ k
  dl : s.cnt.length = p.rows.length
  sum : s.here ≠ none → s.cnt.sum = (k : Int)
  le : s.cnt.sum ≤ (k : Int) ∧ 0 ≤ s.cnt.sum
  gok : ∀ e ∈ s.goes, ∃ c, e.2 = .int c
  gl : s.goes.length ≤ k
  here : ∀ r, s.here = some r → r < p.rows.length
theorem getD_set_sum {l : List Int} {r : Nat} (h : r < l.length) : (l.set r (l.getD r 0 + 1)).sum = l.sum + 1 := by
  have e : l[r]? = some (l.getD r 0) := by
    rw [List.getD_eq_getElem?_getD, List.getElem?_eq_getElem h]
    rfl
  rw [L2.sum_set e]
  omega
theorem sum_rep : ∀ n : Nat, (List.replicate n (0 : Int)).sum = 0
  | 0 => rfl
  | n + 1 => by
    rw [List.replicate_succ, List.sum_cons, sum_rep n]
    rfl
theorem putK_len {κ : Type} [DecidableEq κ] {kvs : List (κ × V)} {k : κ} {v : V} : (putK kvs k v).length ≤ kvs.length + 1 := by
  unfold putK
  split
  · rw [List.length_map]; omega
  · rw [List.length_append]; exact Nat.le_refl _
theorem putK_all {κ : Type} [DecidableEq κ] {kvs : List (κ × V)} {k : κ} {c : Int} (h : ∀ e ∈ kvs, ∃ c, e.2 = V.int c) : ∀ e ∈ putK kvs k (.int c), ∃ c, e.2 = V.int c := by
  intro e he
  unfold putK at he
  split at he
  · obtain ⟨x, hx, rfl⟩ := List.mem_map.mp he
    by_cases q : x.1 = k
    · rw [if_pos q]; exact ⟨c, rfl⟩
    · rw [if_neg q]; exact h x hx
  · rcases List.mem_append.mp he with q | q
    · exact h e q
    · rw [List.mem_singleton.mp q]; exact ⟨c, rfl⟩
theorem runS_ok {p : Prog} (g : Good p) : ∀ k, ROk p k (runS p k)
  | 0 => by
    refine ⟨⟨(by show -1000000000 ≤ (0 : Int) ∧ (0 : Int) < 1000000000; decide), fun x hx => ?_⟩, rfl, Nat.le_refl _, List.length_replicate, fun _ => ?_, ?_, fun _ h => absurd h (by simp [runS, startS]), Nat.le_refl _, fun r h => ?_⟩
    · have := g.num x hx
      unfold InR
      omega
    · show (List.replicate p.rows.length (0 : Int)).sum = 0
      exact sum_rep _
    · show (List.replicate p.rows.length (0 : Int)).sum ≤ 0 ∧ 0 ≤ (List.replicate p.rows.length (0 : Int)).sum
      rw [sum_rep]
      decide
    · have e : (0 : Nat) = r := Option.some.inj h
      rw [← e]
      exact g.r1
  | k + 1 => by
    have ih := runS_ok g k
    show ROk p (k + 1) (turnS p.rows (runS p k))
    generalize runS p k = s at ih ⊢
    unfold turnS
    cases hh : s.here with
    | none =>
      exact ⟨ih.m, ih.w, Nat.le_succ_of_le ih.said, ih.dl, fun q => absurd hh q, ⟨by show s.cnt.sum ≤ ((k + 1 : Nat) : Int); have := ih.le.1; omega, ih.le.2⟩, ih.gok, Nat.le_succ_of_le ih.gl, fun r h => by rw [hh] at h; cases h⟩
    | some r =>
      have hr := ih.here r hh
      have er : p.rows.getD r .stop = p.rows[r] := by rw [List.getD_eq_getElem?_getD, List.getElem?_eq_getElem hr]; rfl
      have ho : (p.rows.getD r .stop).ok s.m.ws.length p.rows.length := by
        rw [er, ih.w]
        exact g.ok _ (List.getElem_mem hr)
      obtain ⟨s1, s2, s3, s4⟩ := stepM_ok ih.m ho
      have hs := getD_set_sum (l := s.cnt) (r := r) (by rw [ih.dl]; exact hr)
      have hsum := ih.sum (by rw [hh]; simp)
      refine ⟨s1, s2.trans ih.w, ?_, by rw [List.length_set]; exact ih.dl, fun _ => by rw [hs, hsum]; rfl, ?_, ?_, ?_, fun n h => s4 n h⟩
      · show (stepM s.m (p.rows.getD r .stop)).1.said.length ≤ k + 1
        have := ih.said
        omega
      · show (s.cnt.set r (s.cnt.getD r 0 + 1)).sum ≤ _ ∧ 0 ≤ (s.cnt.set r (s.cnt.getD r 0 + 1)).sum
        rw [hs, hsum]
        omega
      · show ∀ e ∈ goesOf s.goes r (stepM s.m (p.rows.getD r .stop)).2, _
        cases (stepM s.m (p.rows.getD r .stop)).2 with
        | none => exact ih.gok
        | some n => exact putK_all ih.gok
      · show (goesOf s.goes r (stepM s.m (p.rows.getD r .stop)).2).length ≤ _
        cases (stepM s.m (p.rows.getD r .stop)).2 with
        | none => exact Nat.le_succ_of_le ih.gl
        | some n => exact Nat.le_trans putK_len (Nat.succ_le_succ ih.gl)
/-! ### the goes as they stand in a dict -/
def kmap (g : GL) : List (List Key × V) := g.map fun e => (keyP e.1, e.2)
theorem keyP_inj {a b : Int × Int} (h : keyP a = keyP b) : a = b := by
  obtain ⟨h1, h2⟩ := List.cons.inj h
  obtain ⟨h3, _⟩ := List.cons.inj h2
  exact Prod.ext (Sum.inl.inj h1) (Sum.inl.inj h3)
theorem kmap_val (g : GL) (q : Int × Int) : valV (kmap g) (keyP q) = valV g q := by
  induction g with
  | nil => rfl
  | cons e g ih =>
    by_cases h : e.1 = q
    · rw [valV_pos h]
      exact valV_pos (p := (keyP e.1, e.2)) (by rw [h])
    · rw [valV_neg h, ← ih]
      exact valV_neg (p := (keyP e.1, e.2)) (fun z => h (keyP_inj z))
theorem kmap_put (g : GL) (q : Int × Int) (v : V) : putK (kmap g) (keyP q) v = kmap (putK g q v) := by
  unfold putK
  have e : ((kmap g).any fun kv => decide (kv.1 = keyP q)) = (g.any fun kv => decide (kv.1 = q)) := by
    rw [valV_any, valV_any, kmap_val]
  rw [e]
  split
  · unfold kmap
    rw [List.map_map, List.map_map]
    refine List.map_congr_left fun x _ => ?_
    show (if keyP x.1 = keyP q then (keyP x.1, v) else (keyP x.1, x.2)) = (keyP (if x.1 = q then (x.1, v) else x).1, (if x.1 = q then (x.1, v) else x).2)
    by_cases h : x.1 = q
    · rw [if_pos h, if_pos (by rw [h])]
    · rw [if_neg h, if_neg (fun z => h (keyP_inj z))]
  · unfold kmap
    rw [List.map_append]
    rfl
theorem kmap_keys (g : GL) : (kmap g).map (·.1) = (g.map (·.1)).map keyP := by
  unfold kmap
  rw [List.map_map, List.map_map]
  rfl
theorem kmap_len (g : GL) : (kmap g).length = g.length := List.length_map _
theorem valV_mem {κ : Type} [DecidableEq κ] {g : List (κ × V)} {q : κ} {v : V} (h : valV g q = some v) : ∃ e ∈ g, e.2 = v := by
  induction g with
  | nil => cases h
  | cons e g ih =>
    by_cases z : e.1 = q
    · rw [valV_pos z] at h
      exact ⟨e, List.mem_cons_self, Option.some.inj h⟩
    · rw [valV_neg z] at h
      obtain ⟨x, hx, hy⟩ := ih h
      exact ⟨x, List.mem_cons_of_mem _ hx, hy⟩
theorem gget {g : GL} (h : ∀ e ∈ g, ∃ c, e.2 = V.int c) (q : Int × Int) : (valV g q).getD (.int 0) = .int (gcount (valV g q)) := by
  cases e : valV g q with
  | none => rfl
  | some v =>
    obtain ⟨x, hx, hy⟩ := valV_mem e
    obtain ⟨c, hc⟩ := h x hx
    rw [← hy, hc]
    rfl
theorem ggot {g : GL} (h : ∀ e ∈ g, ∃ c, e.2 = V.int c) {q : Int × Int} (m : q ∈ g.map (·.1)) : valV g q = some (.int (gcount (valV g q))) := by
  have e := gget h q
  cases z : valV g q with
  | none => exact absurd m (L2.valV_not z)
  | some v =>
    rw [z] at e
    exact congrArg some e
/-! ### what a run tells -/
structure Res (p : Prog) (fuel : Nat) (H0 H : Hp) (a ls le ld lg : Addr) (ys : List Addr) (L : List (Int × Int)) : Prop where
  same : Same1 H0 H
  top : H a = some (.tup [.ref ls, .ref le, .ref ld, .ref lg])
  fs : H0 ls = none
  fd : H0 ld = none
  fg : H0 lg = none
  said : H ls = some (.lst ((runS p fuel).m.said.map V.int))
  fin : H le = some (.tup [.str (if (runS p fuel).here = none then "stop" else "long")])
  cnt : H ld = some (.lst ((runS p fuel).cnt.map V.int))
  goes : H lg = some (.lst (ys.map V.ref))
  each : Paired (fun b q => H b = some (.tup [.int q.1, .int q.2, .int (gcount (valV (runS p fuel).goes q))])) ys L
  srt : SrtO.Srtd SrtO.lexB L
  stb : SrtO.Stb SrtO.lexB L ((runS p fuel).goes.map (·.1))
  n1 : ls ≠ ld
  n2 : ls ≠ lg
  n3 : ld ≠ lg
def spRun : Sp := fun vs H Q _ => ∃ (pa : Addr) (p : Prog) (fuel : Nat), vs = [.ref pa, .int (fuel : Int)] ∧ ProgAt H pa p ∧ Good p ∧ fuel ≤ 5000 ∧
  ∀ a ls le ld lg ys L H', Res p fuel H H' a ls le ld lg ys L → Q (.ref a) H'
end DL
namespace DL
open PySem L2 DLR
theorem relI {i : Int} {t : Tok} : RelV (.int i) (.int i t) := ⟨t, rfl⟩
structure Cn (mg : Str → Option Value) where
  tW : Tok
  tR : Tok
  tN : Tok
  mW : mg "MOST_WORTHS" = some (.int 8 tW)
  mR : mg "MOST_ROWS" = some (.int 40 tR)
  mN : mg "MOST_NUMBER" = some (.int 1000000 tN)
structure Cf (mg : Str → Option Value) where
  tF : Tok
  mF : mg "MOST_FUEL" = some (.int 5000 tF)
structure Cd (mg : Str → Option Value) where
  tL : Tok
  tC : Tok
  mL : mg "DESK_LOW" = some (.int (-1000000000) tL)
  mC : mg "DESK_COUNT" = some (.int 2000000000 tC)
abbrev sIsNumber : Stmt := top 12
abbrev sIsBetween : Stmt := top 13
abbrev sPart : Stmt := top 14
abbrev sCheckWorths : Stmt := top 18
abbrev sCheckFuel : Stmt := top 41
abbrev sOnDesk : Stmt := top 40
abbrev FIsNumber (K : Frg) (mg : Str → Option Value) := Fd K mg "is_number" sIsNumber ["thing"]
abbrev FIsBetween (K : Frg) (mg : Str → Option Value) := Fd K mg "is_between" sIsBetween ["thing", "low", "high"]
abbrev FPart (K : Frg) (mg : Str → Option Value) := Fd K mg "part" sPart ["whole", "at"]
abbrev FCheckWorths (K : Frg) (mg : Str → Option Value) := Fd K mg "check_worths" sCheckWorths ["worths"]
abbrev FCheckFuel (K : Frg) (mg : Str → Option Value) := Fd K mg "check_fuel" sCheckFuel ["fuel"]
abbrev FOnDesk (K : Frg) (mg : Str → Option Value) := Fd K mg "on_desk" sOnDesk ["number"]
def spNum : Sp := fun vs H Q _ => ∃ i : Int, vs = [.int i] ∧ Q (.bl true) H
def spBetween : Sp := fun vs H Q _ => ∃ i lo hi : Int, vs = [.int i, .int lo, .int hi] ∧ lo ≤ i ∧ i ≤ hi ∧ Q (.bl true) H
def spPart : Sp := fun vs H Q _ => ∃ (a : Addr) (xs : List V) (j : Nat) (v : V), vs = [.ref a, .int (j : Int)] ∧ H a = some (.tup xs) ∧ xs[j]? = some v ∧ Q v H
def spCheckWorths : Sp := fun vs H Q _ => ∃ (a : Addr) (ws : List Int), vs = [.ref a] ∧ H a = some (.tup (ws.map V.int)) ∧ ws.length ≤ 8 ∧ (∀ x ∈ ws, -1000000 ≤ x ∧ x ≤ 1000000) ∧ Q .non H
def spCheckFuel : Sp := fun vs H Q _ => ∃ n : Int, vs = [.int n] ∧ 0 ≤ n ∧ n ≤ 5000 ∧ Q .non H
section
variable {P : Program} {w : World} {K : PySem.W.Frag} {mg : Str → Option Value} {base : Heap}
theorem scIsNumber : FnScope ["thing"] ["thing"] (defScope sIsNumber) := ⟨rfl, rfl, rfl, by decide +kernel, rfl, by decide +kernel, by decide +kernel⟩
theorem ok_isNumber (c : FIsNumber K mg) (T : Bt mg) : FnOk P w K mg base CX0 1 c.f c.fd ["thing"] spNum := by
  refine c.F.ok scIsNumber (fun vs H Q E h => ?_) (fun cdv A outer s H vs Q E hr h => ?_)
  · obtain ⟨n, rfl, _⟩ := h
    rfl
  · obtain ⟨n, rfl, k⟩ := h
    refine ⟨_, (pss_one (ps_ret (pe_and (pe_callB call_isi (by rfl) T.isinstance (by decide +kernel) (pa_cons (pv 0) (pa_cons (pe_bltn (v := .ty "int") (by rfl) T.int (by decide +kernel) rfl) pa_nil))) (pe_one (pe_not (pe_callB call_isi (by rfl) T.isinstance (by decide +kernel) (pa_cons (pv 0) (pa_cons (pe_bltn (v := .ty "bool") (by rfl) T.bool (by decide +kernel) rfl) pa_nil)))))))), ?_⟩
    refine ⟨_, rfl, _, _, _, _, true, rfl, .ty _, .base (.int _), kit_ty (by decide +kernel), _, rfl, ?_⟩
    exact ⟨_, rfl, _, _, _, _, false, rfl, .ty _, .base (.int _), kit_ty (by decide +kernel), _, rfl, k⟩
theorem scIsBetween : FnScope ["thing", "low", "high"] ["thing", "low", "high"] (defScope sIsBetween) := ⟨rfl, rfl, rfl, by decide +kernel, rfl, by decide +kernel, by decide +kernel⟩
theorem ok_isBetween (c : FIsBetween K mg) (cIsNumber : FIsNumber K mg) (T : Bt mg) : FnOk P w K mg base CX0 2 c.f c.fd ["thing", "low", "high"] spBetween := by
  have GIsNumber : FnOk P w K mg base CX0 1 cIsNumber.f cIsNumber.fd ["thing"] spNum := ok_isNumber cIsNumber T
  refine c.F.ok scIsBetween (fun vs H Q E h => ?_) (fun cdv A outer s H vs Q E hr h => ?_)
  · obtain ⟨i, lo, hi, rfl, _⟩ := h
    rfl
  · obtain ⟨i, lo, hi, rfl, h1, h2, k⟩ := h
    refine ⟨_, (pss_one (ps_ret (pe_and (pe_call GIsNumber (hr.mono (by first | omega | decide)) (by rfl) cIsNumber.m cIsNumber.F.kp cIsNumber.b .nil pass0 (pa_cons (pv 0) pa_nil)) (pe_one (pe_chain op_le op_le (pv 1) (pv 0) (pv 2)))))), ?_⟩
    refine ⟨_, rfl, _, rfl, _, rfl, ?_⟩
    refine ⟨_, rfl, _, rfl, _, _, rfl, rfl, _, rfl, ?_⟩
    rw [decide_eq_true h1]
    refine iteT ⟨_, rfl, _, _, rfl, rfl, ?_⟩
    show Q (.bl (decide (i ≤ hi))) H
    rw [decide_eq_true h2]
    exact k
theorem scPart : FnScope ["whole", "at"] ["whole", "at"] (defScope sPart) := ⟨rfl, rfl, rfl, by decide +kernel, rfl, by decide +kernel, by decide +kernel⟩
theorem ok_part (c : FPart K mg) (T : Bt mg) : FnOk P w K mg base CX0 1 c.f c.fd ["whole", "at"] spPart := by
  refine c.F.ok scPart (fun vs H Q E h => ?_) (fun cdv A outer s H vs Q E hr h => ?_)
  · obtain ⟨a, xs, j, v, rfl, _⟩ := h
    rfl
  · obtain ⟨a, xs, j, v, rfl, h1, h2, k⟩ := h
    have hj := (List.getElem?_eq_some_iff.mp h2).1
    refine ⟨_, (pss_cons (ps_if (PW.pt (pw_and (pt_val (pe_callB call_isi (by rfl) T.isinstance (by decide +kernel) (pa_cons (pv 0) (pa_cons (pe_bltn (v := .ty "tuple") (by rfl) T.tuple (by decide +kernel) rfl) pa_nil)))) (pw_and1 (pt_cmpR op_lt (pv 1) (pe_callB call_len_seq (by rfl) T.len PySem.boot_len (pa_cons (pv 0) pa_nil)) (nomark _)))))
          (pss_one (ps_ret (pe_ix ix_tup (pv 0) (pv 1) (fun _ _ => rfl))))
          pss_nil)
      (pss_one (ps_ret pe_non))), ?_⟩
    refine ⟨_, rfl, _, _, _, _, true, rfl, .ty _, .base (.tup h1), kit_ty (by decide +kernel), _, rfl, ?_⟩
    refine ⟨_, rfl, _, rfl, a, _, rfl, .inr (SqT.of h1), _, _, rfl, rfl, _, rfl, ?_⟩
    rw [decide_eq_true (show (j : Int) < (xs.length : Int) by omega)]
    exact iteT ⟨_, rfl, _, rfl, a, _, _, _, rfl, rfl, SqT.of h1, atI_nat h2, k⟩
theorem scCheckWorths : FnScope ["worths", "worth"] ["worths"] (defScope sCheckWorths) := ⟨rfl, rfl, rfl, by decide +kernel, rfl, by decide +kernel, by decide +kernel⟩
theorem ok_checkWorths (c : FCheckWorths K mg) (cIsBetween : FIsBetween K mg) (cIsNumber : FIsNumber K mg) (T : Bt mg) (C : Cn mg) : FnOk P w K mg base CX0 3 c.f c.fd ["worths"] spCheckWorths := by
  have GIsBetween : FnOk P w K mg base CX0 2 cIsBetween.f cIsBetween.fd ["thing", "low", "high"] spBetween := ok_isBetween cIsBetween cIsNumber T
  refine c.F.ok scCheckWorths (fun vs H Q E h => ?_) (fun cdv A outer s H vs Q E hr h => ?_)
  · obtain ⟨a, ws, rfl, _⟩ := h
    rfl
  · obtain ⟨a, ws, rfl, h1, h8, hb, k⟩ := h
    refine ⟨_, (pss_cons (ps_if (PW.pt (pw_or (pt_not (pt_val (pe_callB call_isi (by rfl) T.isinstance (by decide +kernel) (pa_cons (pv 0) (pa_cons (pe_bltn (v := .ty "tuple") (by rfl) T.tuple (by decide +kernel) rfl) pa_nil))))) (pw_or1 (pt_cmpR op_gt (pe_callB call_len_seq (by rfl) T.len PySem.boot_len (pa_cons (pv 0) pa_nil)) (pe_glob rfl C.mW relI) (nomark _)))))
          (pss_one ps_never)
          pss_nil)
      (pss_one (ps_for PassesOwn.never rfl (pi_tup (pv 0)) (pg_name (i := 1) scCheckWorths.nd rfl (Or.inl rfl))
          (pss_one (ps_if (pt_not (pt_val (pe_call GIsBetween (hr.mono (by first | omega | decide)) (by rfl) cIsBetween.m cIsBetween.F.kp cIsBetween.b .nil pass0 (pa_cons (pv 1) (pa_cons (pe_un un_neg (pe_glob rfl C.mN relI)) (pa_cons (pe_glob rfl C.mN relI) pa_nil))))))
              (pss_one ps_never)
              pss_nil))))), ?_⟩
    refine ⟨_, rfl, _, _, _, _, true, rfl, .ty _, .base (.tup h1), kit_ty (by decide +kernel), _, rfl, ?_⟩
    refine ⟨_, rfl, a, _, rfl, .inr (SqT.of h1), _, _, rfl, rfl, _, rfl, ?_⟩
    rw [decide_eq_false (show ¬ (8 : Int) < ((ws.map V.int).length : Int) by rw [List.length_map]; omega)]
    refine iteF ⟨_, rfl, a, rfl, ⟨_, SqT.of h1⟩, for_tup (K := K) (a := a) (xs := ws.map V.int) (fun i σ H' => ∃ x : Option V, σ = [some (.ref a), x] ∧ H' = H) ⟨_, rfl, rfl⟩ (fun i σ H' _ ⟨_, _, e⟩ => by rw [e]; exact SqT.of h1) ?_ ?_⟩
    · rintro i x σ H' hi ⟨y, rfl, rfl⟩
      rw [List.getElem?_map] at hi
      cases hz : ws[i]? with
      | none => rw [hz] at hi; cases hi
      | some z =>
        rw [hz] at hi
        have e : V.int z = x := Option.some.inj hi
        subst e
        obtain ⟨b1, b2⟩ := hb z (List.mem_of_getElem? hz)
        refine ⟨_, rfl, _, rfl, z, _, _, rfl, by omega, by omega, _, rfl, ?_⟩
        exact ⟨_, rfl, rfl⟩
    · rintro σ H' ⟨y, rfl, rfl⟩
      exact k
theorem scCheckFuel : FnScope ["fuel"] ["fuel"] (defScope sCheckFuel) := ⟨rfl, rfl, rfl, by decide +kernel, rfl, by decide +kernel, by decide +kernel⟩
theorem ok_checkFuel (c : FCheckFuel K mg) (cIsBetween : FIsBetween K mg) (cIsNumber : FIsNumber K mg) (T : Bt mg) (CF : Cf mg) : FnOk P w K mg base CX0 3 c.f c.fd ["fuel"] spCheckFuel := by
  have GIsBetween : FnOk P w K mg base CX0 2 cIsBetween.f cIsBetween.fd ["thing", "low", "high"] spBetween := ok_isBetween cIsBetween cIsNumber T
  refine c.F.ok scCheckFuel (fun vs H Q E h => ?_) (fun cdv A outer s H vs Q E hr h => ?_)
  · obtain ⟨n, rfl, _⟩ := h
    rfl
  · obtain ⟨n, rfl, h1, h2, k⟩ := h
    refine ⟨_, (pss_one (ps_if (pt_not (pt_val (pe_call GIsBetween (hr.mono (by first | omega | decide)) (by rfl) cIsBetween.m cIsBetween.F.kp cIsBetween.b .nil pass0 (pa_cons (pv 0) (pa_cons pe_int (pa_cons (pe_glob rfl CF.mF relI) pa_nil))))))
          (pss_one ps_never)
          pss_nil)), ?_⟩
    exact ⟨_, rfl, n, _, _, rfl, h1, h2, _, rfl, k⟩
theorem scOnDesk : FnScope ["number"] ["number"] (defScope sOnDesk) := ⟨rfl, rfl, rfl, by decide +kernel, rfl, by decide +kernel, by decide +kernel⟩
theorem ok_onDesk (c : FOnDesk K mg) (CD : Cd mg) : FnOk P w K mg base CX0 1 c.f c.fd ["number"] spRing := by
  refine c.F.ok scOnDesk (fun vs H Q E h => ?_) (fun cdv A outer s H vs Q E hr h => ?_)
  · obtain ⟨n, rfl, _⟩ := h
    rfl
  · obtain ⟨n, rfl, k⟩ := h
    refine ⟨_, (pss_one (ps_ret (pe_op op_add (pe_op op_mod (pe_op op_sub (pv 0) (pe_glob rfl CD.mL relI)) (pe_glob rfl CD.mC relI)) (pe_glob rfl CD.mL relI)))), ?_⟩
    refine ⟨_, rfl, _, _, rfl, rfl, _, _, rfl, rfl, (by show (0 : Int) < 2000000000; decide), _, _, rfl, rfl, ?_⟩
    show Q (.int ((n - -1000000000) % 2000000000 + -1000000000)) H
    have e : (n - -1000000000) % 2000000000 + -1000000000 = ring n := by
      unfold ring
      rw [show n - -1000000000 = n + 1000000000 by omega]
      omega
    rw [e]
    exact k
end
end DL
namespace DL
open PySem L2 DLR
def Row.parts : Row → List Str
  | .say _ => ["next"]
  | .test _ _ => ["next", "next"]
  | .stop => []
  | _ => ["worth", "next"]
theorem Row.parts_len (r : Row) : (rowVs r).length = r.parts.length + 1 := by cases r <;> rfl
structure Pt (K : Frg) (w : World) (mg : Str → Option Value) where
  d : Addr
  es : Array DictEntry
  n : Nat
  m : mg "PARTS" = some (.ref d)
  kd : KDict K w d es n
  at_ : ∀ r : Row, ∃ t, PySem.W.nsIn K d r.word = some (some (.ref t)) ∧ ∀ H, SqT K H t (r.parts.map V.str)
theorem Pt.get {K : Frg} {w : World} {mg : Str → Option Value} (Z : Pt K w mg) (r : Row) : ∃ t, PySem.W.nsIn K Z.d r.word = some (some (.ref t)) ∧ KDct K w Z.d r.word (.ref t) ∧ ∀ H, SqT K H t (r.parts.map V.str) := by
  obtain ⟨t, h1, h2⟩ := Z.at_ r
  exact ⟨t, h1, ⟨_, _, _, Z.kd.at_, Z.kd.lit, h1, rfl⟩, h2⟩
theorem Row.args (r : Row) {i : Nat} (h : i < r.parts.length) : ∃ x : Nat, ((rowVs r).drop 1)[i]? = some (.int (x : Int)) ∧ ∀ {W N : Nat}, r.ok W N →
    (r.parts[i]? = some "worth" ∧ x < W) ∨ (r.parts[i]? = some "next" ∧ x < N) := by
  have hi : i < 2 := by cases r <;> simp [Row.parts] at h <;> omega
  match i, hi with
  | 0, _ =>
    cases r <;> first
      | exact ⟨_, rfl, fun o => .inl ⟨rfl, o.1⟩⟩
      | exact ⟨_, rfl, fun o => .inr ⟨rfl, o⟩⟩
      | exact ⟨_, rfl, fun o => .inr ⟨rfl, o.1⟩⟩
      | (exfalso; simp [Row.parts] at h)
  | 1, _ =>
    cases r <;> first
      | exact ⟨_, rfl, fun o => .inr ⟨rfl, o.2⟩⟩
      | (exfalso; simp [Row.parts] at h)
theorem Row.ints (r : Row) : ∃ ns : List Int, (rowVs r).drop 1 = ns.map V.int ∧ ns.length = r.parts.length := by
  cases r with
  | load a b => exact ⟨[(a : Int), (b : Int)], rfl, rfl⟩
  | add a b => exact ⟨[(a : Int), (b : Int)], rfl, rfl⟩
  | take a b => exact ⟨[(a : Int), (b : Int)], rfl, rfl⟩
  | store a b => exact ⟨[(a : Int), (b : Int)], rfl, rfl⟩
  | say b => exact ⟨[(b : Int)], rfl, rfl⟩
  | test a b => exact ⟨[(a : Int), (b : Int)], rfl, rfl⟩
  | stop => exact ⟨[], rfl, rfl⟩
abbrev sHasShape : Stmt := top 20
abbrev sCheckRow : Stmt := top 19
abbrev sCheckProgram : Stmt := top 17
abbrev FHasShape (K : Frg) (mg : Str → Option Value) := Fd K mg "has_shape" sHasShape ["row"]
abbrev FCheckRow (K : Frg) (mg : Str → Option Value) := Fd K mg "check_row" sCheckRow ["row", "number", "counts"]
abbrev FCheckProgram (K : Frg) (mg : Str → Option Value) := Fd K mg "check_program" sCheckProgram ["program"]
def spHasShape : Sp := fun vs H Q _ => ∃ (a : Addr) (r : Row), vs = [.ref a] ∧ H a = some (.tup (rowVs r)) ∧ ∀ H', Same1 H H' → Q (.bl true) H'
def kWo : Key := .inr "worth"
def kNx : Key := .inr "next"
def spCheckRow : Sp := fun vs H Q _ => ∃ (a c : Addr) (n : Int) (r : Row) (W N : Nat) (kvs : List (Key × V)), vs = [.ref a, .int n, .ref c] ∧ H a = some (.tup (rowVs r)) ∧ r.ok W N ∧
  H c = some (.dK kvs) ∧ valV kvs kWo = some (.int (W : Int)) ∧ valV kvs kNx = some (.int (N : Int)) ∧ ∀ H', Same1 H H' → Q .non H'
def spCheckProgram : Sp := fun vs H Q _ => ∃ (a : Addr) (p : Prog), vs = [.ref a] ∧ ProgAt H a p ∧ Good p ∧ ∀ H', Same1 H H' → Q .non H'
abbrev sUsesWorth : Stmt := top 15
abbrev FUsesWorth (K : Frg) (mg : Str → Option Value) := Fd K mg "uses_worth" sUsesWorth ["row"]
def spUses : Sp := fun vs H Q _ => ∃ (a : Addr) (r : Row), vs = [.ref a] ∧ H a = some (.tup (rowVs r)) ∧ Q (.bl r.uses) H
theorem uses_in (r : Row) : inV (.str "worth") (r.parts.map V.str) = r.uses := by
  cases r <;> (dsimp only [Row.parts, Row.uses, List.map]; decide +kernel)
section
variable {P : Program} {w : World} {K : PySem.W.Frag} {mg : Str → Option Value} {base : Heap}
abbrev nHasShape : List Str := ["row", "word", "thing"]
theorem scHasShape : FnScope nHasShape ["row"] (defScope sHasShape) := ⟨rfl, rfl, rfl, by decide +kernel, rfl, by decide +kernel, by decide +kernel⟩
theorem ok_hasShape (c : FHasShape K mg) (cPart : FPart K mg) (cIsNumber : FIsNumber K mg) (T : Bt mg) (Z : Pt K w mg) : FnOk P w K mg base CX0 2 c.f c.fd ["row"] spHasShape := by
  have GPart : FnOk P w K mg base CX0 1 cPart.f cPart.fd ["whole", "at"] spPart := ok_part cPart T
  have GIsNumber : FnOk P w K mg base CX0 1 cIsNumber.f cIsNumber.fd ["thing"] spNum := ok_isNumber cIsNumber T
  refine c.F.ok scHasShape (fun vs H Q E h => ?_) (fun cdv A outer s H vs Q E hr h => ?_)
  · obtain ⟨a, r, rfl, _⟩ := h
    rfl
  · obtain ⟨a, r, rfl, ha, k⟩ := h
    obtain ⟨t, z1, z2, z3⟩ := Z.get r
    obtain ⟨ns, n1, n2⟩ := Row.ints r
    have rl := Row.vs_len r
    refine ⟨_, (pss_cons (ps_set (i := 1) scHasShape.nd rfl (Or.inl rfl) (pe_call GPart (hr.mono (by first | omega | decide)) (by rfl) cPart.m cPart.F.kp cPart.b .nil pass0 (pa_cons (pv 0) (pa_cons pe_int pa_nil))))
      (pss_cons (ps_if (PW.pt (pw_or (pt_not (pt_val (pe_callB call_isi (by rfl) T.isinstance (by decide +kernel) (pa_cons (pv 1) (pa_cons (pe_bltn (v := .ty "str") (by rfl) T.str (by decide +kernel) rfl) pa_nil))))) (pw_or1 (pt_cmpR (op_notIn_kd Z.kd) (pv 1) (pe_glob (v := .ref Z.d) rfl Z.m rfl) rfl))))
          (pss_one (ps_ret pe_bl))
          pss_nil)
      (pss_one (ps_ret (pe_and (pe_cmpR op_eq (pe_callB call_len_seq (by rfl) T.len PySem.boot_len (pa_cons (pv 0) pa_nil)) (pe_op op_add (pe_callB call_len_seq (by rfl) T.len PySem.boot_len (pa_cons (pe_ix ix_kdict (pe_glob (v := .ref Z.d) rfl Z.m rfl) (pv 1) (fun _ _ => rfl)) pa_nil)) pe_int) (nomark _)) (pe_one (pe_callB (cr_all rfl) (by rfl) T.all (by decide +kernel) (pa_cons (pe_lc (own := [("thing", 2)]) (g := gName 2) (tt := tYes) rfl scHasShape.nd (pi_tup (pe_slice sl_tupS (pv 0) (po_some pe_int) po_none)) (blkOk_by (N := nHasShape) (sc := defScope sHasShape) (by decide +kernel)) (fun _ _ _ _ _ => (pg_name (i := 2) scHasShape.nd rfl (Or.inl rfl))) (fun _ _ _ _ _ => pts_nil) (fun _ _ _ _ _ => (pe_call GIsNumber (hr.mono (by first | omega | decide)) (by rfl) cIsNumber.m cIsNumber.F.kp cIsNumber.b .nil pass0 (pa_cons (pv 2) pa_nil)))) pa_nil)))))))), ?_⟩
    refine ⟨_, rfl, a, _, 0, _, rfl, ha, Row.w0 r, ?_⟩
    refine ⟨_, rfl, _, _, _, _, true, rfl, .ty _, .base (.str _), kit_ty (by decide +kernel), _, rfl, ?_⟩
    refine ⟨_, rfl, _, _, rfl, rfl, z1, _, rfl, ?_⟩
    refine ⟨_, rfl, a, _, rfl, .inr (SqT.of ha), _, rfl, Z.d, _, _, rfl, rfl, z2, t, _, rfl, .inr (z3 H), _, _, rfl, rfl, rfl, _, rfl, ?_⟩
    rw [List.length_map, Row.parts_len, decide_eq_true (show V.int ((r.parts.length + 1 : Nat) : Int) = V.int ((r.parts.length : Int) + 1) from rfl)]
    refine iteT ⟨_, rfl, _, rfl, a, _, rfl, ha, fun t2 H2 s2 e2 => ?_⟩
    rw [drop1, n1] at e2
    refine ⟨t2, rfl, ⟨_, SqT.of e2⟩, fun D hD => ?_⟩
    refine lc_tup (K := K) (a := t2) (xs := ns.map V.int) (fun i H' => H' D = some (.lst ((List.replicate i true).map V.bl)) ∧ Same1 H2 H') ⟨upd_same, Same.new hD⟩ (fun i H' _ ⟨_, q⟩ => SqT.of (q _ _ e2)) ?_ ?_
    · rintro i x H3 hi ⟨hd, s3⟩
      have hin : i < ns.length := by
        have q := (List.getElem?_eq_some_iff.mp hi).1
        rwa [List.length_map] at q
      obtain ⟨z, rfl⟩ : ∃ z, x = V.int z := by
        rw [List.getElem?_map, List.getElem?_eq_getElem hin] at hi
        exact ⟨_, (Option.some.inj hi).symm⟩
      refine ⟨rfl, _, rfl, z, rfl, _, hd, szl (by rw [List.length_map, List.length_replicate]; rw [n2] at hin; have := Row.parts_len r; omega), ?_, Same.mut s3 hD⟩
      rw [upd_same, List.replicate_succ', List.map_append]
      rfl
    · rintro H3 ⟨hd, s3⟩
      refine ⟨D, _, rfl, SqL.of hd, ?_⟩
      rw [show (List.replicate (ns.map V.int).length true).all id = true by rw [List.all_eq_true]; intro x hx; rw [List.eq_of_mem_replicate hx]; rfl]
      exact k _ (s2.trans s3)
abbrev nCheckRow : List Str := ["row", "number", "counts", "name", "thing"]
theorem scCheckRow : FnScope nCheckRow ["row", "number", "counts"] (defScope sCheckRow) := ⟨rfl, rfl, rfl, by decide +kernel, rfl, by decide +kernel, by decide +kernel⟩
theorem ok_checkRow (c : FCheckRow K mg) (cHasShape : FHasShape K mg) (cPart : FPart K mg) (cIsNumber : FIsNumber K mg) (T : Bt mg) (Z : Pt K w mg) : FnOk P w K mg base CX0 3 c.f c.fd ["row", "number", "counts"] spCheckRow := by
  have GHasShape : FnOk P w K mg base CX0 2 cHasShape.f cHasShape.fd ["row"] spHasShape := ok_hasShape cHasShape cPart cIsNumber T Z
  refine c.F.ok scCheckRow (fun vs H Q E h => ?_) (fun cdv A outer s H vs Q E hr h => ?_)
  · obtain ⟨a, c, n, r, W, N, kvs, rfl, _⟩ := h
    rfl
  · obtain ⟨a, c, n, r, W, N, kvs, rfl, ha, ho, hc, hW, hN, k⟩ := h
    obtain ⟨t, z1, z2, z3⟩ := Z.get r
    refine ⟨_, (pss_cons (ps_if (pt_not (pt_val (pe_call GHasShape (hr.mono (by first | omega | decide)) (by rfl) cHasShape.m cHasShape.F.kp cHasShape.b .nil pass0 (pa_cons (pv 0) pa_nil))))
          (pss_one ps_never)
          pss_nil)
      (pss_one (ps_for PassesOwn.never rfl (RZ.pi_zipA (by rfl) T.zip (pa_cons (pe_ix ix_kdict (pe_glob (v := .ref Z.d) rfl Z.m rfl) (pe_ix ix_tup (pv 0) pe_int (fun _ _ => rfl)) (fun _ _ => rfl)) (pa_cons (pe_slice sl_tupS (pv 0) (po_some pe_int) po_none) pa_nil))) (pg_tup rfl (pgs_cons (pg_name (i := 3) scCheckRow.nd rfl (Or.inl rfl)) (pgs_cons (pg_name (i := 4) scCheckRow.nd rfl (Or.inl rfl)) pgs_nil)))
          (pss_one (ps_if (pt_not (pt_chain op_le op_lt pe_int (pv 4) (pe_dget (hu_of hr) (pv 2) (pv 3) (fun _ _ => rfl))))
              (pss_one ps_never)
              pss_nil))))), ?_⟩
    refine ⟨_, rfl, a, r, rfl, ha, fun H1 s1 => ⟨_, rfl, ?_⟩⟩
    have ha1 := s1 _ _ ha
    refine ⟨_, rfl, a, _, _, _, rfl, rfl, SqT.of ha1, atI_nat (j := 0) (Row.w0 r), Z.d, _, _, rfl, rfl, z2, _, rfl, _, rfl, a, _, rfl, ha1, fun t2 H2 s2 e2 => ?_⟩
    rw [drop1] at e2
    have hl : (r.parts.map V.str).length = ((rowVs r).drop 1).length := by
      rw [List.length_map, List.length_drop, Row.parts_len]
      omega
    have S2 := s1.trans s2
    refine ⟨t, t2, _, _, rfl, .inr ⟨z3 H2, SqT.of e2, RZ.for_zipT hl (fun i σ H' => ∃ x3 x4 : Option V, σ = [some (.ref a), some (.int n), some (.ref c), x3, x4] ∧ Same1 H2 H') ⟨none, none, rfl, Same.refl _⟩
      (fun i σ H' ⟨_, _, _, q⟩ => ⟨z3 H', SqT.of (q _ _ e2)⟩) ?_ ?_⟩⟩
    · rintro i x y T' σ H3 hx hy ⟨x3, x4, rfl, s3⟩ hT'
      have hi : i < r.parts.length := by
        have q := (List.getElem?_eq_some_iff.mp hx).1
        rwa [List.length_map] at q
      obtain ⟨z, g1, g2⟩ := Row.args r hi
      have ey : y = .int (z : Int) := by
        rw [hy] at g1
        exact Option.some.inj g1
      subst ey
      have hc3 := (S2.trans s3) _ _ hc
      refine alloc hT' fun H4 s4 e4 => ?_
      have hc4 := s4 _ _ hc3
      refine ⟨T', _, rfl, SqT.of e4, rfl, _, _, rfl, _, _, rfl, rfl, ?_⟩
      refine ⟨_, rfl, _, _, rfl, rfl, _, rfl, ?_⟩
      rw [decide_eq_true (show (0 : Int) ≤ (z : Int) by omega)]
      rw [List.getElem?_map] at hx
      rcases g2 ho with ⟨q1, q2⟩ | ⟨q1, q2⟩
      · rw [q1] at hx
        have ex : V.str "worth" = x := Option.some.inj hx
        subst ex
        refine iteT ⟨_, rfl, _, rfl, c, _, rfl, dget (k := kWo) hc4 hW, _, _, rfl, rfl, _, rfl, ?_⟩
        rw [decide_eq_true (show (z : Int) < (W : Int) by omega)]
        exact ⟨_, _, rfl, s3.trans s4⟩
      · rw [q1] at hx
        have ex : V.str "next" = x := Option.some.inj hx
        subst ex
        refine iteT ⟨_, rfl, _, rfl, c, _, rfl, dget (k := kNx) hc4 hN, _, _, rfl, rfl, _, rfl, ?_⟩
        rw [decide_eq_true (show (z : Int) < (N : Int) by omega)]
        exact ⟨_, _, rfl, s3.trans s4⟩
    · rintro σ H3 ⟨x3, x4, rfl, s3⟩
      exact k _ (S2.trans s3)
theorem k_WN : kWo ≠ kNx := by decide +kernel
abbrev nCheckProgram : List Str := ["program", "rows", "number", "row"]
theorem scCheckProgram : FnScope nCheckProgram ["program"] (defScope sCheckProgram) := ⟨rfl, rfl, rfl, by decide +kernel, rfl, by decide +kernel, by decide +kernel⟩
theorem ok_checkProgram (c : FCheckProgram K mg) (cCheckRow : FCheckRow K mg) (cCheckWorths : FCheckWorths K mg) (cHasShape : FHasShape K mg) (cPart : FPart K mg) (cIsBetween : FIsBetween K mg) (cIsNumber : FIsNumber K mg) (T : Bt mg) (C : Cn mg) (Z : Pt K w mg) : FnOk P w K mg base CX0 4 c.f c.fd ["program"] spCheckProgram := by
  have GCheckRow : FnOk P w K mg base CX0 3 cCheckRow.f cCheckRow.fd ["row", "number", "counts"] spCheckRow := ok_checkRow cCheckRow cHasShape cPart cIsNumber T Z
  have GCheckWorths : FnOk P w K mg base CX0 3 cCheckWorths.f cCheckWorths.fd ["worths"] spCheckWorths := ok_checkWorths cCheckWorths cIsBetween cIsNumber T C
  have GPart : FnOk P w K mg base CX0 1 cPart.f cPart.fd ["whole", "at"] spPart := ok_part cPart T
  refine c.F.ok scCheckProgram (fun vs H Q E h => ?_) (fun cdv A outer s H vs Q E hr h => ?_)
  · obtain ⟨a, p, rfl, _⟩ := h
    rfl
  · obtain ⟨a, p, rfl, ⟨wa, ra, bs, ha, hwa, hra, hR⟩, g, k⟩ := h
    have hbr := Paired.length hR
    have hR40 := g.r40
    have hR1 := g.r1
    refine ⟨_, (pss_cons (ps_expr (pe_call GCheckWorths (hr.mono (by first | omega | decide)) (by rfl) cCheckWorths.m cCheckWorths.F.kp cCheckWorths.b .nil pass0 (pa_cons (pe_call GPart (hr.mono (by first | omega | decide)) (by rfl) cPart.m cPart.F.kp cPart.b .nil pass0 (pa_cons (pv 0) (pa_cons pe_int pa_nil))) pa_nil)))
      (pss_cons (ps_set (i := 1) scCheckProgram.nd rfl (Or.inl rfl) (pe_call GPart (hr.mono (by first | omega | decide)) (by rfl) cPart.m cPart.F.kp cPart.b .nil pass0 (pa_cons (pv 0) (pa_cons pe_int pa_nil))))
      (pss_cons (ps_if (PW.pt (pw_or (pt_not (pt_val (pe_callB call_isi (by rfl) T.isinstance (by decide +kernel) (pa_cons (pv 1) (pa_cons (pe_bltn (v := .ty "tuple") (by rfl) T.tuple (by decide +kernel) rfl) pa_nil))))) (pw_or (pt_cmpR op_ne (pe_callB call_len_seq (by rfl) T.len PySem.boot_len (pa_cons (pv 0) pa_nil)) pe_int (nomark _)) (pw_or1 (pt_not (pt_chain op_le op_le pe_int (pe_callB call_len_seq (by rfl) T.len PySem.boot_len (pa_cons (pv 1) pa_nil)) (pe_glob rfl C.mR relI)))))))
          (pss_one ps_never)
          pss_nil)
      (pss_one (ps_for PassesOwn.never rfl (pi_enumT (by rfl) T.enumerate (pa_cons (pv 1) pa_nil)) (pg_tup rfl (pgs_cons (pg_name (i := 2) scCheckProgram.nd rfl (Or.inl rfl)) (pgs_cons (pg_name (i := 3) scCheckProgram.nd rfl (Or.inl rfl)) pgs_nil)))
          (pss_one (ps_expr (pe_call GCheckRow (hr.mono (by first | omega | decide)) (by rfl) cCheckRow.m cCheckRow.F.kp cCheckRow.b .nil pass0 (pa_cons (pv 3) (pa_cons (pv 2) (pa_cons (pe_disp (pps_cons pe_str (pe_callB call_len_seq (by rfl) T.len PySem.boot_len (pa_cons (pe_ix ix_tup (pv 0) pe_int (fun _ _ => rfl)) pa_nil)) (pps_cons pe_str (pe_callB call_len_seq (by rfl) T.len PySem.boot_len (pa_cons (pv 1) pa_nil)) pps_nil)) (by rfl) (by rfl) (fun z => by cases z) (by decide)) pa_nil))))))))))), ?_⟩
    refine ⟨_, rfl, a, _, 0, _, rfl, ha, rfl, wa, p.ws, rfl, hwa, g.w8, g.num, ?_⟩
    refine ⟨_, rfl, a, _, 1, _, rfl, ha, rfl, ?_⟩
    refine ⟨_, rfl, _, _, _, _, true, rfl, .ty _, .base (.tup hra), kit_ty (by decide +kernel), _, rfl, ?_⟩
    refine ⟨_, rfl, a, _, rfl, .inr (SqT.of ha), rfl, _, rfl, ?_⟩
    rw [decide_eq_true (show V.int ((([V.ref wa, V.ref ra] : List V).length : Nat) : Int) = V.int 2 from rfl)]
    refine iteF ⟨_, rfl, ra, _, rfl, .inr (SqT.of hra), _, _, rfl, rfl, _, rfl, ?_⟩
    rw [List.length_map, hbr, decide_eq_true (show (1 : Int) ≤ (p.rows.length : Int) by omega)]
    refine iteT ⟨_, _, rfl, rfl, _, rfl, ?_⟩
    rw [decide_eq_true (show (p.rows.length : Int) ≤ 40 by omega)]
    refine iteF ?_
    refine ⟨_, rfl, ra, _, rfl, SqT.of hra, for_enumT (K := K) (a := ra) (xs := bs.map V.ref) (fun i σ H' => ∃ x2 x3 : Option V, σ = [some (.ref a), some (.ref ra), x2, x3] ∧ Same1 H H') ⟨none, none, rfl, Same.refl _⟩
      (fun i σ H' ⟨_, _, _, q⟩ => SqT.of (q _ _ hra)) ?_ ?_⟩
    · rintro i x T' σ H1 hi ⟨x2, x3, rfl, s1⟩ hT'
      have hiR : i < p.rows.length := by
        have q := (List.getElem?_eq_some_iff.mp hi).1
        rwa [List.length_map, hbr] at q
      have hr1 : p.rows[i]? = some p.rows[i] := List.getElem?_eq_getElem hiR
      obtain ⟨b, hb1, hb2⟩ := Paired.getR hR hr1
      have ex : x = V.ref b := by
        rw [List.getElem?_map, hb1] at hi
        exact (Option.some.inj hi).symm
      subst ex
      refine alloc hT' fun H2 s2 e2 => ?_
      have S2 := s1.trans s2
      refine ⟨T', _, rfl, SqT.of e2, rfl, _, _, rfl, _, _, rfl, rfl, ?_⟩
      refine ⟨_, rfl, _, rfl, fun c1 hc1 => ?_⟩
      refine alloc hc1 fun H3 s3 e3 => ?_
      have S3 := S2.trans s3
      refine ⟨_, rfl, a, _, _, _, rfl, rfl, SqT.of (S3 _ _ ha), at0, wa, _, rfl, .inr (SqT.of (S3 _ _ hwa)), _, rfl, ra, _, rfl, .inr (SqT.of (S3 _ _ hra)), e3,
        [(kWo, .int (((p.ws.map V.int).length : Nat) : Int)), (kNx, .int (((bs.map V.ref).length : Nat) : Int))], rfl, (by show 2 ≤ 15; decide), ?_⟩
      have em : mergeK [] [(kWo, .int (((p.ws.map V.int).length : Nat) : Int)), (kNx, .int (((bs.map V.ref).length : Nat) : Int))] = putK (putK [] kWo (.int (p.ws.length : Int))) kNx (.int (p.rows.length : Int)) := by
        rw [List.length_map, List.length_map, hbr]
        rfl
      rw [em]
      have S4 : Same1 H (upd H3 c1 (.dK (putK (putK [] kWo (.int (p.ws.length : Int))) kNx (.int (p.rows.length : Int))))) := Same.mut S3 (S2.free hc1)
      refine ⟨b, c1, _, p.rows[i], p.ws.length, p.rows.length, putK (putK [] kWo (.int (p.ws.length : Int))) kNx (.int (p.rows.length : Int)), rfl, S4 _ _ hb2, g.ok _ (List.getElem_mem hiR), upd_same, ?_, ?_, fun H5 s5 => ⟨_, _, rfl, S4.trans s5⟩⟩
      · rw [valV_put, if_neg k_WN, valV_put, if_pos rfl]
      · rw [valV_put, if_pos rfl]
    · rintro σ H1 ⟨x2, x3, rfl, s1⟩
      exact k _ s1
theorem scUsesWorth : FnScope ["row"] ["row"] (defScope sUsesWorth) := ⟨rfl, rfl, rfl, by decide +kernel, rfl, by decide +kernel, by decide +kernel⟩
theorem ok_usesWorth (c : FUsesWorth K mg) (Z : Pt K w mg) : FnOk P w K mg base CX0 1 c.f c.fd ["row"] spUses := by
  refine c.F.ok scUsesWorth (fun vs H Q E h => ?_) (fun cdv A outer s H vs Q E hr h => ?_)
  · obtain ⟨a, r, rfl, _⟩ := h
    rfl
  · obtain ⟨a, r, rfl, ha, k⟩ := h
    obtain ⟨t, z1, z2, z3⟩ := Z.get r
    refine ⟨_, (pss_one (ps_ret (pe_cmpR op_in_seq pe_str (pe_ix ix_kdict (pe_glob (v := .ref Z.d) rfl Z.m rfl) (pe_ix ix_tup (pv 0) pe_int (fun _ _ => rfl)) (fun _ _ => rfl)) rfl))), ?_⟩
    refine ⟨_, rfl, a, _, _, _, rfl, rfl, SqT.of ha, atI_nat (j := 0) (Row.w0 r), Z.d, _, _, rfl, rfl, z2, t, _, rfl, .inr (z3 H), rfl, ?_, ?_⟩
    · rw [List.all_eq_true]
      intro x hx
      obtain ⟨y, _, rfl⟩ := List.mem_map.mp hx
      rfl
    · show Q (.bl (inV (.str "worth") (r.parts.map V.str))) H
      rw [uses_in]
      exact k
end
end DL
namespace DL
open PySem L2 DLR
structure Dk (K : Frg) (mg : Str → Option Value) (C : Addr) : Prop where
  cl : Cls K C
  nN : NoAttr K C "number"
  nW : NoAttr K C "worths"
  nS : NoAttr K C "said"
  m : mg "Desk" = some (.ref C)
abbrev fN : Str := "number"
abbrev fW : Str := "worths"
abbrev fS : Str := "said"
theorem f_NW : fN ≠ fW := by decide +kernel
theorem f_NS : fN ≠ fS := by decide +kernel
theorem f_WS : fW ≠ fS := by decide +kernel
structure DeskM (C : Addr) (H : Hp) (p aw as_ : Addr) (m : Mach) : Prop where
  ins : ∃ (dx : Addr) (fs : List (Str × V)), H p = some (.ins C dx fs) ∧ fs.length ≤ 100 ∧ fs.lookup fN = some (.int m.desk) ∧ fs.lookup fW = some (.ref aw) ∧ fs.lookup fS = some (.ref as_) ∧ (∀ x, x ≠ fN → x ≠ fW → x ≠ fS → fs.lookup x = none)
  ws : H aw = some (.lst (m.ws.map V.int))
  said : H as_ = some (.lst (m.said.map V.int))
  ne : aw ≠ as_
theorem DeskM.same {C : Addr} {H H' : Hp} {p aw as_ : Addr} {m : Mach} (h : DeskM C H p aw as_ m) (s : Same1 H H') : DeskM C H' p aw as_ m := by
  obtain ⟨⟨dx, fs, h1, h2⟩, h3, h4, h5⟩ := h
  exact ⟨⟨dx, fs, s _ _ h1, h2⟩, s _ _ h3, s _ _ h4, h5⟩
theorem put_len2 : ∀ {fs : List (Str × V)} {f : Str} {v x : V}, fs.lookup f = some x → (putF f v fs).length = fs.length
  | [], f, v, x, h => by cases h
  | (g, y) :: fs, f, v, x, h => by
    unfold putF
    by_cases e : g = f
    · rw [if_pos e]
      rfl
    · rw [if_neg e]
      have h' : fs.lookup f = some x := by
        rw [List.lookup_cons] at h
        rw [show (f == g) = false from beq_eq_false_iff_ne.mpr (fun z => e z.symm)] at h
        exact h
      show (putF f v fs).length + 1 = fs.length + 1
      rw [put_len2 h']
theorem DeskM.put {C : Addr} {H : Hp} {p aw as_ dx : Addr} {m : Mach} {fs : List (Str × V)} {z : Int} (h : DeskM C H p aw as_ m) (e : H p = some (.ins C dx fs)) : DeskM C (upd H p (.ins C dx (putF fN (.int z) fs))) p aw as_ { m with desk := z } := by
  obtain ⟨⟨dx', fs', h1, h2, h3, h4, h5, h9⟩, h6, h7, h8⟩ := h
  rw [e] at h1
  have q := Option.some.inj h1
  injection q with q1 q2 q3
  subst q2 q3
  have nw : aw ≠ p := ne_of h6 e (by intro z; cases z)
  have ns : as_ ≠ p := ne_of h7 e (by intro z; cases z)
  refine ⟨⟨dx, putF fN (.int z) fs, upd_same, by rw [put_len2 h3]; exact h2, ?_, ?_, ?_, fun x a b c => ?_⟩, by rw [upd_ne nw]; exact h6, by rw [upd_ne ns]; exact h7, h8⟩
  · rw [lookup_putF, if_pos rfl]
  · rw [lookup_putF, if_neg f_NW.symm]; exact h4
  · rw [lookup_putF, if_neg f_NS.symm]; exact h5
  · rw [lookup_putF, if_neg a]; exact h9 x a b c
theorem But.free {H H' : Hp} {p a : Addr} {o : HO} (b : But p H H') (e : H' p = some o) (h : H' a = none) : H a = none := by
  cases q : H a with
  | none => rfl
  | some u =>
    by_cases z : a = p
    · subst z; rw [e] at h; cases h
    · rw [b _ _ z q] at h; cases h
theorem putF_le {fs : List (Str × V)} {f : Str} {v : V} : (putF f v fs).length ≤ fs.length + 1 := by
  induction fs with
  | nil => exact Nat.le_refl _
  | cons e fs ih =>
    obtain ⟨g, y⟩ := e
    unfold putF
    split
    · exact Nat.le_succ _
    · exact Nat.succ_le_succ ih
theorem Row.wd3 (r : Row) : r.isWd "load" = (match r with | .load _ _ => true | _ => false) ∧ r.isWd "add" = (match r with | .add _ _ => true | _ => false) ∧ r.isWd "take" = (match r with | .take _ _ => true | _ => false) := by
  cases r with
  | load _ _ => exact (by decide +kernel : decide (V.str "load" = V.str "load") = true ∧ decide (V.str "load" = V.str "add") = false ∧ decide (V.str "load" = V.str "take") = false)
  | add _ _ => exact (by decide +kernel : decide (V.str "add" = V.str "load") = false ∧ decide (V.str "add" = V.str "add") = true ∧ decide (V.str "add" = V.str "take") = false)
  | take _ _ => exact (by decide +kernel : decide (V.str "take" = V.str "load") = false ∧ decide (V.str "take" = V.str "add") = false ∧ decide (V.str "take" = V.str "take") = true)
  | store _ _ => exact (by decide +kernel : decide (V.str "store" = V.str "load") = false ∧ decide (V.str "store" = V.str "add") = false ∧ decide (V.str "store" = V.str "take") = false)
  | say _ => exact (by decide +kernel : decide (V.str "say" = V.str "load") = false ∧ decide (V.str "say" = V.str "add") = false ∧ decide (V.str "say" = V.str "take") = false)
  | test _ _ => exact (by decide +kernel : decide (V.str "test" = V.str "load") = false ∧ decide (V.str "test" = V.str "add") = false ∧ decide (V.str "test" = V.str "take") = false)
  | stop => exact (by decide +kernel : decide (V.str "stop" = V.str "load") = false ∧ decide (V.str "stop" = V.str "add") = false ∧ decide (V.str "stop" = V.str "take") = false)
abbrev sDInit : Stmt := inClass (top 39) 0
abbrev sDStep : Stmt := inClass (top 39) 1
abbrev sDOnward : Stmt := inClass (top 39) 2
abbrev sDUse : Stmt := inClass (top 39) 3
def spDInit (C : Addr) : Sp := fun vs H Q _ => ∃ (p dx : Addr) (v : V), vs = [.ref p, v] ∧ H p = some (.ins C dx []) ∧
  ∀ as_ fs H', (∀ x o, x ≠ p → H x = some o → H' x = some o) → H as_ = none → H' p = some (.ins C dx fs) → fs.length ≤ 100 → fs.lookup fN = some (.int 0) → fs.lookup fW = some v → fs.lookup fS = some (.ref as_) → (∀ x, x ≠ fN → x ≠ fW → x ≠ fS → fs.lookup x = none) → H' as_ = some (.lst []) → Q .non H'
def spDUse (C : Addr) : Sp := fun vs H Q _ => ∃ (p aw as_ : Addr) (m : Mach) (r : Row) (x N : Nat), vs = [.ref p, .str r.word, .int (x : Int)] ∧ DeskM C H p aw as_ m ∧ MOk m ∧ r.uses = true ∧ (rowVs r)[1]? = some (.int (x : Int)) ∧ r.ok m.ws.length N ∧
  ∀ H', But3 p aw as_ H H' → DeskM C H' p aw as_ (stepM m r).1 → Q .non H'
def spDOnward (C : Addr) : Sp := fun vs H Q _ => ∃ (p aw as_ ra : Addr) (m : Mach) (r : Row) (N : Nat), vs = [.ref p, .ref ra] ∧ DeskM C H p aw as_ m ∧ MOk m ∧ m.said.length ≤ 9000 ∧ H ra = some (.tup (rowVs r)) ∧ r.uses = false ∧ r.ok m.ws.length N ∧
  ∀ H', But3 p aw as_ H H' → DeskM C H' p aw as_ (stepM m r).1 → Q (oV (stepM m r).2) H'
def spDStep (C : Addr) : Sp := fun vs H Q _ => ∃ (p aw as_ ra : Addr) (m : Mach) (r : Row) (N : Nat), vs = [.ref p, .ref ra] ∧ DeskM C H p aw as_ m ∧ MOk m ∧ m.said.length ≤ 9000 ∧ H ra = some (.tup (rowVs r)) ∧ r.ok m.ws.length N ∧
  ∀ H', But3 p aw as_ H H' → DeskM C H' p aw as_ (stepM m r).1 → Q (oV (stepM m r).2) H'
section
variable {P : Program} {w : World} {K : PySem.W.Frag} {mg : Str → Option Value} {base : Heap} {C0 : Addr}
theorem scDInit : FnScope ["self", "worths"] ["self", "worths"] (defScope sDInit) := ⟨rfl, rfl, rfl, by decide +kernel, rfl, by decide +kernel, by decide +kernel⟩
theorem ok_dinit {f : Addr} {fd : FuncData} (F : Fun K "__init__" "Desk.__init__" sDInit f fd) (T : Bt mg) (TC : Dk K mg C0) : FnOk P w K mg base CX0 1 f fd ["self", "worths"] (spDInit C0) := by
  refine F.ok scDInit (fun vs H Q E h => ?_) (fun cdv A outer s H vs Q E hr h => ?_)
  · obtain ⟨p, dx, v, rfl, _⟩ := h
    rfl
  · obtain ⟨p, dx, v, rfl, hp, k⟩ := h
    refine ⟨_, (pss_cons (ps_fld (pv 0) pe_int rfl)
      (pss_cons (ps_fld (pv 0) (pv 1) rfl)
      (pss_one (ps_fld (pv 0) (pe_lst pa_nil) rfl)))), ?_⟩
    refine ⟨_, rfl, p, C0, dx, _, rfl, hp, TC.cl, TC.nN, (by show 0 < 1000; decide), ?_⟩
    refine change fun H1 b1 e1 => ?_
    refine ⟨_, rfl, _, rfl, p, C0, dx, _, rfl, e1, TC.cl, TC.nW, (by show 1 < 1000; decide), ?_⟩
    refine change fun H3 b3 e3 => ?_
    refine ⟨Nat.zero_le _, fun as_ has => ?_⟩
    refine alloc has fun H4 s4 e4 => ?_
    have h4 := s4 _ _ e3
    have nas : as_ ≠ p := ne_of e4 h4 (by intro z; cases z)
    refine ⟨_, rfl, p, C0, dx, _, rfl, h4, TC.cl, TC.nS, (by show 2 < 1000; decide), ?_⟩
    refine k as_ _ _ (fun x o n e => ?_) ?_ upd_same ?_ ?_ ?_ ?_ (fun x a b c => ?_) (by rw [upd_ne nas]; exact e4)
    · rw [upd_ne n]
      exact s4 _ _ (b3 _ _ n (b1 _ _ n e))
    · exact (b1.trans b3).free e3 has
    · have h1 := putF_le (fs := putF fW v (putF fN (.int 0) [])) (f := fS) (v := .ref as_)
      have h2 := putF_le (fs := putF fN (.int 0) []) (f := fW) (v := v)
      have h3 := putF_le (fs := []) (f := fN) (v := .int 0)
      have h4 : ([] : List (Str × V)).length = 0 := rfl
      exact Nat.le_trans h1 (by omega)
    · rw [lookup_putF, if_neg f_NS, lookup_putF, if_neg f_NW, lookup_putF, if_pos rfl]
    · rw [lookup_putF, if_neg f_WS, lookup_putF, if_pos rfl]
    · rw [lookup_putF, if_pos rfl]
    · rw [lookup_putF, if_neg c, lookup_putF, if_neg b, lookup_putF, if_neg a]
      rfl
end
end DL
namespace DL
open PySem L2 DLR
theorem DeskM.get {C : Addr} {H : Hp} {p aw as_ : Addr} {m : Mach} (h : DeskM C H p aw as_ m) : ∃ (dx : Addr) (fs : List (Str × V)), H p = some (.ins C dx fs) ∧ fs.length ≤ 100 ∧ fs.lookup fN = some (.int m.desk) ∧ fs.lookup fW = some (.ref aw) ∧ fs.lookup fS = some (.ref as_) ∧ (∀ x, x ≠ fN → x ≠ fW → x ≠ fS → fs.lookup x = none) := h.ins
theorem Row.use_at {r : Row} (h : r.uses = true) {x W N : Nat} (e : (rowVs r)[1]? = some (.int (x : Int))) (ho : r.ok W N) : x < W ∧ ∃ n : Nat, n < N ∧ (rowVs r)[2]? = some (.int (n : Int)) ∧ (r = .load x n ∨ r = .add x n ∨ r = .take x n ∨ r = .store x n) := by
  cases r with
  | load w n => have q : w = x := Int.ofNat.inj (V.int.inj (Option.some.inj e)); subst q; exact ⟨ho.1, n, ho.2, rfl, .inl rfl⟩
  | add w n => have q : w = x := Int.ofNat.inj (V.int.inj (Option.some.inj e)); subst q; exact ⟨ho.1, n, ho.2, rfl, .inr (.inl rfl)⟩
  | take w n => have q : w = x := Int.ofNat.inj (V.int.inj (Option.some.inj e)); subst q; exact ⟨ho.1, n, ho.2, rfl, .inr (.inr (.inl rfl))⟩
  | store w n => have q : w = x := Int.ofNat.inj (V.int.inj (Option.some.inj e)); subst q; exact ⟨ho.1, n, ho.2, rfl, .inr (.inr (.inr rfl))⟩
  | say n => cases h
  | test a b => cases h
  | stop => cases h
section
variable {P : Program} {w : World} {K : PySem.W.Frag} {mg : Str → Option Value} {base : Heap} {C0 : Addr}
theorem scDUse : FnScope ["self", "word", "worth"] ["self", "word", "worth"] (defScope sDUse) := ⟨rfl, rfl, rfl, by decide +kernel, rfl, by decide +kernel, by decide +kernel⟩
theorem ok_duse {f : Addr} {fd : FuncData} (F : Fun K "use" "Desk.use" sDUse f fd) (cOnDesk : FOnDesk K mg) (T : Bt mg) (CD : Cd mg) (TC : Dk K mg C0) : FnOk P w K mg base CX0 2 f fd ["self", "word", "worth"] (spDUse C0) := by
  have GOnDesk : FnOk P w K mg base CX0 1 cOnDesk.f cOnDesk.fd ["number"] spRing := ok_onDesk cOnDesk CD
  refine F.ok scDUse (fun vs H Q E h => ?_) (fun cdv A outer s H vs Q E hr h => ?_)
  · obtain ⟨p, aw, as_, m, r, x, N, rfl, _⟩ := h
    rfl
  · obtain ⟨p, aw, as_, m, r, x, N, rfl, hM, hO, hu, hx, ho, k⟩ := h
    refine ⟨_, (pss_one (ps_if (pt_cmpR op_eq (pv 1) pe_str (nomark _))
          (pss_one (ps_fld (pv 0) (pe_ix ix_list (pe_fld (pv 0) rfl) (pv 2) (fun _ _ => rfl)) rfl))
          (pss_one (ps_if (pt_cmpR op_eq (pv 1) pe_str (nomark _))
              (pss_one (ps_fld (pv 0) (pe_call GOnDesk (hr.mono (by first | omega | decide)) (by rfl) cOnDesk.m cOnDesk.F.kp cOnDesk.b .nil pass0 (pa_cons (pe_op op_add (pe_fld (pv 0) rfl) (pe_ix ix_list (pe_fld (pv 0) rfl) (pv 2) (fun _ _ => rfl))) pa_nil)) rfl))
              (pss_one (ps_if (pt_cmpR op_eq (pv 1) pe_str (nomark _))
                  (pss_one (ps_fld (pv 0) (pe_call GOnDesk (hr.mono (by first | omega | decide)) (by rfl) cOnDesk.m cOnDesk.F.kp cOnDesk.b .nil pass0 (pa_cons (pe_op op_sub (pe_fld (pv 0) rfl) (pe_ix ix_list (pe_fld (pv 0) rfl) (pv 2) (fun _ _ => rfl))) pa_nil)) rfl))
                  (pss_one (ps_asg (pe_fld (pv 0) rfl) (pg_sub (pe_fld (pv 0) rfl) (pv 2) set_list))))))))), ?_⟩
    obtain ⟨hxw, n, hn, hn2, hcase⟩ := Row.use_at hu hx ho
    obtain ⟨dx, fs, h1, h2, h3, h4, h5, h9⟩ := hM.get
    have hat := (at_in hO hxw).1
    have hatV : (m.ws.map V.int)[x]? = some (.int (m.at x)) := by rw [List.getElem?_map, hat]; rfl
    obtain ⟨w1, w2, w3⟩ := Row.wd3 r
    refine ⟨_, rfl, rfl, r.isWd "load", rfl, ?_⟩
    rcases hcase with rfl | rfl | rfl | rfl
    · rw [w1]
      refine iteT ⟨_, rfl, p, _, _, _, _, rfl, h1, TC.cl, TC.nW, h4, _, rfl, aw, _, _, _, rfl, rfl, SqL.of hM.ws, atI_nat hatV, _, rfl, p, _, _, _, rfl, h1, TC.cl, TC.nN, Nat.lt_of_le_of_lt h2 (by decide), ?_⟩
      exact k _ But3.upd1 (hM.put h1)
    · rw [w1]
      refine iteF ⟨_, rfl, rfl, Row.isWd "add" (.add x n), rfl, ?_⟩
      rw [w2]
      refine iteT ⟨_, rfl, p, _, _, _, _, rfl, h1, TC.cl, TC.nN, h3, _, rfl, p, _, _, _, _, rfl, h1, TC.cl, TC.nW, h4, _, rfl, aw, _, _, _, rfl, rfl, SqL.of hM.ws, atI_nat hatV, _, _, rfl, rfl, _, rfl, _, rfl, p, _, _, _, rfl, h1, TC.cl, TC.nN, Nat.lt_of_le_of_lt h2 (by decide), ?_⟩
      exact k _ But3.upd1 (hM.put h1)
    · rw [w1]
      refine iteF ⟨_, rfl, rfl, Row.isWd "add" (.take x n), rfl, ?_⟩
      rw [w2]
      refine iteF ⟨_, rfl, rfl, Row.isWd "take" (.take x n), rfl, ?_⟩
      rw [w3]
      refine iteT ⟨_, rfl, p, _, _, _, _, rfl, h1, TC.cl, TC.nN, h3, _, rfl, p, _, _, _, _, rfl, h1, TC.cl, TC.nW, h4, _, rfl, aw, _, _, _, rfl, rfl, SqL.of hM.ws, atI_nat hatV, _, _, rfl, rfl, _, rfl, _, rfl, p, _, _, _, rfl, h1, TC.cl, TC.nN, Nat.lt_of_le_of_lt h2 (by decide), ?_⟩
      exact k _ But3.upd1 (hM.put h1)
    · rw [w1]
      refine iteF ⟨_, rfl, rfl, Row.isWd "add" (.store x n), rfl, ?_⟩
      rw [w2]
      refine iteF ⟨_, rfl, rfl, Row.isWd "take" (.store x n), rfl, ?_⟩
      rw [w3]
      refine iteF ⟨_, rfl, p, _, _, _, _, rfl, h1, TC.cl, TC.nN, h3, _, rfl, p, _, _, _, _, rfl, h1, TC.cl, TC.nW, h4, _, rfl, aw, _, _, x, rfl, rfl, hM.ws, ixN_nat (by rw [List.length_map]; exact hxw), ?_⟩
      refine k _ But3.upd2 ⟨⟨dx, fs, by rw [upd_ne (ne_of h1 hM.ws (by intro z; cases z))]; exact h1, h2, h3, h4, h5, h9⟩, ?_, by rw [upd_ne hM.ne.symm]; exact hM.said, hM.ne⟩
      rw [upd_same]
      show _ = some (HO.lst ((m.ws.set x m.desk).map V.int))
      rw [List.map_set]
theorem scDOnward : FnScope ["self", "row"] ["self", "row"] (defScope sDOnward) := ⟨rfl, rfl, rfl, by decide +kernel, rfl, by decide +kernel, by decide +kernel⟩
theorem ok_donward {f : Addr} {fd : FuncData} (F : Fun K "onward" "Desk.onward" sDOnward f fd) (T : Bt mg) (TC : Dk K mg C0) : FnOk P w K mg base CX0 1 f fd ["self", "row"] (spDOnward C0) := by
  refine F.ok scDOnward (fun vs H Q E h => ?_) (fun cdv A outer s H vs Q E hr h => ?_)
  · obtain ⟨p, aw, as_, ra, m, r, N, rfl, _⟩ := h
    rfl
  · obtain ⟨p, aw, as_, ra, m, r, N, rfl, hM, hO, hS, hra, hu, ho, k⟩ := h
    refine ⟨_, (pss_cons (ps_if (pt_cmpR op_eq (pe_ix ix_tup (pv 1) pe_int (fun _ _ => rfl)) pe_str (nomark _))
          (pss_one (ps_ret pe_non))
          pss_nil)
      (pss_cons (ps_if (pt_cmpR op_eq (pe_ix ix_tup (pv 1) pe_int (fun _ _ => rfl)) pe_str (nomark _))
          (pss_one (ps_ret (pe_ifExp (pt_cmpR op_eq (pe_fld (pv 0) rfl) pe_int (nomark _)) (pe_ix ix_tup (pv 1) pe_int (fun _ _ => rfl)) (pe_ix ix_tup (pv 1) pe_int (fun _ _ => rfl)))))
          pss_nil)
      (pss_cons (ps_expr (pe_bm PySem.F.plainAttrs_list PySem.F.slot_list_append PySem.F.type_list_append mt_append (pe_fld (pv 0) rfl) (pa_cons (pe_fld (pv 0) rfl) pa_nil)))
      (pss_one (ps_ret (pe_ix ix_tup (pv 1) pe_int (fun _ _ => rfl))))))), ?_⟩
    obtain ⟨dx, fs, h1, h2, h3, h4, h5, h9⟩ := hM.get
    obtain ⟨w1, w2, w3, w4⟩ := Row.wd_eq r
    refine ⟨_, rfl, ra, _, _, _, rfl, rfl, SqT.of hra, atI_nat (j := 0) (Row.w0 r), rfl, r.isWd "stop", rfl, ?_⟩
    cases r with
    | load w n => cases hu
    | add w n => cases hu
    | take w n => cases hu
    | store w n => cases hu
    | say n =>
      rw [w4]
      refine iteF ⟨_, rfl, ra, _, _, _, rfl, rfl, SqT.of hra, atI_nat (j := 0) (Row.w0 (.say n)), rfl, Row.isWd "test" (.say n), rfl, ?_⟩
      rw [w1]
      refine iteF ⟨_, rfl, p, _, _, _, _, rfl, h1, TC.cl, TC.nS, h5, .inl ⟨rfl, _, SqL.of hM.said⟩, _, rfl, p, _, _, _, _, rfl, h1, TC.cl, TC.nN, h3, as_, _, _, rfl, rfl, hM.said, szl (by rw [List.length_map]; omega), ?_⟩
      have hra2 : (upd H as_ (.lst (m.said.map V.int ++ [.int m.desk]))) ra = some (.tup (rowVs (.say n))) := by
        rw [upd_ne (ne_of hra hM.said (by intro z; cases z))]; exact hra
      refine ⟨_, rfl, ra, _, _, _, rfl, rfl, SqT.of hra2, at1, k _ But3.upd3 ⟨⟨dx, fs, by rw [upd_ne (ne_of h1 hM.said (by intro z; cases z))]; exact h1, h2, h3, h4, h5, h9⟩, by rw [upd_ne hM.ne]; exact hM.ws, ?_, hM.ne⟩⟩
      rw [upd_same]
      show _ = some (HO.lst ((m.said ++ [m.desk]).map V.int))
      rw [List.map_append]
      rfl
    | test a b =>
      rw [w4]
      refine iteF ⟨_, rfl, ra, _, _, _, rfl, rfl, SqT.of hra, atI_nat (j := 0) (Row.w0 (.test a b)), rfl, Row.isWd "test" (.test a b), rfl, ?_⟩
      rw [w1]
      refine iteT ⟨_, rfl, p, _, _, _, _, rfl, h1, TC.cl, TC.nN, h3, rfl, _, rfl, ?_⟩
      by_cases c : m.desk = 0
      · rw [decide_eq_true (show V.int m.desk = V.int 0 by rw [c])]
        refine iteT ⟨_, rfl, ra, _, _, _, rfl, rfl, SqT.of hra, at1, ?_⟩
        have q := k _ (But3.of (Same.refl _)) hM
        show Q (V.int (a : Int)) H
        have e : (stepM m (.test a b)).2 = some a := by show some (if m.desk = 0 then a else b) = _; rw [if_pos c]
        rw [e] at q
        exact q
      · rw [decide_eq_false (show ¬ V.int m.desk = V.int 0 from fun z => c (V.int.inj z))]
        refine iteF ⟨_, rfl, ra, _, _, _, rfl, rfl, SqT.of hra, at2, ?_⟩
        have q := k _ (But3.of (Same.refl _)) hM
        show Q (V.int (b : Int)) H
        have e : (stepM m (.test a b)).2 = some b := by show some (if m.desk = 0 then a else b) = _; rw [if_neg c]
        rw [e] at q
        exact q
    | stop =>
      rw [w4]
      exact iteT (k _ (But3.of (Same.refl _)) hM)
theorem scDStep : FnScope ["self", "row"] ["self", "row"] (defScope sDStep) := ⟨rfl, rfl, rfl, by decide +kernel, rfl, by decide +kernel, by decide +kernel⟩
theorem ok_dstep {f : Addr} {fd : FuncData} {fu : Addr} {fdu : FuncData} {fo : Addr} {fdo : FuncData} (F : Fun K "step" "Desk.step" sDStep f fd) (FU : Fun K "use" "Desk.use" sDUse fu fdu) (mUse : Meth K C0 "use" fu) (bUse : Binds K fdu ["self", "word", "worth"] [])
    (FO : Fun K "onward" "Desk.onward" sDOnward fo fdo) (mOnward : Meth K C0 "onward" fo) (bOnward : Binds K fdo ["self", "row"] []) (cOnDesk : FOnDesk K mg) (cUsesWorth : FUsesWorth K mg) (T : Bt mg) (CD : Cd mg) (Z : Pt K w mg) (TC : Dk K mg C0) : FnOk P w K mg base CX0 3 f fd ["self", "row"] (spDStep C0) := by
  have GUse : FnOk P w K mg base CX0 2 fu fdu ["self", "word", "worth"] (spDUse C0) := ok_duse FU cOnDesk T CD TC
  have GOnward : FnOk P w K mg base CX0 1 fo fdo ["self", "row"] (spDOnward C0) := ok_donward FO T TC
  have GUsesWorth : FnOk P w K mg base CX0 1 cUsesWorth.f cUsesWorth.fd ["row"] spUses := ok_usesWorth cUsesWorth Z
  refine F.ok scDStep (fun vs H Q E h => ?_) (fun cdv A outer s H vs Q E hr h => ?_)
  · obtain ⟨p, aw, as_, ra, m, r, N, rfl, _⟩ := h
    rfl
  · obtain ⟨p, aw, as_, ra, m, r, N, rfl, hM, hO, hS, hra, ho, k⟩ := h
    refine ⟨_, (pss_cons (ps_if (pt_val (pe_call GUsesWorth (hr.mono (by first | omega | decide)) (by rfl) cUsesWorth.m cUsesWorth.F.kp cUsesWorth.b .nil pass0 (pa_cons (pv 1) pa_nil)))
          (pss_cons (ps_expr (pe_meth (pv 0) TC.cl mUse GUse (hr.mono (by first | omega | decide)) bUse .nil pass0 (pa_cons (pe_ix ix_tup (pv 1) pe_int (fun _ _ => rfl)) (pa_cons (pe_ix ix_tup (pv 1) pe_int (fun _ _ => rfl)) pa_nil))))
          (pss_one (ps_ret (pe_ix ix_tup (pv 1) pe_int (fun _ _ => rfl)))))
          pss_nil)
      (pss_one (ps_ret (pe_meth (pv 0) TC.cl mOnward GOnward (hr.mono (by first | omega | decide)) bOnward .nil pass0 (pa_cons (pv 1) pa_nil))))), ?_⟩
    obtain ⟨dx, fs, h1, h2, h3, h4, h5, h9⟩ := hM.get
    refine ⟨_, rfl, ra, r, rfl, hra, _, rfl, ?_⟩
    cases hu : r.uses with
    | true =>
      have h01 : ∃ x : Nat, (rowVs r)[1]? = some (.int (x : Int)) := by
        cases r <;> first | exact ⟨_, rfl⟩ | cases hu
      obtain ⟨x, hx⟩ := h01
      obtain ⟨hxw, n, hn, hn2, hcase⟩ := Row.use_at hu hx ho
      refine iteT ⟨_, rfl, p, dx, fs, rfl, h1, h9 _ (by decide +kernel) (by decide +kernel) (by decide +kernel), _, rfl, ra, _, _, _, rfl, rfl, SqT.of hra, atI_nat (j := 0) (Row.w0 r), _, rfl, ra, _, _, _, rfl, rfl, SqT.of hra, atI_nat (j := 1) hx, p, aw, as_, m, r, x, N, rfl, hM, hO, hu, hx, ho, fun H' b' m' => ?_⟩
      have hnp : ra ≠ p := ne_of hra h1 (by intro z; cases z)
      have hnw : ra ≠ aw := ne_of hra hM.ws (by intro z; cases z)
      have hns : ra ≠ as_ := ne_of hra hM.said (by intro z; cases z)
      refine ⟨_, rfl, ra, _, _, _, rfl, rfl, SqT.of (b' _ _ hnp hnw hns hra), atI_nat (j := 2) hn2, ?_⟩
      have q := k H' b' m'
      rcases hcase with rfl | rfl | rfl | rfl <;> exact q
    | false =>
      exact iteF ⟨_, rfl, p, dx, fs, rfl, h1, h9 _ (by decide +kernel) (by decide +kernel) (by decide +kernel), _, rfl, p, aw, as_, ra, m, r, N, rfl, hM, hO, hS, hra, hu, ho, k⟩
end
structure DkM (K : Frg) (mg : Str → Option Value) where
  C : Addr
  d : Dk K mg C
  fi : Addr
  fdi : FuncData
  FI : Fun K "__init__" "Desk.__init__" sDInit fi fdi
  bI : Binds K fdi ["self", "worths"] []
  mkd : Mk K C fi
  fs : Addr
  fds : FuncData
  FS : Fun K "step" "Desk.step" sDStep fs fds
  bS : Binds K fds ["self", "row"] []
  mS : Meth K C "step" fs
  fu : Addr
  fdu : FuncData
  FU : Fun K "use" "Desk.use" sDUse fu fdu
  bU : Binds K fdu ["self", "word", "worth"] []
  mU : Meth K C "use" fu
  fo : Addr
  fdo : FuncData
  FO : Fun K "onward" "Desk.onward" sDOnward fo fdo
  bO : Binds K fdo ["self", "row"] []
  mO : Meth K C "onward" fo
end DL
namespace DLR
open PySem PySem.Spec PyProof.Rows L2
/-! ### set(xs) of a list or a tuple of whole numbers; its rules over the layer -/
def newSet (w : World) : Obj := { cls := .type "set", dict := none, data := .set #[] 0 (.fresh 0 0 (!w.params.followText "set-order")) }
def SetMade (w : World) (s : Shared) (ns : List Int) (v : Value) (s2 : Shared) : Prop := v = .none ∧ ∃ (h2 : Heap) (tk c : Nat), s2 = { s with heap := h2, toks := tk } ∧ SetR w h2 s.heap.objs.size (fun j => decide (j ∈ ns)) c ∧ c ≤ ns.length ∧ ∀ b o, s.heap.get? b = some o → h2.get? b = some o
section
variable {P : Program} {w : World} {A : Around} {E : Value → Shared → Prop} {s : Shared}
set_option maxHeartbeats 3200000 in
theorem set_of_list {l : Addr} {items : Array Value} (ns : List Int) {Q : Value → Shared → Prop} (hh : A.handled = none) (hl : s.heap.IsList l items) (hit : IntsAre items.toList ns) (room : ns.length + 1 < scanBound)
    (k : ∀ (h2 : Heap) (tk c : Nat), SetR w h2 s.heap.objs.size (fun j => decide (j ∈ ns)) c → c ≤ ns.length → (∀ b o, s.heap.get? b = some o → h2.get? b = some o) → Q (.ref s.heap.objs.size) { s with heap := h2, toks := tk }) :
    wpAny (model P w) A (call (.type "set") [.ref l]) Q E s := by
  have size_eq : items.size = ns.length := by simpa using IntsAre.length hit
  obtain ⟨_, _, mro⟩ := F.called_set.mro
  have made := F.called_set.made
  have sub := F.called_set.sub
  have nt := F.called_set.notType
  have cc := F.called_set.canCreate
  have tc := F.typeCall_set_1 (.ref l)
  refine wpAny_call (codeAny_of_tree (show wpAny _ _ (callAny (.type "set") _) _ _ _ from wpAny_pure ⟨Code.quiet_builtin _ (by decide +kernel), codeAny_builtin F.entry_type_call ?_⟩))
  rw [Around.under_plain (weight_type_call_type "set" [.ref l] []) rfl]
  repeat (any_goals (first | assumption | wp_step))

  refine codeAny_mono (code_set_led1 (.ref l) (E := E) (Q₁ := fun o s1 => o = .ref s.heap.objs.size ∧ s1 = { s with heap := s.heap.push (newSet w) }) ⟨rfl, rfl⟩) fun r s1 hr => ?_
  match r, hr with
  | .error e, hr => exact hr
  | .ok (.ret o), hr =>
    obtain ⟨rfl, rfl⟩ := hr
    have at0 : (s.heap.push (newSet w)).get? s.heap.objs.size = some (newSet w) := Heap.get?_push_size _ rfl
    have ty : Shared.TypeIs { s with heap := s.heap.push (newSet w) } (.ref s.heap.objs.size) "set" := ⟨_, at0, rfl⟩
    have il := F.called_set.init.lookup
    have ib := F.called_set.init.bind (.ref s.heap.objs.size)
    repeat (any_goals (first | assumption | wp_step))

    refine codeAny_mono (codeAny_call_builtin (R := wants (SetMade w s ns) E) F.called_set.init.plain F.entry_set_init (check_set_init_1 ty ?_)) fun r2 s2 hr2 => ?_
    · obtain ⟨ol, hol, rfl', nl, hdl⟩ := hl
      obtain ⟨cls0, dict0, data0, slots0⟩ := ol
      dsimp only at rfl' hdl
      subst rfl' hdl
      have ol2 : (s.heap.push (newSet w)).get? l = some { cls := .type "list", dict := dict0, data := .seq items nl, slots := slots0 } := Heap.get?_push_of_some _ hol
      have s_ls := F.sub_list_set
      have s_lf := F.sub_list_frozenset
      have ne_d : (Value.type "list" == Value.type "dict") = false := by decide
      have isl : (s.heap.push (newSet w)).IsList l items := ⟨_, ol2, rfl, nl, rfl⟩
      unfold Builtin.«set.__init__» noKeywords Builtin.Frozenset.updateFrom
      generalize hPI : pyIter = PI
      wp_walk
      subst hPI

      refine wpAny_pyIter_list isl (wpAny_bind (wpAny_runValue ?_))
      have low : l < s.heap.objs.size := Heap.lt_size hol
      have h_in : A.in1.in1.in1.handled = none := by simp [hh]
      have sz1 : (s.heap.push (newSet w)).objs.size = s.heap.objs.size + 1 := Heap.size_push ..
      have neI : l ≠ (s.heap.push (newSet w)).objs.size := Nat.ne_of_lt (by rw [sz1]; exact Nat.lt_succ_of_lt low)
      have out0 : s.heap.objs.size ∉ [(s.heap.push (newSet w)).objs.size, l] := fun q => by
        rcases List.mem_cons.mp q with e | e
        · exact Nat.ne_of_lt (by rw [sz1]; exact Nat.lt_succ_self _) e
        · exact Nat.ne_of_gt low (List.mem_singleton.mp e)
      have vals : ∀ (i : Nat) (v : Value), items[i]? = some v → ∃ k t, ns[i]? = some k ∧ v = .int k t := fun i v hv => by
        have lt : i < ns.length := size_eq ▸ (Array.getElem?_eq_some_iff.mp hv).1
        obtain ⟨t, e⟩ := IntsAre.int_at hit i v (by rw [Array.getElem?_toList]; exact hv)
        refine ⟨ns[i], t, List.getElem?_eq_getElem lt, e.trans ?_⟩
        rw [List.getD_eq_getElem?_getD, List.getElem?_eq_getElem lt]
        rfl
      refine set_update_ints ((Walks.list h_in _ l neI items).toS) s.heap.objs.size out0 ns size_eq room vals (items.size - 0) 0 _ (by omega) (Nat.zero_le _) ⟨⟨_, Heap.get?_push_size _ rfl, rfl, rfl⟩, isl.push _⟩ ⟨0, Nat.le_refl 0, setR_new_at (Heap.get?_push_of_some _ at0)⟩ ?_
      intro s3 c3 mv hc3 set3
      have g3 := mv.gens
      have d3 := mv.drawn
      have o3 := mv.os
      have m3 := mv.heap
      obtain ⟨hp3, gs3, dr3, tk3, os3⟩ := s3
      have g3 : gs3 = s.gens := g3
      have d3 : dr3 = s.drawn := d3
      have o3 : os3 = s.os := o3
      subst g3 d3 o3
      refine show wpAny _ _ _ _ _ _ from wpAny_pure (show wpAny _ _ (ret Value.none) _ _ _ from wpAny_pure ⟨rfl, hp3, tk3, c3, rfl, set3, size_eq ▸ hc3, fun b o e => ?_⟩)
      have b0 : b < s.heap.objs.size := Heap.lt_size e
      refine m3 b o (fun q => ?_) (Heap.get?_push_of_some _ (Heap.get?_push_of_some _ e))
      rcases List.mem_cons.mp q with e2 | e2
      · exact Nat.ne_of_lt b0 e2
      · exact Nat.ne_of_lt (by rw [sz1]; exact Nat.lt_succ_of_lt b0) (List.mem_singleton.mp e2)
    · match r2, hr2 with
      | .error e, q => exact q
      | .ok (.ret v), q =>
        obtain ⟨rfl, h2, tk, c, rfl, q1, q2, q3⟩ := q
        repeat (any_goals (first | assumption | wp_step))
        exact k _ _ _ q1 q2 q3
      | .ok .next, q => exact q.elim
      | .ok .brk, q => exact q.elim
      | .ok .cont, q => exact q.elim
  | .ok .next, hr => exact hr.elim
  | .ok .brk, hr => exact hr.elim
  | .ok .cont, hr => exact hr.elim
end
end DLR
namespace DLR
open PySem PySem.Spec PyProof.Rows L2
def rSetL (K : PySem.W.Frag) (w : World) : List V → Hp → VK → Prop := fun vs H Q => ∃ (l : Addr) (ns : List Int), vs = [V.ref l] ∧ SqL K H l (ns.map V.int) ∧ ns.length < 60 ∧
  ∀ p c, c ≤ ns.length → H p = none → Q (.ref p) (upd H p (SetO w p (fun j => decide (j ∈ ns)) c))
def rSetT (K : PySem.W.Frag) (w : World) : List V → Hp → VK → Prop := fun vs H Q => ∃ (l : Addr) (ns : List Int), vs = [V.ref l] ∧ SqT K H l (ns.map V.int) ∧ ns.length < 60 ∧
  ∀ p c, c ≤ ns.length → H p = none → Q (.ref p) (upd H p (SetO w p (fun j => decide (j ∈ ns)) c))
theorem scan60 {n : Nat} (h : n < 60) : n + 1 < scanBound := Nat.lt_of_lt_of_le (Nat.succ_lt_succ h) (by decide)
section
variable {X : Cx}
theorem cr_setL (hc : X.calm = true) : CallR X (.type "set") (rSetL X.K X.w) := by
  intro pins s σ H vs us Q I r h
  obtain ⟨l, ns, rfl, hs, hb, q⟩ := h
  rw [Vals.ref1 r]
  obtain ⟨its, rv, pl, hz⟩ := I.list hs
  refine set_of_list ns (I.ok.hd hc) pl.isList (by simpa using rv.ints) (scan60 hb) fun h2 tk c R hc2 k => ?_
  exact ⟨.ref s.heap.objs.size, _, I.laid (t' := tk) k (Nat.le_refl _) (setO_new R), rfl, q _ c hc2 (I.hok.fresh (Nat.le_refl _))⟩
theorem cr_setT (hc : X.calm = true) : CallR X (.type "set") (rSetT X.K X.w) := by
  intro pins s σ H vs us Q I r h
  obtain ⟨l, ns, rfl, hs, hb, q⟩ := h
  rw [Vals.ref1 r]
  obtain ⟨its, rv, ⟨o, ho, hcl, n, hd⟩, _⟩ := I.tuple hs
  refine call_set_tupI (items := its.toArray) ns (I.ok.hd hc) ⟨o, ho, hcl, n, hd⟩ (by simpa using rv.ints) (scan60 hb) fun h2 tk c R hc2 k => ?_
  exact ⟨.ref s.heap.objs.size, _, I.laid (t' := tk) k (Nat.le_refl _) (setO_new R), rfl, q _ c hc2 (I.hok.fresh (Nat.le_refl _))⟩
end
theorem rise_uniq : ∀ {l m : List Int}, l.Pairwise (· < ·) → m.Pairwise (· < ·) → (∀ x, x ∈ l ↔ x ∈ m) → l = m
  | [], [], _, _, _ => rfl
  | [], y :: m, _, _, h => absurd ((h y).mpr List.mem_cons_self) (by simp)
  | x :: l, [], _, _, h => absurd ((h x).mp List.mem_cons_self) (by simp)
  | x :: l, y :: m, hl, hm, h => by
    have h1 := List.pairwise_cons.mp hl
    have h2 := List.pairwise_cons.mp hm
    have e : x = y := by
      have a := (h x).mp List.mem_cons_self
      have b := (h y).mpr List.mem_cons_self
      rcases List.mem_cons.mp a with e | e
      · exact e
      · rcases List.mem_cons.mp b with e2 | e2
        · exact e2.symm
        · have := h2.1 x e
          have := h1.1 y e2
          omega
    subst e
    rw [rise_uniq h1.2 h2.2 fun z => ⟨fun hz => ?_, fun hz => ?_⟩]
    · rcases List.mem_cons.mp ((h z).mp (List.mem_cons_of_mem _ hz)) with e | e
      · have := h1.1 z hz
        omega
      · exact e
    · rcases List.mem_cons.mp ((h z).mpr (List.mem_cons_of_mem _ hz)) with e | e
      · have := h2.1 z hz
        omega
      · exact e
end DLR
namespace DL
open PySem L2 DLR
/-! ### layings -/
structure Lay where
  wide : Nat
  places : List Nat
  homes : List (List Nat)
abbrev HomesAt (H : Hp) (bs : List Addr) (hs : List (List Nat)) : Prop := Paired (fun b h => H b = some (.tup (h.map nI))) bs hs
def LayAt (H : Hp) (a : Addr) (y : Lay) : Prop :=
  ∃ (pa ha : Addr) (bs : List Addr), H a = some (.tup [nI y.wide, .ref pa, .ref ha]) ∧ H pa = some (.tup (y.places.map nI)) ∧ H ha = some (.tup (bs.map V.ref)) ∧ HomesAt H bs y.homes
theorem HomesAt.kp {H H' : Hp} {bs : List Addr} {hs : List (List Nat)} (h : HomesAt H bs hs) (k : Kp H H') : HomesAt H' bs hs := Paired.mapP h fun b x e => k _ _ e
theorem LayAt.kp {H H' : Hp} {a : Addr} {y : Lay} (h : LayAt H a y) (k : Kp H H') : LayAt H' a y := by
  obtain ⟨pa, ha, bs, h1, h2, h3, h4⟩ := h
  exact ⟨pa, ha, bs, k _ _ h1, k _ _ h2, k _ _ h3, h4.kp k⟩
structure HomeOk (wide : Nat) (h : List Nat) : Prop where
  l1 : 1 ≤ h.length
  l3 : h.length ≤ 3
  up : h.Pairwise (· < ·)
  lt : ∀ x ∈ h, x < wide
structure LayOk (p : Prog) (y : Lay) : Prop where
  w2 : 2 ≤ y.wide
  w24 : y.wide ≤ 24
  pl : y.places.length = p.rows.length
  pok : ∀ x ∈ y.places, x < y.wide
  hl : y.homes.length = p.ws.length
  hok : ∀ h ∈ y.homes, HomeOk y.wide h
structure Bs (mg : Str → Option Value) : Prop where
  set : mg "set" = none
theorem rise_nat {ns : List Int} (h0 : ∀ x ∈ ns, 0 ≤ x) (up : ns.Pairwise (· < ·)) : ∃ h : List Nat, ns.map V.int = h.map nI ∧ h.length = ns.length ∧ h.Pairwise (· < ·) ∧ (∀ x ∈ h, (x : Int) ∈ ns) := by
  refine ⟨ns.map Int.toNat, ?_, List.length_map _, ?_, fun x hx => ?_⟩
  · rw [List.map_map]
    refine List.map_congr_left fun x hx => ?_
    show V.int x = V.int ((x.toNat : Nat) : Int)
    rw [Int.toNat_of_nonneg (h0 x hx)]
  · rw [List.pairwise_map]
    refine up.imp_of_mem fun {a b} ha hb h => ?_
    have := h0 a ha
    have := h0 b hb
    omega
  · obtain ⟨z, hz, rfl⟩ := List.mem_map.mp hx
    rw [Int.toNat_of_nonneg (h0 z hz)]
    exact hz
abbrev sLaying : Stmt := top 62
abbrev pLaying : List Str := ["_law_d", "_law_program", "_law_most"]
abbrev nLaying : List Str := ["_law_d", "_law_program", "_law_most", "_law_wide", "_law_places", "_law_homes", "_law_worth", "_law_some", "_law_row", "_law_k"]
abbrev FLaying (K : Frg) (mg : Str → Option Value) := Fd K mg "_law_laying" sLaying pLaying
def spLaying (K : Frg) : Sp := fun vs H Q _ => ∃ (d sa : Addr) (ns : List Int) (pa : Addr) (p : Prog) (most : Int), vs = [.ref d, .ref pa, .int most] ∧ Ent K H d sa ns ∧ ProgAt H pa p ∧ Good p ∧ 1 ≤ most ∧ most ≤ 3 ∧
  ∀ a y H', Dc K H H' d sa ns → LayAt H' a y → LayOk p y → (∀ h ∈ y.homes, (h.length : Int) ≤ most) → Q (.ref a) H'
section
variable {P : Program} {w : World} {K : PySem.W.Frag} {mg : Str → Option Value} {base : Heap}
theorem scLaying : FnScope nLaying pLaying (defScope sLaying) := ⟨rfl, rfl, rfl, by decide +kernel, rfl, by decide +kernel, by decide +kernel⟩
theorem ok_laying (c : FLaying K mg) (cNext : FNext K mg) (T : Bt mg) (TS : Bs mg) : FnOk P w K mg base CX0 2 c.f c.fd pLaying (spLaying K) := by
  have GNext : FnOk P w K mg base CX0 1 cNext.f cNext.fd ["_law_dice_here", "_law_many"] (spNext K) := ok_next cNext.F T
  refine c.F.ok scLaying (fun vs H Q E h => ?_) (fun cdv A outer s H vs Q E hr h => ?_)
  · obtain ⟨d, sa, ns, pa, p, most, rfl, _⟩ := h
    rfl
  · obtain ⟨d, sa, ns, pa, p, most, rfl, hE, ⟨wa, ra, bs, hpa, hwa, hra, hR⟩, g, m1, m3, kq⟩ := h
    have hbr := Paired.length hR
    have hR40 := g.r40
    have hW8 := g.w8
    refine ⟨_, (pss_cons (ps_set (i := 3) scLaying.nd rfl (Or.inr rfl) (pe_op op_add pe_int (pe_call GNext (hr.mono (by first | omega | decide)) (by rfl) cNext.m cNext.F.kp cNext.b .nil pass0 (pa_cons (pv 0) (pa_cons (pe_ix ix_list (pe_lst (pa_cons pe_int (pa_cons pe_int pa_nil))) (pe_call GNext (hr.mono (by first | omega | decide)) (by rfl) cNext.m cNext.F.kp cNext.b .nil pass0 (pa_cons (pv 0) (pa_cons pe_int pa_nil))) (fun _ _ => rfl)) pa_nil)))))
      (pss_cons (ps_set (i := 4) scLaying.nd rfl (Or.inl rfl) (pe_callTy call_tuple_of (by rfl) T.tuple (by decide +kernel) (pa_cons (pe_lc (own := [("_law_row", 8)]) (g := gName 8) (tt := tYes) rfl scLaying.nd (pi_tup (pe_ix ix_tup (pv 1) pe_int (fun _ _ => rfl))) (blkOk_by (N := nLaying) (sc := defScope sLaying) (by decide +kernel)) (fun _ _ _ _ _ => (pg_name (i := 8) scLaying.nd rfl (Or.inl rfl))) (fun _ _ _ _ _ => pts_nil) (fun _ _ _ _ _ => (pe_call GNext (hr.mono (by first | omega | decide)) (by rfl) cNext.m cNext.F.kp cNext.b .nil pass0 (pa_cons (pv 0) (pa_cons (pv 3) pa_nil))))) pa_nil)))
      (pss_cons (ps_set (i := 5) scLaying.nd rfl (Or.inl rfl) (pe_lst pa_nil))
      (pss_cons (ps_for PassesOwn.never rfl (pi_tup (pe_ix ix_tup (pv 1) pe_int (fun _ _ => rfl))) (pg_name (i := 6) scLaying.nd rfl (Or.inl rfl))
          (pss_cons (ps_setLc (i := 7) (own := [("_law_k", 9)]) (g := gName 9) (tt := tYes) rfl scLaying.nd rfl rfl (sw_true rfl rfl rfl (by decide +kernel)) (pi_range1 rfl T.range (pa_cons (pe_op op_add pe_int (pe_call GNext (hr.mono (by first | omega | decide)) (by rfl) cNext.m cNext.F.kp cNext.b .nil pass0 (pa_cons (pv 0) (pa_cons (pv 2) pa_nil)))) pa_nil)) (blkOk_by (N := nLaying) (sc := defScope sLaying) (by decide +kernel)) (fun _ _ _ _ _ => (pg_name (i := 9) scLaying.nd rfl (Or.inl rfl))) (fun _ _ _ _ _ => pts_nil) (fun _ _ _ _ _ => (pe_call GNext (hr.mono (by first | omega | decide)) (by rfl) cNext.m cNext.F.kp cNext.b .nil pass0 (pa_cons (pv 0) (pa_cons (pv 3) pa_nil)))))
          (pss_one (ps_expr (pe_bm PySem.F.plainAttrs_list PySem.F.slot_list_append PySem.F.type_list_append mt_append (pv 5) (pa_cons (pe_callTy call_tuple_of (by rfl) T.tuple (by decide +kernel) (pa_cons (pe_callB (cr_sortedSet rfl) (by rfl) T.sorted (by decide +kernel) (pa_cons (pe_callTy (cr_setL rfl) (by rfl) TS.set (by decide +kernel) (pa_cons (pv 7) pa_nil)) pa_nil)) pa_nil)) pa_nil))))))
      (pss_one (ps_ret (pe_tup (pa_cons (pv 3) (pa_cons (pv 4) (pa_cons (pe_callTy call_tuple_of (by rfl) T.tuple (by decide +kernel) (pa_cons (pv 5) pa_nil)) pa_nil)))))))))), ?_⟩
    refine ⟨_, rfl, (by show 2 ≤ sizeLine; decide), fun l hl => ?_⟩
    refine alloc hl fun H1 s1 e1 => ?_
    have C1 := (Dc.refl hE).same s1
    refine ⟨_, rfl, d, sa, ns, _, rfl, C1.ent, by decide, by decide, fun n1 H2 a0 a1 C2 => ?_⟩
    obtain ⟨z, hz, z1, z2⟩ : ∃ z : Int, atI ([V.int 4, V.int 23] : List V) n1 = some (.int z) ∧ 0 < z ∧ z ≤ 23 := by
      rcases (show n1 = 0 ∨ n1 = 1 by omega) with q | q
      · exact ⟨4, by rw [q]; exact at0, by decide, by decide⟩
      · exact ⟨23, by rw [q]; exact at1, by decide, by decide⟩
    refine ⟨l, _, _, _, rfl, rfl, SqL.of (C2.but _ _ (C1.ned hl) e1), hz, d, sa, ns, _, rfl, (C1.trans C2).ent, z1, by omega, fun n2 H3 b0 b1 C3 => ?_⟩
    have C3' := (C1.trans C2).trans C3
    refine ⟨_, _, rfl, rfl, ?_⟩
    obtain ⟨W, hW⟩ : ∃ W : Nat, 2 + n2 = (W : Int) := ⟨(2 + n2).toNat, by omega⟩
    dsimp only
    rw [hW]
    refine ⟨_, rfl, pa, _, _, _, rfl, rfl, SqT.of (C3'.kp _ _ hpa), at1, ra, rfl, ⟨_, SqT.of (C3'.kp _ _ hra)⟩, fun D hD => ?_⟩
    refine lc_tup (K := K) (a := ra) (xs := bs.map V.ref) (fun i H' => ∃ us : List Nat, Dc K H H' d sa ns ∧ H D = none ∧ H' D = some (.lst (us.map nI)) ∧ us.length = i ∧ ∀ x ∈ us, x < W)
      ⟨[], C3'.new hD, C3'.here hD, upd_same, rfl, fun _ h => absurd h (by simp)⟩ (fun i H' _ ⟨_, q, _⟩ => SqT.of (q.kp _ _ hra)) ?_ ?_
    · rintro i x H4 hi ⟨us, C4, nD, hu, hul, hum⟩
      have hi2 := (List.getElem?_eq_some_iff.mp hi).1
      rw [List.length_map] at hi2
      refine ⟨rfl, _, rfl, _, rfl, d, sa, ns, _, rfl, C4.ent, by omega, by omega, fun m H5 m0 m1 C5 => ?_⟩
      refine ⟨_, C5.but _ _ (C4.ned nD) hu, szl (by rw [List.length_map]; omega), us ++ [m.toNat], (C4.trans C5).mut nD, nD, ?_, by rw [List.length_append, hul]; rfl, fun x hx => ?_⟩
      · rw [upd_same, List.map_append]
        show _ = some (HO.lst (us.map nI ++ [V.int ((m.toNat : Nat) : Int)]))
        rw [Int.toNat_of_nonneg m0]
      · rcases List.mem_append.mp hx with q | q
        · exact hum x q
        · rw [List.mem_singleton.mp q]
          omega
    · rintro H4 ⟨us, C4, nD, hu, hul, hum⟩
      rw [List.length_map, hbr] at hul
      refine ⟨D, _, rfl, .inl ⟨SqL.of hu, fun pl hpl => ?_⟩⟩
      refine alloc hpl fun H5 s5 e5 => ?_
      have C5 := C4.same s5
      refine ⟨Nat.zero_le _, fun lh hlh => ?_⟩
      refine alloc hlh fun H6 s6 e6 => ?_
      have C6 := C5.same s6
      have nlh : H lh = none := C5.here hlh
      refine ⟨_, rfl, pa, _, _, _, rfl, rfl, SqT.of (C6.kp _ _ hpa), at0, wa, rfl, ⟨_, SqT.of (C6.kp _ _ hwa)⟩, ?_⟩
      refine for_tup (K := K) (a := wa) (xs := p.ws.map V.int) (fun i σ H' => ∃ (x6 x7 : Option V) (hb : List Addr) (hs : List (List Nat)), σ = [some (.ref d), some (.ref pa), some (.int most), some (.int (W : Int)), some (.ref pl), some (.ref lh), x6, x7, none, none] ∧
          Dc K H H' d sa ns ∧ Kp H6 H' ∧ H' lh = some (.lst (hb.map V.ref)) ∧ HomesAt H' hb hs ∧ hs.length = i ∧ ∀ h ∈ hs, HomeOk W h ∧ (h.length : Int) ≤ most)
        ⟨none, none, [], [], rfl, C6, Kp.refl _, e6, .nil, rfl, fun _ h => absurd h (by simp)⟩ (fun i σ H' _ ⟨_, _, _, _, _, q, _⟩ => SqT.of (q.kp _ _ hwa)) ?_ ?_
      · rintro i x σ H7 hi ⟨x6, x7, hb, hs, rfl, C7, k7, hlh7, hH, hsl, hok⟩
        have hi2 := (List.getElem?_eq_some_iff.mp hi).1
        rw [List.length_map] at hi2
        have hhb := Paired.length hH
        refine ⟨_, rfl, _, rfl, d, sa, ns, _, rfl, C7.ent, by omega, by omega, fun m H8 m0 m1' C8 => ?_⟩
        have C8' := C7.trans C8
        refine ⟨_, _, rfl, rfl, _, rfl, by omega, by omega, fun D2 hD2 => ?_⟩
        have hlh8 := C8.but _ _ (C7.ned nlh) hlh7
        have nD2 : lh ≠ D2 := ne_of_none hlh8 hD2
        refine lc_range (lo := 0) (n := (1 + m).toNat) (fun i H9 => ∃ us : List Int, Dc K H H9 d sa ns ∧ H D2 = none ∧ H9 D2 = some (.lst (us.map V.int)) ∧ us.length = i ∧ (∀ x ∈ us, 0 ≤ x ∧ x < (W : Int)) ∧ Kp H7 H9 ∧ H9 lh = some (.lst (hb.map V.ref)))
          ⟨[], C8'.new hD2, C8'.here hD2, upd_same, rfl, fun _ h => absurd h (by simp), C8.kp.trans (Kp.new hD2), by rw [upd_ne nD2]; exact hlh8⟩ ?_ ?_
        · rintro j H9 hj ⟨us, C9, nD, hu, hul, hum, k9, hlh9⟩
          refine ⟨rfl, _, rfl, _, rfl, d, sa, ns, _, rfl, C9.ent, by omega, by omega, fun m2 H10 c0 c1 C10 => ?_⟩
          have hu10 := C10.but _ _ (C9.ned nD) hu
          refine ⟨_, hu10, szl (by rw [List.length_map]; omega), us ++ [m2], (C9.trans C10).mut nD, nD, by rw [upd_same, List.map_append]; rfl, by rw [List.length_append, hul]; rfl, all_snoc hum ⟨c0, c1⟩, (k9.trans C10.kp).trans (Kp.lst hu10), by rw [upd_ne nD2]; exact C10.but _ _ (C9.ned nlh) hlh9⟩
        · rintro H9 ⟨us2, C9, nD, hu, hul2, hum2, k9, hlh9⟩
          refine ⟨_, rfl, .inl ⟨rfl, _, SqL.of hlh9⟩, _, rfl, D2, us2, rfl, SqL.of hu, by omega, fun sp c hc hsp => ?_⟩
          refine alloc hsp fun H10 s10 e10 => ?_
          refine ⟨sp, _, c, rfl, e10, by omega, fun ms q up mem len hq => ?_⟩
          refine alloc hq fun H11 s11 e11 => ?_
          refine ⟨q, _, rfl, .inl ⟨SqL.of e11, fun t ht => ?_⟩⟩
          refine alloc ht fun H12 s12 e12 => ?_
          have S12 := (s10.trans s11).trans s12
          have mem2 : ∀ x, x ∈ ms ↔ x ∈ us2 := fun x => (mem x).trans decide_eq_true_iff
          obtain ⟨h, h1, h2, h3, h4⟩ := rise_nat (ns := ms) (fun x hx => (hum2 x ((mem2 x).mp hx)).1) up
          have hlh12 := S12 _ _ hlh9
          have kf := ((k9.trans (Kp.same S12)).trans (Kp.lst (o := .lst (hb.map V.ref ++ [.ref t])) hlh12))
          refine ⟨lh, _, _, rfl, rfl, hlh12, szl (by rw [List.length_map]; omega), ?_⟩
          refine ⟨_, _, hb ++ [t], hs ++ [h], rfl, (C9.same S12).mut nlh, k7.trans kf, by rw [upd_same, List.map_append]; rfl, ?_, by rw [List.length_append, hsl]; rfl, ?_⟩
          · refine Paired.app (HomesAt.kp hH kf) (Paired.one ?_)
            have e := Kp.lst (o := .lst (hb.map V.ref ++ [.ref t])) hlh12 _ _ e12
            rw [h1] at e
            exact e
          · refine all_snoc hok ⟨⟨?_, ?_, h3, fun x hx => ?_⟩, by rw [h2, len]; omega⟩
            · rw [h2]
              obtain ⟨u, hu2⟩ : ∃ u, u ∈ us2 := by
                cases us2 with
                | nil => simp at hul2; omega
                | cons u _ => exact ⟨u, List.mem_cons_self⟩
              exact List.length_pos_of_mem ((mem2 u).mpr hu2)
            · rw [h2, len]
              omega
            · have := (hum2 _ ((mem2 _).mp (h4 x hx))).2
              omega
      · rintro σ H7 ⟨x6, x7, hb, hs, rfl, C7, k7, hlh7, hH, hsl, hok⟩
        rw [List.length_map] at hsl
        refine ⟨_, rfl, _, rfl, _, rfl, lh, _, rfl, .inl ⟨SqL.of hlh7, fun t ht => ?_⟩⟩
        refine alloc ht fun H8 s8 e8 => ?_
        refine ⟨(by show 3 ≤ sizeLine; decide), fun a ha => ?_⟩
        refine alloc ha fun H9 s9 e9 => ?_
        have S := s8.trans s9
        exact kq a ⟨W, us, hs⟩ H9 (C7.same S) ⟨pl, t, hb, e9, S _ _ (k7 _ _ (s6 _ _ e5)), s9 _ _ e8, HomesAt.kp hH (Kp.same S)⟩ ⟨by show 2 ≤ W; omega, by show W ≤ 24; omega, hul, hum, hsl, fun h hh => (hok h hh).1⟩ fun h hh => (hok h hh).2
end
end DL
namespace DL
open PySem L2 DLR
structure Cl (mg : Str → Option Value) where
  t2 : Tok
  t24 : Tok
  m2 : mg "LEAST_WIDE" = some (.int 2 t2)
  m24 : mg "MOST_WIDE" = some (.int 24 t24)
structure Ch (mg : Str → Option Value) where
  t3 : Tok
  m3 : mg "MOST_HOMES" = some (.int 3 t3)
abbrev sCheckWide : Stmt := top 27
abbrev sCheckPlaces : Stmt := top 28
abbrev sCheckHomes : Stmt := top 29
abbrev sAreHomes : Stmt := top 30
abbrev sCheckLaying : Stmt := top 26
abbrev FCheckWide (K : Frg) (mg : Str → Option Value) := Fd K mg "check_wide" sCheckWide ["wide"]
abbrev FCheckPlaces (K : Frg) (mg : Str → Option Value) := Fd K mg "check_places" sCheckPlaces ["places", "count", "wide"]
abbrev FCheckHomes (K : Frg) (mg : Str → Option Value) := Fd K mg "check_homes" sCheckHomes ["homes", "count", "wide"]
abbrev FAreHomes (K : Frg) (mg : Str → Option Value) := Fd K mg "are_homes" sAreHomes ["places", "wide"]
abbrev FCheckLaying (K : Frg) (mg : Str → Option Value) := Fd K mg "check_laying" sCheckLaying ["program", "laying"]
def spCheckWide : Sp := fun vs H Q _ => ∃ n : Int, vs = [.int n] ∧ 2 ≤ n ∧ n ≤ 24 ∧ Q .non H
def spCheckPlaces : Sp := fun vs H Q _ => ∃ (a : Addr) (us : List Nat) (W : Nat), vs = [.ref a, .int (us.length : Int), .int (W : Int)] ∧ H a = some (.tup (us.map nI)) ∧ us.length ≤ 100 ∧ (∀ x ∈ us, x < W) ∧ ∀ H', Same1 H H' → Q .non H'
def spAreHomes : Sp := fun vs H Q _ => ∃ (a : Addr) (h : List Nat) (W : Nat), vs = [.ref a, .int (W : Int)] ∧ H a = some (.tup (h.map nI)) ∧ HomeOk W h ∧ ∀ H', Same1 H H' → Q (.bl true) H'
def spCheckHomes : Sp := fun vs H Q _ => ∃ (a : Addr) (bs : List Addr) (hs : List (List Nat)) (W : Nat), vs = [.ref a, .int (hs.length : Int), .int (W : Int)] ∧ H a = some (.tup (bs.map V.ref)) ∧ HomesAt H bs hs ∧ hs.length ≤ 100 ∧ (∀ h ∈ hs, HomeOk W h) ∧ ∀ H', Same1 H H' → Q .non H'
def spCheckLaying : Sp := fun vs H Q _ => ∃ (a b : Addr) (p : Prog) (y : Lay), vs = [.ref a, .ref b] ∧ ProgAt H a p ∧ Good p ∧ LayAt H b y ∧ LayOk p y ∧ ∀ H', Same1 H H' → Q .non H'
theorem nI_ints (h : List Nat) : h.map nI = (h.map fun x : Nat => (x : Int)).map V.int := by
  rw [List.map_map]
  rfl
def intsD (l : List Int) : PyData := .list (l.map PyData.int)
theorem intsD_at {K : Frg} {H : Hp} : ∀ l : List Int, DpAll K H (l.map V.int) (l.map PyData.int)
  | [] => .nil
  | x :: l => .cons (.int x) (intsD_at l)
theorem intsD_lay : ∀ l : List Int, PyData.canLayAll0 (l.map PyData.int) = true
  | [] => by decide +kernel
  | x :: l => by
    show (PyData.canLay0 (.int x) && PyData.canLayAll0 (l.map PyData.int)) = true
    rw [intsD_lay l]
    rfl
theorem intsD_dep : ∀ l : List Int, PyData.depthAll (l.map PyData.int) ≤ 1
  | [] => by decide
  | x :: l => by
    have h := intsD_dep l
    show max (PyData.int x).depth (PyData.depthAll (l.map PyData.int)) ≤ 1
    have : (PyData.int x).depth ≤ 1 := by simp [PyData.depth]
    omega
theorem intsD_shaped (l : List Int) : SeqAt.shaped (intsD l) = true := by
  show (PyData.canLayAll0 (l.map PyData.int) && decide (PyData.depth (.list (l.map PyData.int)) ≤ 64)) = true
  rw [intsD_lay]
  refine decide_eq_true ?_
  have := intsD_dep l
  show _ + _ ≤ 64
  omega
theorem eq_ints {K : Frg} {H : Hp} {a b : Addr} {l : List Int} {Q : VK} (h1 : H a = some (.lst (l.map V.int))) (h2 : H b = some (.lst (l.map V.int))) (q : Q (.bl true) H) : rEqD K (.ref a) (.ref b) H Q := by
  refine ⟨intsD l, intsD l, .lst (SqL.of h1) (intsD_at l), .lst (SqL.of h2) (intsD_at l), intsD_shaped l, intsD_shaped l, ?_⟩
  rw [PySem.SeqAt.eqv_refl _ (SeqAt.canLay_of_shaped (intsD_shaped l))]
  exact q
section
variable {P : Program} {w : World} {K : PySem.W.Frag} {mg : Str → Option Value} {base : Heap}
theorem scCheckWide : FnScope ["wide"] ["wide"] (defScope sCheckWide) := ⟨rfl, rfl, rfl, by decide +kernel, rfl, by decide +kernel, by decide +kernel⟩
theorem ok_checkWide (c : FCheckWide K mg) (cIsBetween : FIsBetween K mg) (cIsNumber : FIsNumber K mg) (T : Bt mg) (L : Cl mg) : FnOk P w K mg base CX0 3 c.f c.fd ["wide"] spCheckWide := by
  have GIsBetween : FnOk P w K mg base CX0 2 cIsBetween.f cIsBetween.fd ["thing", "low", "high"] spBetween := ok_isBetween cIsBetween cIsNumber T
  refine c.F.ok scCheckWide (fun vs H Q E h => ?_) (fun cdv A outer s H vs Q E hr h => ?_)
  · obtain ⟨n, rfl, _⟩ := h
    rfl
  · obtain ⟨n, rfl, h1, h2, k⟩ := h
    refine ⟨_, (pss_one (ps_if (pt_not (pt_val (pe_call GIsBetween (hr.mono (by first | omega | decide)) (by rfl) cIsBetween.m cIsBetween.F.kp cIsBetween.b .nil pass0 (pa_cons (pv 0) (pa_cons (pe_glob rfl L.m2 relI) (pa_cons (pe_glob rfl L.m24 relI) pa_nil))))))
          (pss_one ps_never)
          pss_nil)), ?_⟩
    exact ⟨_, rfl, n, _, _, rfl, h1, h2, _, rfl, k⟩
abbrev nCheckPlaces : List Str := ["places", "count", "wide", "row", "place"]
theorem scCheckPlaces : FnScope nCheckPlaces ["places", "count", "wide"] (defScope sCheckPlaces) := ⟨rfl, rfl, rfl, by decide +kernel, rfl, by decide +kernel, by decide +kernel⟩
theorem ok_checkPlaces (c : FCheckPlaces K mg) (cIsBetween : FIsBetween K mg) (cIsNumber : FIsNumber K mg) (T : Bt mg) : FnOk P w K mg base CX0 3 c.f c.fd ["places", "count", "wide"] spCheckPlaces := by
  have GIsBetween : FnOk P w K mg base CX0 2 cIsBetween.f cIsBetween.fd ["thing", "low", "high"] spBetween := ok_isBetween cIsBetween cIsNumber T
  refine c.F.ok scCheckPlaces (fun vs H Q E h => ?_) (fun cdv A outer s H vs Q E hr h => ?_)
  · obtain ⟨a, us, W, rfl, _⟩ := h
    rfl
  · obtain ⟨a, us, W, rfl, h1, h100, hb, k⟩ := h
    refine ⟨_, (pss_cons (ps_if (PW.pt (pw_or (pt_not (pt_val (pe_callB call_isi (by rfl) T.isinstance (by decide +kernel) (pa_cons (pv 0) (pa_cons (pe_bltn (v := .ty "tuple") (by rfl) T.tuple (by decide +kernel) rfl) pa_nil))))) (pw_or1 (pt_cmpR op_ne (pe_callB call_len_seq (by rfl) T.len PySem.boot_len (pa_cons (pv 0) pa_nil)) (pv 1) (nomark _)))))
          (pss_one ps_never)
          pss_nil)
      (pss_one (ps_for PassesOwn.never rfl (pi_enumT (by rfl) T.enumerate (pa_cons (pv 0) pa_nil)) (pg_tup rfl (pgs_cons (pg_name (i := 3) scCheckPlaces.nd rfl (Or.inl rfl)) (pgs_cons (pg_name (i := 4) scCheckPlaces.nd rfl (Or.inl rfl)) pgs_nil)))
          (pss_one (ps_if (pt_not (pt_val (pe_call GIsBetween (hr.mono (by first | omega | decide)) (by rfl) cIsBetween.m cIsBetween.F.kp cIsBetween.b .nil pass0 (pa_cons (pv 4) (pa_cons pe_int (pa_cons (pe_op op_sub (pv 2) pe_int) pa_nil))))))
              (pss_one ps_never)
              pss_nil))))), ?_⟩
    refine ⟨_, rfl, _, _, _, _, true, rfl, .ty _, .base (.tup h1), kit_ty (by decide +kernel), _, rfl, ?_⟩
    refine ⟨_, rfl, a, _, rfl, .inr (SqT.of h1), _, rfl, rfl, _, rfl, ?_⟩
    rw [List.length_map, decide_eq_true (show V.int (us.length : Int) = V.int (us.length : Int) from rfl)]
    refine iteF ⟨_, rfl, a, _, rfl, SqT.of h1, for_enumT (K := K) (a := a) (xs := us.map nI) (fun i σ H' => ∃ x3 x4 : Option V, σ = [some (.ref a), some (.int (us.length : Int)), some (.int (W : Int)), x3, x4] ∧ Same1 H H') ⟨none, none, rfl, Same.refl _⟩
      (fun i σ H' ⟨_, _, _, q⟩ => SqT.of (q _ _ h1)) ?_ ?_⟩
    · rintro i x T' σ H1 hi ⟨x3, x4, rfl, s1⟩ hT'
      rw [List.getElem?_map] at hi
      cases hz : us[i]? with
      | none => rw [hz] at hi; cases hi
      | some z =>
        rw [hz] at hi
        have e : nI z = x := Option.some.inj hi
        subst e
        have hlt := hb z (List.mem_of_getElem? hz)
        refine alloc hT' fun H2 s2 e2 => ?_
        refine ⟨T', _, rfl, SqT.of e2, rfl, _, _, rfl, _, _, rfl, rfl, ?_⟩
        refine ⟨_, rfl, _, rfl, _, _, rfl, rfl, (z : Int), _, _, rfl, by omega, by omega, _, rfl, ?_⟩
        exact ⟨_, _, rfl, s1.trans s2⟩
    · rintro σ H1 ⟨x3, x4, rfl, s1⟩
      exact k _ s1
abbrev nAreHomes : List Str := ["places", "wide", "place"]
theorem scAreHomes : FnScope nAreHomes ["places", "wide"] (defScope sAreHomes) := ⟨rfl, rfl, rfl, by decide +kernel, rfl, by decide +kernel, by decide +kernel⟩
theorem ok_areHomes (c : FAreHomes K mg) (cIsBetween : FIsBetween K mg) (cIsNumber : FIsNumber K mg) (T : Bt mg) (TS : Bs mg) (LH : Ch mg) : FnOk P w K mg base CX0 3 c.f c.fd ["places", "wide"] spAreHomes := by
  have GIsBetween : FnOk P w K mg base CX0 2 cIsBetween.f cIsBetween.fd ["thing", "low", "high"] spBetween := ok_isBetween cIsBetween cIsNumber T
  refine c.F.ok scAreHomes (fun vs H Q E h => ?_) (fun cdv A outer s H vs Q E hr h => ?_)
  · obtain ⟨a, h, W, rfl, _⟩ := h
    rfl
  · obtain ⟨a, h, W, rfl, h1, hk, k⟩ := h
    have l1 := hk.l1
    have l3 := hk.l3
    refine ⟨_, (pss_cons (ps_if (PW.pt (pw_or (pt_not (pt_val (pe_callB call_isi (by rfl) T.isinstance (by decide +kernel) (pa_cons (pv 0) (pa_cons (pe_bltn (v := .ty "tuple") (by rfl) T.tuple (by decide +kernel) rfl) pa_nil))))) (pw_or1 (pt_not (pt_chain op_le op_le pe_int (pe_callB call_len_seq (by rfl) T.len PySem.boot_len (pa_cons (pv 0) pa_nil)) (pe_glob rfl LH.m3 relI))))))
          (pss_one (ps_ret pe_bl))
          pss_nil)
      (pss_cons (ps_if (pt_not (pt_val (pe_callB (cr_all rfl) (by rfl) T.all (by decide +kernel) (pa_cons (pe_lc (own := [("place", 2)]) (g := gName 2) (tt := tYes) rfl scAreHomes.nd (pi_tup (pv 0)) (blkOk_by (N := nAreHomes) (sc := defScope sAreHomes) (by decide +kernel)) (fun _ _ _ _ _ => (pg_name (i := 2) scAreHomes.nd rfl (Or.inl rfl))) (fun _ _ _ _ _ => pts_nil) (fun _ _ _ _ _ => (pe_call GIsBetween (hr.mono (by first | omega | decide)) (by rfl) cIsBetween.m cIsBetween.F.kp cIsBetween.b .nil pass0 (pa_cons (pv 2) (pa_cons pe_int (pa_cons (pe_op op_sub (pv 1) pe_int) pa_nil)))))) pa_nil))))
          (pss_one (ps_ret pe_bl))
          pss_nil)
      (pss_one (ps_ret (pe_cmpR (op_eqD hr.units) (pe_callTy call_list_of (by rfl) T.list (by decide +kernel) (pa_cons (pv 0) pa_nil)) (pe_callB (cr_sortedSet rfl) (by rfl) T.sorted (by decide +kernel) (pa_cons (pe_callTy (cr_setT rfl) (by rfl) TS.set (by decide +kernel) (pa_cons (pv 0) pa_nil)) pa_nil)) (nomark _)))))), ?_⟩
    refine ⟨_, rfl, _, _, _, _, true, rfl, .ty _, .base (.tup h1), kit_ty (by decide +kernel), _, rfl, ?_⟩
    refine ⟨_, rfl, a, _, rfl, .inr (SqT.of h1), _, _, rfl, rfl, _, rfl, ?_⟩
    rw [List.length_map, decide_eq_true (show (1 : Int) ≤ (h.length : Int) by omega)]
    refine iteT ⟨_, _, rfl, rfl, _, rfl, ?_⟩
    rw [decide_eq_true (show (h.length : Int) ≤ 3 by omega)]
    refine iteF ⟨_, rfl, a, rfl, ⟨_, SqT.of h1⟩, fun D hD => ?_⟩
    refine lc_tup (K := K) (a := a) (xs := h.map nI) (fun i H' => H' D = some (.lst ((List.replicate i true).map V.bl)) ∧ Same1 H H') ⟨upd_same, Same.new hD⟩ (fun i H' _ ⟨_, q⟩ => SqT.of (q _ _ h1)) ?_ ?_
    · rintro i x H3 hi ⟨hd, s3⟩
      rw [List.getElem?_map] at hi
      cases hz : h[i]? with
      | none => rw [hz] at hi; cases hi
      | some z =>
        rw [hz] at hi
        have e : nI z = x := Option.some.inj hi
        subst e
        have hlt := hk.lt z (List.mem_of_getElem? hz)
        have hil := (List.getElem?_eq_some_iff.mp hz).1
        refine ⟨rfl, _, rfl, _, rfl, _, _, rfl, rfl, (z : Int), _, _, rfl, by omega, by omega, _, hd, szl (by rw [List.length_map, List.length_replicate]; omega), ?_, Same.mut s3 hD⟩
        rw [upd_same, List.replicate_succ', List.map_append]
        rfl
    · rintro H3 ⟨hd, s3⟩
      refine ⟨D, _, rfl, SqL.of hd, ?_⟩
      rw [show (List.replicate (h.map nI).length true).all id = true by rw [List.all_eq_true]; intro x hx; rw [List.eq_of_mem_replicate hx]; rfl]
      refine ⟨_, rfl, iteF ?_⟩
      have h3 := s3 _ _ h1
      refine ⟨_, rfl, a, _, rfl, .inr (SqT.of h3), fun q1 hq1 => ?_⟩
      refine alloc hq1 fun H4 s4 e4 => ?_
      have h4 := s4 _ _ h3
      rw [nI_ints] at h4 e4
      refine ⟨_, rfl, a, _, rfl, SqT.of h4, by rw [List.length_map]; omega, fun sp c hc hsp => ?_⟩
      rw [List.length_map] at hc
      refine alloc hsp fun H5 s5 e5 => ?_
      refine ⟨sp, _, c, rfl, e5, by omega, fun ms q up mem len hq => ?_⟩
      refine alloc hq fun H6 s6 e6 => ?_
      have em : ms = h.map fun x : Nat => (x : Int) := by
        refine rise_uniq up ?_ fun x => (mem x).trans decide_eq_true_iff
        rw [List.pairwise_map]
        exact hk.up.imp fun {a b} z => by omega
      rw [em] at e6
      exact eq_ints ((s5.trans s6) _ _ e4) e6 (k _ (((s3.trans s4).trans s5).trans s6))
abbrev nCheckHomes : List Str := ["homes", "count", "wide", "worth", "places"]
theorem scCheckHomes : FnScope nCheckHomes ["homes", "count", "wide"] (defScope sCheckHomes) := ⟨rfl, rfl, rfl, by decide +kernel, rfl, by decide +kernel, by decide +kernel⟩
theorem ok_checkHomes (c : FCheckHomes K mg) (cAreHomes : FAreHomes K mg) (cIsBetween : FIsBetween K mg) (cIsNumber : FIsNumber K mg) (T : Bt mg) (TS : Bs mg) (LH : Ch mg) : FnOk P w K mg base CX0 4 c.f c.fd ["homes", "count", "wide"] spCheckHomes := by
  have GAreHomes : FnOk P w K mg base CX0 3 cAreHomes.f cAreHomes.fd ["places", "wide"] spAreHomes := ok_areHomes cAreHomes cIsBetween cIsNumber T TS LH
  refine c.F.ok scCheckHomes (fun vs H Q E h => ?_) (fun cdv A outer s H vs Q E hr h => ?_)
  · obtain ⟨a, bs, hs, W, rfl, _⟩ := h
    rfl
  · obtain ⟨a, bs, hs, W, rfl, h1, hH, h100, hok, k⟩ := h
    have hbl := Paired.length hH
    refine ⟨_, (pss_cons (ps_if (PW.pt (pw_or (pt_not (pt_val (pe_callB call_isi (by rfl) T.isinstance (by decide +kernel) (pa_cons (pv 0) (pa_cons (pe_bltn (v := .ty "tuple") (by rfl) T.tuple (by decide +kernel) rfl) pa_nil))))) (pw_or1 (pt_cmpR op_ne (pe_callB call_len_seq (by rfl) T.len PySem.boot_len (pa_cons (pv 0) pa_nil)) (pv 1) (nomark _)))))
          (pss_one ps_never)
          pss_nil)
      (pss_one (ps_for PassesOwn.never rfl (pi_enumT (by rfl) T.enumerate (pa_cons (pv 0) pa_nil)) (pg_tup rfl (pgs_cons (pg_name (i := 3) scCheckHomes.nd rfl (Or.inl rfl)) (pgs_cons (pg_name (i := 4) scCheckHomes.nd rfl (Or.inl rfl)) pgs_nil)))
          (pss_one (ps_if (pt_not (pt_val (pe_call GAreHomes (hr.mono (by first | omega | decide)) (by rfl) cAreHomes.m cAreHomes.F.kp cAreHomes.b .nil pass0 (pa_cons (pv 4) (pa_cons (pv 2) pa_nil)))))
              (pss_one ps_never)
              pss_nil))))), ?_⟩
    refine ⟨_, rfl, _, _, _, _, true, rfl, .ty _, .base (.tup h1), kit_ty (by decide +kernel), _, rfl, ?_⟩
    refine ⟨_, rfl, a, _, rfl, .inr (SqT.of h1), _, rfl, rfl, _, rfl, ?_⟩
    rw [List.length_map, hbl, decide_eq_true (show V.int (hs.length : Int) = V.int (hs.length : Int) from rfl)]
    refine iteF ⟨_, rfl, a, _, rfl, SqT.of h1, for_enumT (K := K) (a := a) (xs := bs.map V.ref) (fun i σ H' => ∃ x3 x4 : Option V, σ = [some (.ref a), some (.int (hs.length : Int)), some (.int (W : Int)), x3, x4] ∧ Same1 H H') ⟨none, none, rfl, Same.refl _⟩
      (fun i σ H' ⟨_, _, _, q⟩ => SqT.of (q _ _ h1)) ?_ ?_⟩
    · rintro i x T' σ H1 hi ⟨x3, x4, rfl, s1⟩ hT'
      have hih : i < hs.length := by
        have q := (List.getElem?_eq_some_iff.mp hi).1
        rwa [List.length_map, hbl] at q
      obtain ⟨b, hb1, hb2⟩ := Paired.getR hH (List.getElem?_eq_getElem hih)
      have ex : x = V.ref b := by
        rw [List.getElem?_map, hb1] at hi
        exact (Option.some.inj hi).symm
      subst ex
      refine alloc hT' fun H2 s2 e2 => ?_
      refine ⟨T', _, rfl, SqT.of e2, rfl, _, _, rfl, _, _, rfl, rfl, ?_⟩
      refine ⟨_, rfl, _, rfl, b, hs[i], W, rfl, (s1.trans s2) _ _ hb2, hok _ (List.getElem_mem hih), fun H3 s3 => ⟨_, rfl, ?_⟩⟩
      exact ⟨_, _, rfl, (s1.trans s2).trans s3⟩
    · rintro σ H1 ⟨x3, x4, rfl, s1⟩
      exact k _ s1
abbrev nCheckLaying : List Str := ["program", "laying", "worths", "rows", "wide"]
theorem scCheckLaying : FnScope nCheckLaying ["program", "laying"] (defScope sCheckLaying) := ⟨rfl, rfl, rfl, by decide +kernel, rfl, by decide +kernel, by decide +kernel⟩
theorem ok_checkLaying (c : FCheckLaying K mg) (cCheckWide : FCheckWide K mg) (cCheckPlaces : FCheckPlaces K mg) (cCheckHomes : FCheckHomes K mg) (cAreHomes : FAreHomes K mg) (cPart : FPart K mg) (cIsBetween : FIsBetween K mg) (cIsNumber : FIsNumber K mg) (T : Bt mg) (TS : Bs mg) (L : Cl mg) (LH : Ch mg) : FnOk P w K mg base CX0 5 c.f c.fd ["program", "laying"] spCheckLaying := by
  have GPart : FnOk P w K mg base CX0 1 cPart.f cPart.fd ["whole", "at"] spPart := ok_part cPart T
  have GCheckWide : FnOk P w K mg base CX0 3 cCheckWide.f cCheckWide.fd ["wide"] spCheckWide := ok_checkWide cCheckWide cIsBetween cIsNumber T L
  have GCheckPlaces : FnOk P w K mg base CX0 3 cCheckPlaces.f cCheckPlaces.fd ["places", "count", "wide"] spCheckPlaces := ok_checkPlaces cCheckPlaces cIsBetween cIsNumber T
  have GCheckHomes : FnOk P w K mg base CX0 4 cCheckHomes.f cCheckHomes.fd ["homes", "count", "wide"] spCheckHomes := ok_checkHomes cCheckHomes cAreHomes cIsBetween cIsNumber T TS LH
  refine c.F.ok scCheckLaying (fun vs H Q E h => ?_) (fun cdv A outer s H vs Q E hr h => ?_)
  · obtain ⟨a, b, p, y, rfl, _⟩ := h
    rfl
  · obtain ⟨a, b, p, y, rfl, ⟨wa, ra, bs, hpa, hwa, hra, hR⟩, g, ⟨pl, hl, cs, hb, hpl, hhl, hH⟩, yk, k⟩ := h
    have hbr := Paired.length hR
    have hR40 := g.r40
    have hW8 := g.w8
    have hpll := yk.pl
    have hhll := yk.hl
    have w2 := yk.w2
    have w24 := yk.w24
    refine ⟨_, (pss_cons (ps_asg (pv 0) (pg_tup rfl (pgs_cons (pg_name (i := 2) scCheckLaying.nd rfl (Or.inl rfl)) (pgs_cons (pg_name (i := 3) scCheckLaying.nd rfl (Or.inl rfl)) pgs_nil))))
      (pss_cons (ps_set (i := 4) scCheckLaying.nd rfl (Or.inl rfl) (pe_call GPart (hr.mono (by first | omega | decide)) (by rfl) cPart.m cPart.F.kp cPart.b .nil pass0 (pa_cons (pv 1) (pa_cons pe_int pa_nil))))
      (pss_cons (ps_expr (pe_call GCheckWide (hr.mono (by first | omega | decide)) (by rfl) cCheckWide.m cCheckWide.F.kp cCheckWide.b .nil pass0 (pa_cons (pv 4) pa_nil)))
      (pss_cons (ps_expr (pe_call GCheckPlaces (hr.mono (by first | omega | decide)) (by rfl) cCheckPlaces.m cCheckPlaces.F.kp cCheckPlaces.b .nil pass0 (pa_cons (pe_call GPart (hr.mono (by first | omega | decide)) (by rfl) cPart.m cPart.F.kp cPart.b .nil pass0 (pa_cons (pv 1) (pa_cons pe_int pa_nil))) (pa_cons (pe_callB call_len_seq (by rfl) T.len PySem.boot_len (pa_cons (pv 3) pa_nil)) (pa_cons (pv 4) pa_nil)))))
      (pss_cons (ps_expr (pe_call GCheckHomes (hr.mono (by first | omega | decide)) (by rfl) cCheckHomes.m cCheckHomes.F.kp cCheckHomes.b .nil pass0 (pa_cons (pe_call GPart (hr.mono (by first | omega | decide)) (by rfl) cPart.m cPart.F.kp cPart.b .nil pass0 (pa_cons (pv 1) (pa_cons pe_int pa_nil))) (pa_cons (pe_callB call_len_seq (by rfl) T.len PySem.boot_len (pa_cons (pv 2) pa_nil)) (pa_cons (pv 4) pa_nil)))))
      (pss_one (ps_if (pt_cmpR op_ne (pe_callB call_len_seq (by rfl) T.len PySem.boot_len (pa_cons (pv 1) pa_nil)) pe_int (nomark _))
          (pss_one ps_never)
          pss_nil))))))), ?_⟩
    refine ⟨_, rfl, a, _, rfl, SqT.of hpa, rfl, _, _, rfl, _, _, rfl, rfl, ?_⟩
    refine ⟨_, rfl, b, _, 0, _, rfl, hb, rfl, ?_⟩
    refine ⟨_, rfl, (y.wide : Int), rfl, by omega, by omega, ?_⟩
    refine ⟨_, rfl, b, _, 1, _, rfl, hb, rfl, _, rfl, ra, _, rfl, .inr (SqT.of hra), _, rfl, pl, y.places, y.wide, ?_, hpl, by omega, yk.pok, fun H1 s1 => ?_⟩
    · rw [List.length_map, hbr, hpll]
      rfl
    refine ⟨_, rfl, b, _, 2, _, rfl, s1 _ _ hb, rfl, _, rfl, wa, _, rfl, .inr (SqT.of (s1 _ _ hwa)), _, rfl, hl, cs, y.homes, y.wide, ?_, s1 _ _ hhl, HomesAt.kp hH (Kp.same s1), by omega, yk.hok, fun H2 s2 => ?_⟩
    · rw [List.length_map, hhll]
      rfl
    refine ⟨_, rfl, b, _, rfl, .inr (SqT.of ((s1.trans s2) _ _ hb)), rfl, _, rfl, ?_⟩
    rw [decide_eq_true (show V.int ((([nI y.wide, V.ref pl, V.ref hl] : List V).length : Nat) : Int) = V.int 3 from rfl)]
    exact iteF (k _ (s1.trans s2))
end
end DL
namespace DL
open PySem L2 DLR
def nx : Row → List Nat
  | .load _ n => [n]
  | .add _ n => [n]
  | .take _ n => [n]
  | .store _ n => [n]
  | .say n => [n]
  | .test a b => [a, b]
  | .stop => []
def tgt : Row → List Nat
  | .test a b => if a = b then [a] else if a < b then [a, b] else [b, a]
  | r => nx r
theorem tgt_test (a b : Nat) : tgt (.test a b) = if a = b then [a] else if a < b then [a, b] else [b, a] := rfl
theorem tgt_up (r : Row) : (tgt r).Pairwise (· < ·) := by
  cases r with
  | test a b =>
    rw [tgt_test]
    split
    · simp
    · split
      · simp; omega
      · simp; omega
  | stop => exact .nil
  | load _ n => exact List.pairwise_singleton _ _
  | add _ n => exact List.pairwise_singleton _ _
  | take _ n => exact List.pairwise_singleton _ _
  | store _ n => exact List.pairwise_singleton _ _
  | say n => exact List.pairwise_singleton _ _
theorem tgt_mem (r : Row) (x : Nat) : x ∈ tgt r ↔ x ∈ nx r := by
  cases r with
  | test a b =>
    rw [tgt_test, show nx (.test a b) = [a, b] from rfl]
    split
    · rename_i h
      subst h
      simp
    · split
      · exact Iff.rfl
      · simp only [List.mem_cons, List.not_mem_nil, or_false]
        exact Or.comm
  | _ => exact Iff.rfl
theorem tgt_len (r : Row) : (tgt r).length ≤ 2 := by
  cases r with
  | test a b =>
    rw [tgt_test]
    split
    · show 1 ≤ 2; decide
    · split <;> (show 2 ≤ 2; decide)
  | stop => show 0 ≤ 2; decide
  | _ => show 1 ≤ 2; decide
theorem nx_len (r : Row) : (nx r).length ≤ 2 := by cases r <;> simp [nx]
theorem tgt_of {r : Row} {ms : List Int} (up : ms.Pairwise (· < ·)) (mem : ∀ x : Int, x ∈ ms ↔ decide (x ∈ (nx r).map fun n : Nat => (n : Int)) = true) : ms = (tgt r).map fun n : Nat => (n : Int) := by
  refine rise_uniq up ?_ fun x => (mem x).trans (decide_eq_true_iff.trans ?_)
  · rw [List.pairwise_map]
    exact (tgt_up r).imp fun {a b} z => by omega
  · constructor <;> intro h <;> obtain ⟨n, hn, rfl⟩ := List.mem_map.mp h
    · exact List.mem_map.mpr ⟨n, (tgt_mem r n).mpr hn, rfl⟩
    · exact List.mem_map.mpr ⟨n, (tgt_mem r n).mp hn, rfl⟩
def goesN (rows : List Row) (i : Nat) : List (Nat × Nat) := (List.range i).flatMap fun k => (tgt (rows.getD k .stop)).map fun t => (k, t)
theorem goesN_succ (rows : List Row) (i : Nat) : goesN rows (i + 1) = goesN rows i ++ (tgt (rows.getD i .stop)).map fun t => (i, t) := by
  unfold goesN
  rw [List.range_succ, List.flatMap_append]
  simp
theorem goesN_len (rows : List Row) : ∀ i, (goesN rows i).length ≤ 2 * i
  | 0 => Nat.le_refl 0
  | i + 1 => by
    rw [goesN_succ, List.length_append, List.length_map]
    have := goesN_len rows i
    have := tgt_len (rows.getD i .stop)
    omega
def pairVs (g : Nat × Nat) : List V := [nI g.1, nI g.2]
abbrev PairsL (H : Hp) (bs : List Addr) (L : List (Nat × Nat)) : Prop := Paired (fun b g => H b = some (.tup (pairVs g))) bs L
theorem PairsL.kp {H H' : Hp} {bs : List Addr} {L : List (Nat × Nat)} (h : PairsL H bs L) (k : Kp H H') : PairsL H' bs L := Paired.mapP h fun b x e => k _ _ e
abbrev sNexts : Stmt := top 16
abbrev FNexts (K : Frg) (mg : Str → Option Value) := Fd K mg "nexts" sNexts ["row"]
def spNexts : Sp := fun vs H Q _ => ∃ (a : Addr) (r : Row), vs = [.ref a] ∧ H a = some (.tup (rowVs r)) ∧ ∀ t H', Same1 H H' → H' t = some (.tup ((nx r).map nI)) → Q (.ref t) H'
def spAhead : Sp := fun vs H Q _ => ∃ (a : Addr) (r : Row), vs = [.ref a] ∧ H a = some (.tup (rowVs r)) ∧ ∀ q H', Same1 H H' → H q = none → H' q = some (.lst ((tgt r).map nI)) → Q (.ref q) H'
def spGoesMay : Sp := fun vs H Q _ => ∃ (a : Addr) (p : Prog), vs = [.ref a] ∧ ProgAt H a p ∧ Good p ∧ ∀ l bs H', Same1 H H' → H l = none → H' l = some (.lst (bs.map V.ref)) → PairsL H' bs (goesN p.rows p.rows.length) → Q (.ref l) H'
theorem nx_drop (r : Row) : (if r.uses = true then (rowVs r).drop 2 else (rowVs r).drop 1) = (nx r).map nI := by cases r <;> rfl
theorem dropn (n : Nat) {xs : List V} : cutV xs (some (n : Int)) none = xs.drop n := by
  unfold cutV
  have e : HT.sIx xs.length 0 (some (n : Int)) = min n xs.length := HT.sIx_nat _ _ n
  rw [e, HT.sIx_none]
  rcases Nat.le_total n xs.length with q | q
  · rw [Nat.min_eq_left q]
    exact List.take_of_length_le (by rw [List.length_drop]; omega)
  · rw [Nat.min_eq_right q, List.drop_eq_nil_of_le q, List.drop_eq_nil_of_le (Nat.le_refl _)]
    exact List.take_nil
section
variable {P : Program} {w : World} {K : PySem.W.Frag} {mg : Str → Option Value} {base : Heap}
theorem scNexts : FnScope ["row"] ["row"] (defScope sNexts) := ⟨rfl, rfl, rfl, by decide +kernel, rfl, by decide +kernel, by decide +kernel⟩
theorem ok_nexts (c : FNexts K mg) (cUsesWorth : FUsesWorth K mg) (Z : Pt K w mg) : FnOk P w K mg base CX0 2 c.f c.fd ["row"] spNexts := by
  have GUsesWorth : FnOk P w K mg base CX0 1 cUsesWorth.f cUsesWorth.fd ["row"] spUses := ok_usesWorth cUsesWorth Z
  refine c.F.ok scNexts (fun vs H Q E h => ?_) (fun cdv A outer s H vs Q E hr h => ?_)
  · obtain ⟨a, r, rfl, _⟩ := h
    rfl
  · obtain ⟨a, r, rfl, ha, k⟩ := h
    refine ⟨_, (pss_cons (ps_if (pt_val (pe_call GUsesWorth (hr.mono (by first | omega | decide)) (by rfl) cUsesWorth.m cUsesWorth.F.kp cUsesWorth.b .nil pass0 (pa_cons (pv 0) pa_nil)))
          (pss_one (ps_ret (pe_slice sl_tupS (pv 0) (po_some pe_int) po_none)))
          pss_nil)
      (pss_one (ps_ret (pe_slice sl_tupS (pv 0) (po_some pe_int) po_none)))), ?_⟩
    have e := nx_drop r
    refine ⟨_, rfl, a, r, rfl, ha, _, rfl, ?_⟩
    cases hu : r.uses with
    | true =>
      rw [hu, if_pos rfl] at e
      refine iteT ⟨_, rfl, _, rfl, a, _, rfl, ha, fun t H' s' h' => k t H' s' ?_⟩
      rw [h', ← e]
      exact congrArg (fun z => some (HO.tup z)) (dropn 2)
    | false =>
      rw [hu, if_neg (by decide)] at e
      refine iteF ⟨_, rfl, _, rfl, a, _, rfl, ha, fun t H' s' h' => k t H' s' ?_⟩
      rw [h', ← e]
      exact congrArg (fun z => some (HO.tup z)) (dropn 1)
abbrev nGoesMay : List Str := ["program", "pairs", "number", "row", "to"]
end
end DL
namespace DL
open PySem L2 DLR
def fb (now : Int) (place wide : Nat) : Int := now + ((place : Int) - now) % (wide : Int)
def maxL : List Int → Int
  | [] => 0
  | [x] => x
  | x :: y :: l => max x (maxL (y :: l))
def minL : List Int → Int
  | [] => 0
  | [x] => x
  | x :: y :: l => min x (minL (y :: l))
theorem maxL_spec : ∀ {l : List Int}, 0 < l.length → maxL l ∈ l ∧ ∀ y ∈ l, y ≤ maxL l
  | [], h => absurd h (by decide)
  | [x], _ => ⟨List.mem_cons_self, fun y hy => by rw [List.mem_singleton.mp hy]; exact Int.le_refl _⟩
  | x :: z :: l, _ => by
    obtain ⟨h1, h2⟩ := maxL_spec (l := z :: l) (Nat.succ_pos _)
    show max x (maxL (z :: l)) ∈ _ ∧ ∀ y ∈ _, y ≤ max x (maxL (z :: l))
    refine ⟨?_, fun y hy => ?_⟩
    · rcases Int.le_total x (maxL (z :: l)) with q | q
      · rw [Int.max_eq_right q]; exact List.mem_cons_of_mem _ h1
      · rw [Int.max_eq_left q]; exact List.mem_cons_self
    · rcases List.mem_cons.mp hy with e | e
      · rw [e]; omega
      · have := h2 y e
        omega
theorem minL_spec : ∀ {l : List Int}, 0 < l.length → minL l ∈ l ∧ ∀ y ∈ l, minL l ≤ y
  | [], h => absurd h (by decide)
  | [x], _ => ⟨List.mem_cons_self, fun y hy => by rw [List.mem_singleton.mp hy]; exact Int.le_refl _⟩
  | x :: z :: l, _ => by
    obtain ⟨h1, h2⟩ := minL_spec (l := z :: l) (Nat.succ_pos _)
    show min x (minL (z :: l)) ∈ _ ∧ ∀ y ∈ _, min x (minL (z :: l)) ≤ y
    refine ⟨?_, fun y hy => ?_⟩
    · rcases Int.le_total x (minL (z :: l)) with q | q
      · rw [Int.min_eq_left q]; exact List.mem_cons_self
      · rw [Int.min_eq_right q]; exact List.mem_cons_of_mem _ h1
    · rcases List.mem_cons.mp hy with e | e
      · rw [e]; omega
      · have := h2 y e
        omega
theorem maxL_is {l : List Int} {m : Int} (h : m ∈ l) (g : ∀ y ∈ l, y ≤ m) : m = maxL l := by
  obtain ⟨a, b⟩ := maxL_spec (List.length_pos_of_mem h)
  have := b m h
  have := g _ a
  omega
theorem minL_is {l : List Int} {m : Int} (h : m ∈ l) (g : ∀ y ∈ l, m ≤ y) : m = minL l := by
  obtain ⟨a, b⟩ := minL_spec (List.length_pos_of_mem h)
  have := b m h
  have := g _ a
  omega
def comesL (us : List Nat) (read : Int) (W : Nat) : List Int := us.map fun h => fb (read + 1) h W
def comes (y : Lay) (w : Nat) (read : Int) : List Int := comesL (y.homes.getD w []) read y.wide
theorem first_last {ms ns : List Int} (pm : ms.Perm ns) (up : ms.Pairwise (· ≤ ·)) (h : 0 < ns.length) : atI (ms.map V.int) 0 = some (.int (minL ns)) ∧ atI (ms.map V.int) (-1) = some (.int (maxL ns)) := by
  have hl : 0 < ms.length := by rw [pm.length_eq]; exact h
  have pos : ∀ i j (hi : i < ms.length) (hj : j < ms.length), i ≤ j → ms[i] ≤ ms[j] := by
    intro i j hi hj le
    rcases Nat.lt_or_eq_of_le le with q | q
    · exact List.pairwise_iff_getElem.mp up i j hi hj q
    · subst q; exact Int.le_refl _
  constructor
  · have e : ms[0] = minL ns := by
      refine minL_is (pm.mem_iff.mp (List.getElem_mem hl)) fun y hy => ?_
      obtain ⟨j, hj, rfl⟩ := List.mem_iff_getElem.mp (pm.mem_iff.mpr hy)
      exact pos 0 j hl hj (Nat.zero_le _)
    rw [← e]
    exact atI_nat (j := 0) (by rw [List.getElem?_map, List.getElem?_eq_getElem hl]; rfl)
  · have hk : ms.length - 1 < ms.length := by omega
    have e : ms[ms.length - 1] = maxL ns := by
      refine maxL_is (pm.mem_iff.mp (List.getElem_mem hk)) fun y hy => ?_
      obtain ⟨j, hj, rfl⟩ := List.mem_iff_getElem.mp (pm.mem_iff.mpr hy)
      exact pos j _ hj hk (by omega)
    rw [← e]
    have e2 : ms = ms.dropLast ++ [ms[ms.length - 1]] := by
      rw [← List.getLast_eq_getElem (List.ne_nil_of_length_pos hl)]
      exact (List.dropLast_concat_getLast _).symm
    refine (congrArg (fun z => atI (z.map V.int) (-1)) e2).trans ?_
    rw [List.map_append]
    exact atI_last _ _
theorem cut1 : ∀ {ns : List Int}, ns.length ≤ 3 → cutV (ns.map V.int) none (some 1) = (ns.take 1).map V.int
  | [], _ => rfl
  | [x], _ => rfl
  | [x, y], _ => rfl
  | [x, y, z], _ => rfl
  | _ :: _ :: _ :: _ :: _, h => absurd h (by simp only [List.length_cons]; omega)

def useF (y : Lay) (read : Int) : Row → Int
  | .load w _ => minL (comes y w read)
  | .add w _ => minL (comes y w read)
  | .take w _ => minL (comes y w read)
  | .store w _ => maxL (comes y w read)
  | _ => read
def work : Row → Int
  | .load _ _ => 1
  | .add _ _ => 2
  | .take _ _ => 2
  | .store _ _ => 1
  | .say _ => 3
  | .test _ _ => 1
  | .stop => 0
def behindF (y : Lay) (r : Row) (read : Int) : Int := useF y read r + work r + 1
def costF (y : Lay) (rows : List Row) (b t : Nat) : Int := fb (behindF y (rows.getD b .stop) ((y.places.getD b 0 : Nat) : Int)) (y.places.getD t 0) y.wide - ((y.places.getD b 0 : Nat) : Int)
structure Pw (K : Frg) (w : World) (mg : Str → Option Value) where
  d : Addr
  es : Array DictEntry
  n : Nat
  m : mg "WORK" = some (.ref d)
  kd : KDict K w d es n
  at_ : ∀ r : Row, ∃ t : Tok, PySem.W.nsIn K d r.word = some (some (.int (work r) t))
theorem Pw.get {K : Frg} {w : World} {mg : Str → Option Value} (Z : Pw K w mg) (r : Row) : KDct K w Z.d r.word (.int (work r)) := by
  obtain ⟨t, h⟩ := Z.at_ r
  exact ⟨_, _, _, Z.kd.at_, Z.kd.lit, h, ⟨t, rfl⟩⟩
structure Bm (mg : Str → Option Value) : Prop where
  min : mg "min" = none
abbrev sFirstBeat : Stmt := top 31
abbrev sBeatsOfUse : Stmt := top 32
abbrev sBeatOfUse : Stmt := top 33
abbrev sBeatBehind : Stmt := top 34
abbrev FFirstBeat (K : Frg) (mg : Str → Option Value) := Fd K mg "first_beat" sFirstBeat ["now", "place", "wide"]
abbrev FBeatsOfUse (K : Frg) (mg : Str → Option Value) := Fd K mg "beats_of_use" sBeatsOfUse ["word", "places", "read", "wide"]
abbrev FBeatOfUse (K : Frg) (mg : Str → Option Value) := Fd K mg "beat_of_use" sBeatOfUse ["row", "read", "laying"]
abbrev FBeatBehind (K : Frg) (mg : Str → Option Value) := Fd K mg "beat_behind" sBeatBehind ["row", "read", "laying"]
def spFirstBeat : Sp := fun vs H Q _ => ∃ (now : Int) (place W : Nat), vs = [.int now, .int (place : Int), .int (W : Int)] ∧ 0 < W ∧ Q (.int (fb now place W)) H
def UseL (st : Bool) (us : List Nat) (read : Int) (W : Nat) (ms : List Int) : Prop := ∃ ns : List Int, ns.Perm (comesL us read W) ∧ ns.Pairwise (· ≤ ·) ∧ ms = if st = true then ns else ns.take 1
def spBeatsOfUse : Sp := fun vs H Q _ => ∃ (x : Str) (a : Addr) (us : List Nat) (read : Int) (W : Nat), vs = [.str x, .ref a, .int read, .int (W : Int)] ∧ H a = some (.tup (us.map nI)) ∧ us.length ≤ 3 ∧ 0 < W ∧
  ∀ q ms H', Same1 H H' → H q = none → H' q = some (.lst (ms.map V.int)) → UseL (decide (V.str x = V.str "store")) us read W ms → Q (.ref q) H'
def spBeatOfUse : Sp := fun vs H Q _ => ∃ (a b : Addr) (r : Row) (read : Int) (y : Lay) (N : Nat), vs = [.ref a, .int read, .ref b] ∧ H a = some (.tup (rowVs r)) ∧ LayAt H b y ∧ 2 ≤ y.wide ∧ (∀ h ∈ y.homes, HomeOk y.wide h) ∧ r.ok y.homes.length N ∧
  ∀ H', Same1 H H' → Q (.int (useF y read r)) H'
def spBeatBehind : Sp := fun vs H Q _ => ∃ (a b : Addr) (r : Row) (read : Int) (y : Lay) (N : Nat), vs = [.ref a, .int read, .ref b] ∧ H a = some (.tup (rowVs r)) ∧ LayAt H b y ∧ 2 ≤ y.wide ∧ (∀ h ∈ y.homes, HomeOk y.wide h) ∧ r.ok y.homes.length N ∧
  ∀ H', Same1 H H' → Q (.int (behindF y r read)) H'
def spCost : Sp := fun vs H Q _ => ∃ (a b : Addr) (p : Prog) (y : Lay) (i t : Nat), vs = [.ref a, .ref b, .int (i : Int), .int (t : Int)] ∧ ProgAt H a p ∧ Good p ∧ LayAt H b y ∧ LayOk p y ∧ i < p.rows.length ∧ t < p.rows.length ∧
  ∀ H', Same1 H H' → Q (.int (costF y p.rows i t)) H'
def costVs (y : Lay) (rows : List Row) (g : Nat × Nat) : List V := [nI g.1, nI g.2, .int (costF y rows g.1 g.2)]
def spCosts : Sp := fun vs H Q _ => ∃ (a b : Addr) (p : Prog) (y : Lay), vs = [.ref a, .ref b] ∧ ProgAt H a p ∧ Good p ∧ LayAt H b y ∧ LayOk p y ∧
  ∀ l bs H', Same1 H H' → H l = none → H' l = some (.lst (bs.map V.ref)) → Paired (fun b g => H' b = some (.tup (costVs y p.rows g))) bs (goesN p.rows p.rows.length) → Q (.ref l) H'
section
variable {P : Program} {w : World} {K : PySem.W.Frag} {mg : Str → Option Value} {base : Heap}
theorem scFirstBeat : FnScope ["now", "place", "wide"] ["now", "place", "wide"] (defScope sFirstBeat) := ⟨rfl, rfl, rfl, by decide +kernel, rfl, by decide +kernel, by decide +kernel⟩
theorem ok_firstBeat (c : FFirstBeat K mg) : FnOk P w K mg base CX0 1 c.f c.fd ["now", "place", "wide"] spFirstBeat := by
  refine c.F.ok scFirstBeat (fun vs H Q E h => ?_) (fun cdv A outer s H vs Q E hr h => ?_)
  · obtain ⟨n, pl, W, rfl, _⟩ := h
    rfl
  · obtain ⟨n, pl, W, rfl, h0, k⟩ := h
    refine ⟨_, (pss_one (ps_ret (pe_op op_add (pv 0) (pe_op op_mod (pe_op op_sub (pv 1) (pv 0)) (pv 2))))), ?_⟩
    exact ⟨_, rfl, _, rfl, _, rfl, _, _, rfl, rfl, _, rfl, _, _, rfl, rfl, (by omega), _, _, rfl, rfl, k⟩
abbrev nBeatsOfUse : List Str := ["word", "places", "read", "wide", "comes", "place"]
theorem scBeatsOfUse : FnScope nBeatsOfUse ["word", "places", "read", "wide"] (defScope sBeatsOfUse) := ⟨rfl, rfl, rfl, by decide +kernel, rfl, by decide +kernel, by decide +kernel⟩
theorem ok_beatsOfUse (c : FBeatsOfUse K mg) (cFirstBeat : FFirstBeat K mg) (T : Bt mg) : FnOk P w K mg base CX0 2 c.f c.fd ["word", "places", "read", "wide"] spBeatsOfUse := by
  have GFirstBeat : FnOk P w K mg base CX0 1 cFirstBeat.f cFirstBeat.fd ["now", "place", "wide"] spFirstBeat := ok_firstBeat cFirstBeat
  refine c.F.ok scBeatsOfUse (fun vs H Q E h => ?_) (fun cdv A outer s H vs Q E hr h => ?_)
  · obtain ⟨x, a, us, read, W, rfl, _⟩ := h
    rfl
  · obtain ⟨x, a, us, read, W, rfl, ha, l3, w0, k⟩ := h
    refine ⟨_, (pss_cons (ps_set (i := 4) scBeatsOfUse.nd rfl (Or.inl rfl) (pe_callB cr_sortedI (by rfl) T.sorted (by decide +kernel) (pa_cons (pe_lc (own := [("place", 5)]) (g := gName 5) (tt := tYes) rfl scBeatsOfUse.nd (pi_tup (pv 1)) (blkOk_by (N := nBeatsOfUse) (sc := defScope sBeatsOfUse) (by decide +kernel)) (fun _ _ _ _ _ => (pg_name (i := 5) scBeatsOfUse.nd rfl (Or.inl rfl))) (fun _ _ _ _ _ => pts_nil) (fun _ _ _ _ _ => (pe_call GFirstBeat (hr.mono (by first | omega | decide)) (by rfl) cFirstBeat.m cFirstBeat.F.kp cFirstBeat.b .nil pass0 (pa_cons (pe_op op_add (pv 2) pe_int) (pa_cons (pv 5) (pa_cons (pv 3) pa_nil)))))) pa_nil)))
      (pss_cons (ps_if (pt_cmpR op_eq (pv 0) pe_str (nomark _))
          (pss_one (ps_ret (pv 4)))
          pss_nil)
      (pss_one (ps_ret (pe_slice sl_list (pv 4) po_none (po_some pe_int)))))), ?_⟩
    refine ⟨_, rfl, a, rfl, ⟨_, SqT.of ha⟩, fun D hD => ?_⟩
    refine lc_tup (K := K) (a := a) (xs := us.map nI) (fun i H' => Same1 H H' ∧ H' D = some (.lst (((comesL us read W).take i).map V.int))) ⟨Same.new hD, upd_same⟩ (fun i H' _ ⟨q, _⟩ => SqT.of (q _ _ ha)) ?_ ?_
    · rintro i z H1 hi ⟨s1, hD1⟩
      rw [List.getElem?_map] at hi
      cases hz : us[i]? with
      | none => rw [hz] at hi; cases hi
      | some h =>
        rw [hz] at hi
        have e : nI h = z := Option.some.inj hi
        subst e
        have hil := (List.getElem?_eq_some_iff.mp hz).1
        refine ⟨rfl, _, rfl, _, _, rfl, rfl, _, rfl, _, rfl, read + 1, h, W, rfl, w0, ?_⟩
        refine ⟨_, hD1, szl (by rw [List.length_map, List.length_take]; omega), Same.mut s1 hD, ?_⟩
        rw [upd_same, List.take_add_one]
        unfold comesL
        rw [List.getElem?_map, hz, List.map_append]
        rfl
    · rintro H1 ⟨s1, hD1⟩
      have hcl : (comesL us read W).length = us.length := by unfold comesL; rw [List.length_map]
      rw [List.length_map, ← hcl, List.take_length] at hD1
      refine ⟨D, _, rfl, SqL.of hD1, fun ns q pm up hq => ?_⟩
      have hnl : ns.length ≤ 3 := by rw [pm.length_eq, hcl]; exact l3
      refine alloc hq fun H2 s2 e2 => ?_
      refine ⟨_, rfl, rfl, _, rfl, ?_⟩
      cases hs : decide (V.str x = V.str "store") with
      | true =>
        rw [hs] at k
        exact iteT ⟨_, rfl, k q ns H2 (s1.trans s2) (s1.free hq) e2 ⟨ns, pm, up, rfl⟩⟩
      | false =>
        rw [hs] at k
        refine iteF ⟨_, rfl, _, rfl, q, _, rfl, SqL.of e2, fun t ht => ?_⟩
        refine alloc ht fun H3 s3 e3 => ?_
        refine k t (ns.take 1) H3 ((s1.trans s2).trans s3) (s1.free (s2.free ht)) ?_ ⟨ns, pm, up, rfl⟩
        rw [e3, cut1 hnl]
abbrev nBeatOfUse : List Str := ["row", "read", "laying", "wide", "_", "homes"]
theorem scBeatOfUse : FnScope nBeatOfUse ["row", "read", "laying"] (defScope sBeatOfUse) := ⟨rfl, rfl, rfl, by decide +kernel, rfl, by decide +kernel, by decide +kernel⟩
theorem useL_last {st : Bool} {us : List Nat} {read : Int} {W : Nat} {ms : List Int} (h : UseL st us read W ms) (l1 : 0 < us.length) : atI (ms.map V.int) (-1) = some (.int (if st = true then maxL (comesL us read W) else minL (comesL us read W))) := by
  obtain ⟨ns, pm, up, rfl⟩ := h
  have hcl : 0 < (comesL us read W).length := by unfold comesL; rw [List.length_map]; exact l1
  obtain ⟨f0, f1⟩ := first_last pm up hcl
  cases st with
  | true => exact f1
  | false =>
    match ns with
    | [] => rw [if_neg (by decide)]; exact absurd f0 (by intro z; cases z)
    | x :: t =>
      have e := at0.symm.trans f0
      show atI [V.int x] (-1) = _
      exact (atI_last [] (V.int x)).trans e
theorem ok_beatOfUse (c : FBeatOfUse K mg) (cBeatsOfUse : FBeatsOfUse K mg) (cFirstBeat : FFirstBeat K mg) (cUsesWorth : FUsesWorth K mg) (T : Bt mg) (Z : Pt K w mg) : FnOk P w K mg base CX0 3 c.f c.fd ["row", "read", "laying"] spBeatOfUse := by
  have GBeatsOfUse : FnOk P w K mg base CX0 2 cBeatsOfUse.f cBeatsOfUse.fd ["word", "places", "read", "wide"] spBeatsOfUse := ok_beatsOfUse cBeatsOfUse cFirstBeat T
  have GUsesWorth : FnOk P w K mg base CX0 1 cUsesWorth.f cUsesWorth.fd ["row"] spUses := ok_usesWorth cUsesWorth Z
  refine c.F.ok scBeatOfUse (fun vs H Q E h => ?_) (fun cdv A outer s H vs Q E hr h => ?_)
  · obtain ⟨a, b, r, read, y, N, rfl, _⟩ := h
    rfl
  · obtain ⟨a, b, r, read, y, N, rfl, ha, ⟨pl, hl, cs, hb, hpl, hhl, hH⟩, w2, hok, ho, k⟩ := h
    have hcl := Paired.length hH
    refine ⟨_, (pss_cons (ps_asg (pv 2) (pg_tup rfl (pgs_cons (pg_name (i := 3) scBeatOfUse.nd rfl (Or.inl rfl)) (pgs_cons (pg_name (i := 4) scBeatOfUse.nd rfl (Or.inl rfl)) (pgs_cons (pg_name (i := 5) scBeatOfUse.nd rfl (Or.inl rfl)) pgs_nil)))))
      (pss_cons (ps_if (pt_not (pt_val (pe_call GUsesWorth (hr.mono (by first | omega | decide)) (by rfl) cUsesWorth.m cUsesWorth.F.kp cUsesWorth.b .nil pass0 (pa_cons (pv 0) pa_nil))))
          (pss_one (ps_ret (pv 1)))
          pss_nil)
      (pss_one (ps_ret (pe_ix ix_list (pe_call GBeatsOfUse (hr.mono (by first | omega | decide)) (by rfl) cBeatsOfUse.m cBeatsOfUse.F.kp cBeatsOfUse.b .nil pass0 (pa_cons (pe_ix ix_tup (pv 0) pe_int (fun _ _ => rfl)) (pa_cons (pe_ix ix_tup (pv 5) (pe_ix ix_tup (pv 0) pe_int (fun _ _ => rfl)) (fun _ _ => rfl)) (pa_cons (pv 1) (pa_cons (pv 3) pa_nil))))) (pe_un un_neg pe_int) (fun _ _ => rfl)))))), ?_⟩
    refine ⟨_, rfl, b, _, rfl, SqT.of hb, rfl, _, _, rfl, _, _, rfl, _, _, rfl, rfl, ?_⟩
    refine ⟨_, rfl, a, r, rfl, ha, _, rfl, ?_⟩
    cases hu : r.uses with
    | false =>
      refine iteT ⟨_, rfl, ?_⟩
      have e : useF y read r = read := by cases r <;> first | rfl | cases hu
      have q := k H (Same.refl _)
      rw [e] at q
      exact q
    | true =>
      have hx1 : ∃ x : Nat, (rowVs r)[1]? = some (.int (x : Int)) ∧ x < y.homes.length ∧ useF y read r = if r.isWd "store" = true then maxL (comes y x read) else minL (comes y x read) := by
        have e := (Row.wd_eq r).2.1
        cases r with
        | load x n => exact ⟨x, rfl, ho.1, by rw [e]; rfl⟩
        | add x n => exact ⟨x, rfl, ho.1, by rw [e]; rfl⟩
        | take x n => exact ⟨x, rfl, ho.1, by rw [e]; rfl⟩
        | store x n => exact ⟨x, rfl, ho.1, by rw [e]; rfl⟩
        | say n => cases hu
        | test a b => cases hu
        | stop => cases hu
      obtain ⟨x, hx, hxl, heq⟩ := hx1
      obtain ⟨cb, hcb1, hcb2⟩ := Paired.getR hH (List.getElem?_eq_getElem hxl)
      have hcV : (cs.map V.ref)[x]? = some (.ref cb) := by rw [List.getElem?_map, hcb1]; rfl
      have hk := hok _ (List.getElem_mem hxl)
      have l1 := hk.l1
      have l3 := hk.l3
      have eg : y.homes.getD x [] = y.homes[x] := by rw [List.getD_eq_getElem?_getD, List.getElem?_eq_getElem hxl]; rfl
      refine iteF ⟨_, rfl, a, _, _, _, rfl, rfl, SqT.of ha, atI_nat (j := 0) (Row.w0 r), _, rfl, _, rfl, a, _, _, _, rfl, rfl, SqT.of ha, atI_nat (j := 1) hx, hl, _, _, _, rfl, rfl, SqT.of hhl, atI_nat hcV, _, rfl, _, rfl, r.word, cb, y.homes[x], read, y.wide, rfl, hcb2, by omega, by omega, fun q ms H1 s1 nq e1 hU => ?_⟩
      refine ⟨_, rfl, q, _, _, _, rfl, rfl, SqL.of e1, useL_last hU (by omega), ?_⟩
      have z := k H1 s1
      rw [heq] at z
      unfold comes at z
      rw [eg] at z
      exact z
theorem scBeatBehind : FnScope ["row", "read", "laying"] ["row", "read", "laying"] (defScope sBeatBehind) := ⟨rfl, rfl, rfl, by decide +kernel, rfl, by decide +kernel, by decide +kernel⟩
theorem ok_beatBehind (c : FBeatBehind K mg) (cBeatOfUse : FBeatOfUse K mg) (cBeatsOfUse : FBeatsOfUse K mg) (cFirstBeat : FFirstBeat K mg) (cUsesWorth : FUsesWorth K mg) (T : Bt mg) (Z : Pt K w mg) (ZW : Pw K w mg) : FnOk P w K mg base CX0 4 c.f c.fd ["row", "read", "laying"] spBeatBehind := by
  have GBeatOfUse : FnOk P w K mg base CX0 3 cBeatOfUse.f cBeatOfUse.fd ["row", "read", "laying"] spBeatOfUse := ok_beatOfUse cBeatOfUse cBeatsOfUse cFirstBeat cUsesWorth T Z
  refine c.F.ok scBeatBehind (fun vs H Q E h => ?_) (fun cdv A outer s H vs Q E hr h => ?_)
  · obtain ⟨a, b, r, read, y, N, rfl, _⟩ := h
    rfl
  · obtain ⟨a, b, r, read, y, N, rfl, ha, hy, w2, hok, ho, k⟩ := h
    refine ⟨_, (pss_one (ps_ret (pe_op op_add (pe_op op_add (pe_call GBeatOfUse (hr.mono (by first | omega | decide)) (by rfl) cBeatOfUse.m cBeatOfUse.F.kp cBeatOfUse.b .nil pass0 (pa_cons (pv 0) (pa_cons (pv 1) (pa_cons (pv 2) pa_nil)))) (pe_ix ix_kdict (pe_glob (v := .ref ZW.d) rfl ZW.m rfl) (pe_ix ix_tup (pv 0) pe_int (fun _ _ => rfl)) (fun _ _ => rfl))) pe_int))), ?_⟩
    refine ⟨_, rfl, _, rfl, _, rfl, a, b, r, read, y, N, rfl, ha, hy, w2, hok, ho, fun H1 s1 => ?_⟩
    refine ⟨_, rfl, a, _, _, _, rfl, rfl, SqT.of (s1 _ _ ha), atI_nat (j := 0) (Row.w0 r), ZW.d, _, _, rfl, rfl, ZW.get r, _, _, rfl, rfl, _, _, rfl, rfl, k H1 s1⟩
abbrev nCost : List Str := ["program", "laying", "begin", "to", "wide", "places", "_", "read", "behind"]
theorem nI_at {l : List Nat} {i : Nat} (h : i < l.length) : (l.map nI)[i]? = some (.int ((l.getD i 0 : Nat) : Int)) := by
  rw [List.getElem?_map, List.getD_eq_getElem?_getD, List.getElem?_eq_getElem h]
  rfl
abbrev nCosts : List Str := ["program", "laying", "begin", "to"]
end
end DL
namespace DL
open PySem L2 DLR
theorem whileE {c : TT} {tb : TS} {D : Ends} {σ : L2.St} {H : Hp} (W : Nat → L2.St → Hp → Prop) (R : L2.St → Hp → Prop) (w0 : ∃ m, W m σ H) (key : ∀ σ' H', R σ' H' → D.nx σ' H')
    (turn : ∀ Nx : L2.St → Hp → Prop, (∀ σ' H', R σ' H' → Nx σ' H') → ∀ m σ H, W m σ H → c σ H fun b H1 => if b = true then ∃ N : L2.St → Hp → Prop, (∀ σ' H', N σ' H' → ∃ m', m' < m ∧ W m' σ' H') ∧ tb { D with nx := N, ct := N, bk := D.nx } σ H1 else Nx σ H1) :
    tWhile c tb D σ H := ⟨W, w0, fun m σ H w => turn D.nx key m σ H w⟩
theorem fb_mod {now : Int} {place W : Nat} (h : place < W) : fb now place W % (W : Int) = (place : Int) := by
  unfold fb
  rw [Int.add_comm, Int.emod_add_emod, Int.sub_add_cancel, Int.emod_eq_of_lt (by omega) (by omega)]
theorem fb_ge {now : Int} {place W : Nat} (h : 0 < W) : now ≤ fb now place W ∧ fb now place W < now + (W : Int) := by
  have a := Int.emod_nonneg ((place : Int) - now) (show (W : Int) ≠ 0 by omega)
  have b := Int.emod_lt_of_pos ((place : Int) - now) (show (0 : Int) < (W : Int) by omega)
  unfold fb
  omega
theorem fb_uniq {now x : Int} {place W : Nat} (h : place < W) (h1 : now ≤ x) (h2 : x ≤ fb now place W) (e : x % (W : Int) = (place : Int)) : x = fb now place W := by
  have b := (fb_ge (now := now) (place := place) (show 0 < W by omega)).2
  have m : (fb now place W - x) % (W : Int) = 0 := by
    rw [Int.sub_emod, fb_mod h, e, Int.sub_self, Int.zero_emod]
  rw [Int.emod_eq_of_lt (by omega) (by omega)] at m
  omega
theorem goesN_mem {rows : List Row} {n u v : Nat} (h : (u, v) ∈ goesN rows n) : u < n ∧ v ∈ tgt (rows.getD u .stop) := by
  obtain ⟨k, hk, h2⟩ := List.mem_flatMap.mp h
  obtain ⟨t, ht, e⟩ := List.mem_map.mp h2
  have e1 := congrArg Prod.fst e
  have e2 := congrArg Prod.snd e
  dsimp only at e1 e2
  subst e1 e2
  exact ⟨List.mem_range.mp hk, ht⟩
theorem nx_lt {r : Row} {W N : Nat} (h : r.ok W N) : ∀ x ∈ nx r, x < N := by
  cases r with
  | load w n => intro x hx; rw [List.mem_singleton.mp hx]; exact h.2
  | add w n => intro x hx; rw [List.mem_singleton.mp hx]; exact h.2
  | take w n => intro x hx; rw [List.mem_singleton.mp hx]; exact h.2
  | store w n => intro x hx; rw [List.mem_singleton.mp hx]; exact h.2
  | say n => intro x hx; rw [List.mem_singleton.mp hx]; exact h
  | test a b =>
    intro x hx
    rcases List.mem_cons.mp hx with e | e
    · rw [e]; exact h.1
    · rw [List.mem_singleton.mp e]; exact h.2
  | stop => intro x hx; cases hx
theorem goesN_lt {p : Prog} (g : Good p) {u v : Nat} (h : (u, v) ∈ goesN p.rows p.rows.length) : u < p.rows.length ∧ v < p.rows.length := by
  obtain ⟨h1, h2⟩ := goesN_mem h
  have er : p.rows.getD u .stop = p.rows[u] := by rw [List.getD_eq_getElem?_getD, List.getElem?_eq_getElem h1]; rfl
  rw [er] at h2
  exact ⟨h1, nx_lt (g.ok _ (List.getElem_mem h1)) v ((tgt_mem _ _).mp h2)⟩
def spWait : Sp := fun vs H Q _ => ∃ (now : Int) (place W : Nat), vs = [.int now, .int (place : Int), .int (W : Int)] ∧ place < W ∧ Q (.int (fb now place W)) H
def kAd : Key := .inr "add"
def kTk : Key := .inr "take"
def kSy : Key := .inr "say"
def kSp : Key := .inr "stop"
theorem extra (r : Row) : (valV (mergeK [] [(kAd, V.int 2), (kTk, V.int 2), (kSy, V.int 3), (kSp, V.int 0)]) (.inr r.word)).getD (.int 1) = .int (work r) := by
  cases r <;> (dsimp only [Row.word, work]; decide +kernel)
theorem store_at (r : Row) : (0 : Int) - (if decide (V.str r.word = V.str "store") = true then 1 else 0) = if r.isWd "store" = true then -1 else 0 := by
  show (0 : Int) - (if r.isWd "store" = true then 1 else 0) = _
  cases r.isWd "store" <;> decide
section
variable {P : Program} {w : World} {K : PySem.W.Frag} {mg : Str → Option Value} {base : Heap}
end
end DL
namespace DL
open PySem L2 DLR
/-! ### the goes of a run: each may be, each once; they agree; from row 0 they come to all rows gone from -/
def cntV (e : (Int × Int) × V) : Int := gcount (some e.2)
def sumBy (f : Int × Int → Bool) (g : GL) : Int := (g.map fun e => if f e.1 = true then cntV e else 0).sum
theorem sumBy_cons (f : Int × Int → Bool) (e : (Int × Int) × V) (g : GL) : sumBy f (e :: g) = (if f e.1 = true then cntV e else 0) + sumBy f g := by
  unfold sumBy
  rw [List.map_cons, List.sum_cons]
theorem sumBy_app (f : Int × Int → Bool) : ∀ (g h : GL), sumBy f (g ++ h) = sumBy f g + sumBy f h
  | [], h => by unfold sumBy; simp
  | e :: g, h => by
    rw [List.cons_append, sumBy_cons, sumBy_cons, sumBy_app f g h]
    omega
theorem put_in {g : GL} {q : Int × Int} {v : V} (h : q ∈ g.map (·.1)) : putK g q v = g.map fun x => if x.1 = q then (x.1, v) else x := by
  unfold putK
  rw [if_pos]
  obtain ⟨e, he, hq⟩ := List.mem_map.mp h
  exact List.any_eq_true.mpr ⟨e, he, decide_eq_true hq⟩
theorem put_out {g : GL} {q : Int × Int} {v : V} (h : q ∉ g.map (·.1)) : putK g q v = g ++ [(q, v)] := by
  unfold putK
  rw [if_neg]
  intro z
  obtain ⟨e, he, hq⟩ := List.any_eq_true.mp z
  exact h (List.mem_map.mpr ⟨e, he, of_decide_eq_true hq⟩)
theorem valV_no {g : GL} {q : Int × Int} (h : q ∉ g.map (·.1)) : valV g q = none := by
  cases e : valV g q with
  | none => rfl
  | some v =>
    exfalso
    have aux : ∀ g : GL, valV g q = some v → q ∈ g.map (·.1) := by
      intro g
      induction g with
      | nil => intro z; cases z
      | cons x g ih =>
        intro z
        by_cases c : x.1 = q
        · exact List.mem_map.mpr ⟨x, List.mem_cons_self, c⟩
        · rw [valV_neg c] at z
          obtain ⟨y, hy, hq⟩ := List.mem_map.mp (ih z)
          exact List.mem_map.mpr ⟨y, List.mem_cons_of_mem _ hy, hq⟩
    exact h (aux g e)
theorem map_same {g : GL} {q : Int × Int} {v : V} (h : q ∉ g.map (·.1)) : (g.map fun x => if x.1 = q then (x.1, v) else x) = g := by
  have : (g.map fun x => if x.1 = q then (x.1, v) else x) = g.map id := List.map_congr_left fun x hx => by
    rw [if_neg fun z => h (List.mem_map.mpr ⟨x, hx, z⟩)]
    rfl
  rw [this, List.map_id]
theorem sum_bump_in (f : Int × Int → Bool) {q : Int × Int} {c : Int} : ∀ {g : GL}, (g.map (·.1)).Nodup → valV g q = some (.int c) →
    sumBy f (g.map fun x => if x.1 = q then (x.1, V.int (c + 1)) else x) = sumBy f g + if f q = true then 1 else 0
  | [], _, h => by cases h
  | e :: g, nd, h => by
    have nd2 : e.1 ∉ g.map (·.1) ∧ (g.map (·.1)).Nodup := List.nodup_cons.mp nd
    by_cases z : e.1 = q
    · rw [valV_pos z] at h
      have hv : e.2 = .int c := Option.some.inj h
      rw [List.map_cons, sumBy_cons, sumBy_cons, if_pos z, map_same (by rw [← z]; exact nd2.1)]
      show (if f e.1 = true then c + 1 else 0) + sumBy f g = _
      have hc : cntV e = c := by unfold cntV; rw [hv]; rfl
      rw [hc, z]
      cases f q
      · simp
      · simp; omega
    · rw [valV_neg z] at h
      rw [List.map_cons, sumBy_cons, sumBy_cons, if_neg z, sum_bump_in f nd2.2 h]
      omega
theorem sum_bump (f : Int × Int → Bool) {g : GL} {q : Int × Int} (nd : (g.map (·.1)).Nodup) (ok : ∀ e ∈ g, ∃ c, e.2 = V.int c) : sumBy f (bump g q) = sumBy f g + if f q = true then 1 else 0 := by
  unfold bump
  by_cases h : q ∈ g.map (·.1)
  · rw [put_in h]
    exact sum_bump_in f nd (ggot ok h)
  · rw [put_out h, valV_no h, sumBy_app]
    unfold sumBy
    show _ + ((if f q = true then (0 : Int) + 1 else 0) + 0) = _
    cases f q <;> simp
theorem keys_bump {g : GL} {q : Int × Int} : (bump g q).map (·.1) = if q ∈ g.map (·.1) then g.map (·.1) else g.map (·.1) ++ [q] := by
  unfold bump
  by_cases h : q ∈ g.map (·.1)
  · rw [put_in h, if_pos h, List.map_map]
    refine List.map_congr_left fun x _ => ?_
    show (if x.1 = q then (x.1, _) else x).1 = x.1
    split <;> rfl
  · rw [put_out h, if_neg h, List.map_append]
    rfl
theorem mem_bump {g : GL} {q : Int × Int} {e : (Int × Int) × V} (h : e ∈ bump g q) : e ∈ g ∨ e = (q, .int (gcount (valV g q) + 1)) := by
  unfold bump at h
  by_cases z : q ∈ g.map (·.1)
  · rw [put_in z] at h
    obtain ⟨x, hx, rfl⟩ := List.mem_map.mp h
    by_cases c : x.1 = q
    · right; rw [if_pos c, c]
    · left; rw [if_neg c]; exact hx
  · rw [put_out z] at h
    rcases List.mem_append.mp h with q1 | q1
    · exact .inl q1
    · exact .inr (List.mem_singleton.mp q1)
def GoKey (p : Prog) (k : Nat) (e : (Int × Int) × V) : Prop := ∃ (b t : Nat) (c : Int), e = (((b : Int), (t : Int)), .int c) ∧ b < p.rows.length ∧ t ∈ tgt (p.rows.getD b .stop) ∧ 1 ≤ c ∧ c ≤ (k : Int)
def inF (x : Nat) (q : Int × Int) : Bool := decide (q.2 = (x : Int))
def outF (x : Nat) (q : Int × Int) : Bool := decide (q.1 = (x : Int))
structure GInv (p : Prog) (k : Nat) (s : RS) (cur : Nat) : Prop where
  at_ : s.here = some cur ∨ (s.here = none ∧ p.rows.getD cur .stop = .stop)
  key : ∀ e ∈ s.goes, GoKey p k e
  nd : (s.goes.map (·.1)).Nodup
  flow : ∀ x : Nat, sumBy (inF x) s.goes - sumBy (outF x) s.goes + (if x = 0 then 1 else 0) = if x = cur then 1 else 0
  reach : ∀ F : Nat → Prop, F 0 → (∀ q ∈ s.goes.map (·.1), F q.1.toNat → F q.2.toNat) → F cur ∧ ∀ q ∈ s.goes.map (·.1), F q.1.toNat
theorem tgt_step {m : Mach} {r : Row} {n : Nat} (h : (stepM m r).2 = some n) : n ∈ tgt r := by
  cases r with
  | load w k => have e : k = n := Option.some.inj h; subst e; exact List.mem_singleton.mpr rfl
  | add w k => have e : k = n := Option.some.inj h; subst e; exact List.mem_singleton.mpr rfl
  | take w k => have e : k = n := Option.some.inj h; subst e; exact List.mem_singleton.mpr rfl
  | store w k => have e : k = n := Option.some.inj h; subst e; exact List.mem_singleton.mpr rfl
  | say k => have e : k = n := Option.some.inj h; subst e; exact List.mem_singleton.mpr rfl
  | test a b =>
    have e : (if m.desk = 0 then a else b) = n := Option.some.inj h
    rw [tgt_mem, ← e]
    show (if m.desk = 0 then a else b) ∈ [a, b]
    split <;> simp
  | stop => cases h
theorem GoKey.mono {p : Prog} {k : Nat} {e : (Int × Int) × V} (h : GoKey p k e) : GoKey p (k + 1) e := by
  obtain ⟨b, t, c, h1, h2, h3, h4, h5⟩ := h
  exact ⟨b, t, c, h1, h2, h3, h4, by omega⟩
theorem runS_goE {p : Prog} {j r : Nat} (hh : (runS p j).here = some r) : runS p (j + 1) = ⟨(stepM (runS p j).m (p.rows.getD r .stop)).1, (runS p j).cnt.set r ((runS p j).cnt.getD r 0 + 1), goesOf (runS p j).goes r (stepM (runS p j).m (p.rows.getD r .stop)).2, (stepM (runS p j).m (p.rows.getD r .stop)).2⟩ := by
  show turnS p.rows (runS p j) = _
  unfold turnS
  rw [hh]
theorem runS_goes {p : Prog} (g : Good p) : ∀ k, ∃ cur, GInv p k (runS p k) cur
  | 0 => by
    refine ⟨0, .inl rfl, fun e h => absurd h (by simp [runS, startS]), List.nodup_nil, fun x => ?_, fun F h0 _ => ⟨h0, fun q h => absurd h (by simp [runS, startS])⟩⟩
    show (0 : Int) - 0 + _ = _
    omega
  | k + 1 => by
    obtain ⟨cur, I⟩ := runS_goes g k
    have O := runS_ok g k
    rcases I.at_ with hh | ⟨hn, hst⟩
    · have e := runS_goE hh
      have hr := O.here cur hh
      cases ho : (stepM (runS p k).m (p.rows.getD cur .stop)).2 with
      | none =>
        refine ⟨cur, .inr ⟨by rw [e, ho], ?_⟩, ?_, ?_, ?_, ?_⟩
        · cases hrow : p.rows.getD cur .stop with
          | stop => rfl
          | load _ _ => rw [hrow] at ho; cases ho
          | add _ _ => rw [hrow] at ho; cases ho
          | take _ _ => rw [hrow] at ho; cases ho
          | store _ _ => rw [hrow] at ho; cases ho
          | say _ => rw [hrow] at ho; cases ho
          | test _ _ => rw [hrow] at ho; cases ho
        all_goals (rw [e, ho])
        · exact fun x hx => (I.key x hx).mono
        · exact I.nd
        · exact I.flow
        · exact I.reach
      | some n =>
        have egoes : (runS p (k + 1)).goes = bump (runS p k).goes ((cur : Int), (n : Int)) := by rw [e, ho]; rfl
        refine ⟨n, .inl (by rw [e, ho]), ?_, ?_, ?_, ?_⟩
        all_goals (rw [egoes])
        · intro x hx
          rcases mem_bump hx with q | q
          · exact (I.key x q).mono
          · refine ⟨cur, n, _, q, hr, tgt_step ho, ?_, ?_⟩
            · cases hv : valV (runS p k).goes ((cur : Int), (n : Int)) with
              | none => decide
              | some v =>
                obtain ⟨y, hy, hy2⟩ := valV_mem hv
                obtain ⟨b, t, c, h1, h2, h3, h4, h5⟩ := I.key y hy
                rw [← hy2, h1]
                show 1 ≤ c + 1
                omega
            · cases hv : valV (runS p k).goes ((cur : Int), (n : Int)) with
              | none => show (0 : Int) + 1 ≤ _; omega
              | some v =>
                obtain ⟨y, hy, hy2⟩ := valV_mem hv
                obtain ⟨b, t, c, h1, h2, h3, h4, h5⟩ := I.key y hy
                rw [← hy2, h1]
                show c + 1 ≤ _
                omega
        · rw [keys_bump]
          split
          · exact I.nd
          · rename_i h
            exact List.nodup_append.mpr ⟨I.nd, by simp, fun a ha b hb z => h (by rw [← List.mem_singleton.mp hb, ← z]; exact ha)⟩
        · intro x
          rw [sum_bump _ I.nd O.gok, sum_bump _ I.nd O.gok]
          have fl := I.flow x
          unfold inF outF at *
          simp only [decide_eq_true_eq] at *
          by_cases c1 : n = x <;> by_cases c2 : cur = x <;> simp_all <;> omega
        · intro F h0 cl
          have hk : ∀ q ∈ (runS p k).goes.map (·.1), q ∈ (bump (runS p k).goes ((cur : Int), (n : Int))).map (·.1) := by
            intro q hq
            rw [keys_bump]
            split
            · exact hq
            · exact List.mem_append_left _ hq
          have hnew : ((cur : Int), (n : Int)) ∈ (bump (runS p k).goes ((cur : Int), (n : Int))).map (·.1) := by
            rw [keys_bump]
            split
            · assumption
            · exact List.mem_append_right _ (List.mem_singleton.mpr rfl)
          obtain ⟨r1, r2⟩ := I.reach F h0 fun q hq => cl q (hk q hq)
          refine ⟨cl _ hnew r1, fun q hq => ?_⟩
          rw [keys_bump] at hq
          split at hq
          · exact r2 q hq
          · rcases List.mem_append.mp hq with z | z
            · exact r2 q z
            · rw [List.mem_singleton.mp z]
              exact r1
    · have e : runS p (k + 1) = runS p k := by
        show turnS p.rows (runS p k) = _
        unfold turnS
        rw [hn]
      refine ⟨cur, ?_⟩
      rw [e]
      exact ⟨.inr ⟨hn, hst⟩, fun x hx => (I.key x hx).mono, I.nd, I.flow, I.reach⟩
end DL
namespace DL
open PySem L2 DLR
abbrev GoL := List ((Nat × Nat) × Int)
def goVs (e : (Nat × Nat) × Int) : List V := [nI e.1.1, nI e.1.2, .int e.2]
abbrev GoesAt (H : Hp) (bs : List Addr) (G : GoL) : Prop := Paired (fun b e => H b = some (.tup (goVs e))) bs G
theorem GoesAt.kp {H H' : Hp} {bs : List Addr} {G : GoL} (h : GoesAt H bs G) (k : Kp H H') : GoesAt H' bs G := Paired.mapP h fun b x e => k _ _ e
def sumG (f : Nat × Nat → Bool) (G : GoL) : Int := (G.map fun e => if f e.1 = true then e.2 else 0).sum
structure Goes (p : Prog) (G : GoL) : Prop where
  key : ∀ e ∈ G, e.1.1 < p.rows.length ∧ e.1.2 ∈ tgt (p.rows.getD e.1.1 .stop) ∧ 1 ≤ e.2 ∧ e.2 ≤ 5000
  nd : (G.map (·.1)).Nodup
  flow : ∀ x : Nat, p.rows.getD x .stop ≠ .stop → sumG (fun q => decide (q.2 = x)) G - sumG (fun q => decide (q.1 = x)) G + (if x = 0 then 1 else 0) = 0
  reach : ∀ F : Nat → Prop, F 0 → (∀ e ∈ G, F e.1.1 → F e.1.2) → ∀ e ∈ G, F e.1.1
theorem perm_sum {α : Type} {f : α → Int} {l m : List α} (h : l.Perm m) : (l.map f).sum = (m.map f).sum := by
  induction h with
  | nil => rfl
  | cons x _ ih => rw [List.map_cons, List.map_cons, List.sum_cons, List.sum_cons, ih]
  | swap x y l =>
    rw [List.map_cons, List.map_cons, List.map_cons, List.map_cons, List.sum_cons, List.sum_cons, List.sum_cons, List.sum_cons]
    omega
  | trans _ _ a b => rw [a, b]
theorem valV_at : ∀ {g : GL} {e : (Int × Int) × V}, (g.map (·.1)).Nodup → e ∈ g → valV g e.1 = some e.2
  | [], _, _, h => by cases h
  | x :: g, e, nd, h => by
    have nd2 : x.1 ∉ g.map (·.1) ∧ (g.map (·.1)).Nodup := List.nodup_cons.mp nd
    rcases List.mem_cons.mp h with q | q
    · subst q; exact valV_pos rfl
    · rw [valV_neg fun z => nd2.1 (List.mem_map.mpr ⟨e, q, z.symm⟩)]
      exact valV_at nd2.2 q
theorem sumBy_keys (f : Int × Int → Bool) {g : GL} (nd : (g.map (·.1)).Nodup) : sumBy f g = ((g.map (·.1)).map fun q => if f q = true then gcount (valV g q) else 0).sum := by
  unfold sumBy
  rw [List.map_map]
  congr 1
  refine List.map_congr_left fun e he => ?_
  show (if f e.1 = true then cntV e else 0) = if f e.1 = true then gcount (valV g e.1) else 0
  rw [valV_at nd he]
  rfl
def goOf (g : GL) (q : Int × Int) : (Nat × Nat) × Int := ((q.1.toNat, q.2.toNat), gcount (valV g q))
theorem Goes.of {p : Prog} {s : RS} {cur k : Nat} {L : List (Int × Int)} (hk : k ≤ 5000) (I : GInv p k s cur) (hn : s.here = none) (pm : L.Perm (s.goes.map (·.1))) : Goes p (L.map (goOf s.goes)) ∧ ∀ q ∈ L, goVs (goOf s.goes q) = [.int q.1, .int q.2, .int (gcount (valV s.goes q))] := by
  have kq : ∀ q ∈ L, ∃ (b t : Nat) (c : Int), q = ((b : Int), (t : Int)) ∧ b < p.rows.length ∧ t ∈ tgt (p.rows.getD b .stop) ∧ 1 ≤ c ∧ c ≤ (k : Int) ∧ gcount (valV s.goes q) = c := by
    intro q hq
    obtain ⟨e, he, rfl⟩ := List.mem_map.mp (pm.mem_iff.mp hq)
    obtain ⟨b, t, c, h1, h2, h3, h4, h5⟩ := I.key e he
    refine ⟨b, t, c, by rw [h1], h2, h3, h4, h5, ?_⟩
    rw [valV_at I.nd he, h1]
    rfl
  have hst : p.rows.getD cur .stop = .stop := by
    rcases I.at_ with h | h
    · rw [hn] at h; cases h
    · exact h.2
  have sums : ∀ (f : Nat × Nat → Bool) (f' : Int × Int → Bool), (∀ q ∈ L, f (q.1.toNat, q.2.toNat) = f' q) → sumG f (L.map (goOf s.goes)) = sumBy f' s.goes := by
    intro f f' hf
    rw [sumBy_keys f' I.nd, ← perm_sum pm]
    unfold sumG
    rw [List.map_map]
    congr 1
    refine List.map_congr_left fun q hq => ?_
    show (if f (q.1.toNat, q.2.toNat) = true then gcount (valV s.goes q) else 0) = _
    rw [hf q hq]
  refine ⟨⟨fun e he => ?_, ?_, fun x hx => ?_, fun F h0 cl e he => ?_⟩, fun q hq => ?_⟩
  · obtain ⟨q, hq, rfl⟩ := List.mem_map.mp he
    obtain ⟨b, t, c, rfl, h2, h3, h4, h5, h6⟩ := kq q hq
    refine ⟨h2, h3, ?_, ?_⟩
    · show 1 ≤ gcount _; omega
    · show gcount _ ≤ 5000; omega
  · rw [List.map_map]
    have nd := pm.nodup_iff.mpr I.nd
    refine List.pairwise_map.mpr (nd.imp_of_mem fun {a b} ha hb ne z => ne ?_)
    obtain ⟨b1, t1, c1, rfl, _⟩ := kq a ha
    obtain ⟨b2, t2, c2, rfl, _⟩ := kq b hb
    have z1 : b1 = b2 := congrArg Prod.fst z
    have z2 : t1 = t2 := congrArg Prod.snd z
    rw [z1, z2]
  · have fl := I.flow x
    rw [if_neg (show ¬ x = cur from fun z => hx (by rw [z]; exact hst))] at fl
    have sa := sums (fun q => decide (q.2 = x)) (inF x) fun q hq => by
      obtain ⟨b, t, c, rfl, _⟩ := kq q hq
      show decide (t = x) = decide ((t : Int) = (x : Int))
      exact decide_eq_decide.mpr (by omega)
    have sb := sums (fun q => decide (q.1 = x)) (outF x) fun q hq => by
      obtain ⟨b, t, c, rfl, _⟩ := kq q hq
      show decide (b = x) = decide ((b : Int) = (x : Int))
      exact decide_eq_decide.mpr (by omega)
    rw [sa, sb]
    exact fl
  · obtain ⟨q, hq, rfl⟩ := List.mem_map.mp he
    refine (I.reach F h0 fun z hz => ?_).2 q (pm.mem_iff.mp hq)
    exact cl (goOf s.goes z) (List.mem_map.mpr ⟨z, pm.mem_iff.mpr hz, rfl⟩)
  · obtain ⟨b, t, c, rfl, _⟩ := kq q hq
    rfl
def beatsF (y : Lay) (rows : List Row) (G : GoL) : Int := ((y.places.getD 0 0 : Nat) : Int) + 1 + (G.map fun e => e.2 * costF y rows e.1.1 e.1.2).sum
def spLNexts : Sp := fun vs H Q _ => ∃ (a : Addr) (r : Row), vs = [.ref a] ∧ H a = some (.tup (rowVs r)) ∧ ∀ l H', Same1 H H' → H l = none → H' l = some (.lst ((tgt r).map nI)) → Q (.ref l) H'
theorem goesN_has {p : Prog} {u v : Nat} (h1 : u < p.rows.length) (h2 : v ∈ tgt (p.rows.getD u .stop)) : (u, v) ∈ goesN p.rows p.rows.length :=
  List.mem_flatMap.mpr ⟨u, List.mem_range.mpr h1, List.mem_map.mpr ⟨v, h2, rfl⟩⟩
theorem last_row (r : Row) : (if r.isWd "test" = true then (rowVs r).drop 1 else cutV (rowVs r) (some (-1)) none) = if r.isWd "stop" = true then cutV (rowVs r) (some (-1)) none else (nx r).map nI := by
  rw [(Row.wd_eq r).1, (Row.wd_eq r).2.2.2]
  cases r <;> rfl
section
variable {P : Program} {w : World} {K : PySem.W.Frag} {mg : Str → Option Value} {base : Heap}
end
end DL
namespace DL
open PySem L2 DLR
/-! ### a drum that turns -/
structure Uk (K : Frg) (mg : Str → Option Value) (C : Addr) : Prop where
  cl : Cls K C
  nR : NoAttr K C "rows"
  nL : NoAttr K C "laying"
  nD : NoAttr K C "desk"
  nW : NoAttr K C "row"
  nN : NoAttr K C "now"
  m : mg "Drum" = some (.ref C)
abbrev gR : Str := "rows"
abbrev gL : Str := "laying"
abbrev gD : Str := "desk"
abbrev gW : Str := "row"
abbrev gN : Str := "now"
theorem g_RL : gR ≠ gL := by decide +kernel
theorem g_RD : gR ≠ gD := by decide +kernel
theorem g_RW : gR ≠ gW := by decide +kernel
theorem g_RN : gR ≠ gN := by decide +kernel
theorem g_LD : gL ≠ gD := by decide +kernel
theorem g_LW : gL ≠ gW := by decide +kernel
theorem g_LN : gL ≠ gN := by decide +kernel
theorem g_DW : gD ≠ gW := by decide +kernel
theorem g_DN : gD ≠ gN := by decide +kernel
theorem g_WN : gW ≠ gN := by decide +kernel
structure DrumF (fs : List (Str × V)) (ra la ad : Addr) (here : Option Nat) (now : Int) : Prop where
  len : fs.length ≤ 100
  r : fs.lookup gR = some (.ref ra)
  l : fs.lookup gL = some (.ref la)
  d : fs.lookup gD = some (.ref ad)
  w : fs.lookup gW = some (oV here)
  n : fs.lookup gN = some (.int now)
  o : ∀ x, x ≠ gR → x ≠ gL → x ≠ gD → x ≠ gW → x ≠ gN → fs.lookup x = none
theorem DrumF.putN {fs : List (Str × V)} {ra la ad : Addr} {here : Option Nat} {now z : Int} (h : DrumF fs ra la ad here now) : DrumF (putF gN (.int z) fs) ra la ad here z := by
  refine ⟨by rw [put_len2 h.n]; exact h.len, ?_, ?_, ?_, ?_, ?_, fun x a b c d e => ?_⟩
  · rw [lookup_putF, if_neg g_RN]; exact h.r
  · rw [lookup_putF, if_neg g_LN]; exact h.l
  · rw [lookup_putF, if_neg g_DN]; exact h.d
  · rw [lookup_putF, if_neg g_WN]; exact h.w
  · rw [lookup_putF, if_pos rfl]
  · rw [lookup_putF, if_neg e]; exact h.o x a b c d e
theorem DrumF.putW {fs : List (Str × V)} {ra la ad : Addr} {here z : Option Nat} {now : Int} (h : DrumF fs ra la ad here now) : DrumF (putF gW (oV z) fs) ra la ad z now := by
  refine ⟨by rw [put_len2 h.w]; exact h.len, ?_, ?_, ?_, ?_, ?_, fun x a b c d e => ?_⟩
  · rw [lookup_putF, if_neg g_RW]; exact h.r
  · rw [lookup_putF, if_neg g_LW]; exact h.l
  · rw [lookup_putF, if_neg g_DW]; exact h.d
  · rw [lookup_putF, if_pos rfl]
  · rw [lookup_putF, if_neg g_WN.symm]; exact h.n
  · rw [lookup_putF, if_neg d]; exact h.o x a b c d e
structure DS where
  m : Mach
  here : Option Nat
  now : Int
def readD (y : Lay) (s : DS) (r : Nat) : Int := fb s.now (y.places.getD r 0) y.wide
def goD1 (p : Prog) (y : Lay) (s : DS) (r : Nat) : DS := ⟨(stepM s.m (p.rows.getD r .stop)).1, (stepM s.m (p.rows.getD r .stop)).2, behindF y (p.rows.getD r .stop) (readD y s r)⟩
def turnD (p : Prog) (y : Lay) (s : DS) : DS := match s.here with
  | none => s
  | some r => goD1 p y s r
def startD (p : Prog) : DS := ⟨⟨0, p.ws, []⟩, some 0, 0⟩
def spinS (p : Prog) (y : Lay) : Nat → DS
  | 0 => startD p
  | k + 1 => turnD p y (spinS p y k)
theorem spin_run (p : Prog) (y : Lay) : ∀ k, (spinS p y k).m = (runS p k).m ∧ (spinS p y k).here = (runS p k).here
  | 0 => ⟨rfl, rfl⟩
  | k + 1 => by
    obtain ⟨h1, h2⟩ := spin_run p y k
    show (turnD p y (spinS p y k)).m = (turnS p.rows (runS p k)).m ∧ (turnD p y (spinS p y k)).here = (turnS p.rows (runS p k)).here
    unfold turnD turnS
    rw [h2]
    cases (runS p k).here with
    | none => exact ⟨h1, h2⟩
    | some r =>
      show (stepM (spinS p y k).m _).1 = _ ∧ (stepM (spinS p y k).m _).2 = _
      rw [h1]
      exact ⟨rfl, rfl⟩
theorem spin_end {p : Prog} {y : Lay} {j : Nat} (h : (spinS p y j).here = none) : ∀ k, spinS p y (j + k) = spinS p y j
  | 0 => rfl
  | k + 1 => by
    show turnD p y (spinS p y (j + k)) = _
    rw [spin_end h k]
    unfold turnD
    rw [h]
structure DrumAt (CD C : Addr) (p : Prog) (y : Lay) (H : Hp) (q ad aw as_ : Addr) (s : DS) : Prop where
  ins : ∃ (dx : Addr) (fs : List (Str × V)) (ra la : Addr) (bs : List Addr), H q = some (.ins CD dx fs) ∧ DrumF fs ra la ad s.here s.now ∧ H ra = some (.tup (bs.map V.ref)) ∧ RowsAt H bs p.rows ∧ LayAt H la y
  mach : DeskM C H ad aw as_ s.m
  ne : q ≠ ad
def But4 (q a b c : Addr) (H H' : Hp) : Prop := ∀ x o, x ≠ q → x ≠ a → x ≠ b → x ≠ c → H x = some o → H' x = some o
theorem But4.trans {q a b c : Addr} {H H1 H2 : Hp} (s : But4 q a b c H H1) (t : But4 q a b c H1 H2) : But4 q a b c H H2 := fun x o h0 h1 h2 h3 h => t x o h0 h1 h2 h3 (s x o h0 h1 h2 h3 h)
theorem But4.same {q a b c : Addr} {H H' : Hp} (s : Same1 H H') : But4 q a b c H H' := fun x o _ _ _ _ h => s x o h
theorem But4.but3 {q a b c : Addr} {H H' : Hp} (s : But3 a b c H H') : But4 q a b c H H' := fun x o _ h1 h2 h3 h => s x o h1 h2 h3 h
theorem But4.but {q a b c : Addr} {H H' : Hp} (s : But q H H') : But4 q a b c H H' := fun x o h _ _ _ e => s x o h e
theorem DrumAt.ne2 {CD C : Addr} {p : Prog} {y : Lay} {H : Hp} {q ad aw as_ : Addr} {s : DS} (h : DrumAt CD C p y H q ad aw as_ s) : aw ≠ q ∧ as_ ≠ q := by
  obtain ⟨dx, fs, ra, la, bs, h1, _⟩ := h.ins
  exact ⟨ne_of h.mach.ws h1 (by intro z; cases z), ne_of h.mach.said h1 (by intro z; cases z)⟩
theorem RowsAt.by {H H' : Hp} {bs : List Addr} {rows : List Row} (h : RowsAt H bs rows) (k : ∀ b o, H b = some (.tup o) → H' b = some (.tup o)) : RowsAt H' bs rows := h.kp k
theorem DrumAt.kp4 {CD C : Addr} {p : Prog} {y : Lay} {H : Hp} {q ad aw as_ : Addr} {s : DS} (h : DrumAt CD C p y H q ad aw as_ s) {H' : Hp} (b : But4 q ad aw as_ H H') : Kp H H' := by
  obtain ⟨dx, fs, ra, la, bs, h1, _⟩ := h.ins
  obtain ⟨dx2, fs2, g1, _⟩ := h.mach.ins
  intro x o e
  exact b _ _ (ne_of e h1 (by intro z; cases z)) (ne_of e g1 (by intro z; cases z)) (ne_of e h.mach.ws (by intro z; cases z)) (ne_of e h.mach.said (by intro z; cases z)) e
theorem DrumAt.same {CD C : Addr} {p : Prog} {y : Lay} {H H' : Hp} {q ad aw as_ : Addr} {s : DS} (h : DrumAt CD C p y H q ad aw as_ s) (t : Same1 H H') : DrumAt CD C p y H' q ad aw as_ s := by
  obtain ⟨dx, fs, ra, la, bs, h1, h2, h3, h4, h5⟩ := h.ins
  exact ⟨⟨dx, fs, ra, la, bs, t _ _ h1, h2, t _ _ h3, h4.kp (Kp.same t), h5.kp (Kp.same t)⟩, h.mach.same t, h.ne⟩
end DL
namespace DL
open PySem L2 DLR
abbrev sUInit : Stmt := inClass (top 50) 0
abbrev sUTurn : Stmt := inClass (top 50) 1
abbrev sUBeat : Stmt := inClass (top 50) 2
abbrev sUSays : Stmt := inClass (top 50) 3
abbrev sUOver : Stmt := inClass (top 50) 5
def spUInit (CD C : Addr) : Sp := fun vs H Q _ => ∃ (q dx pa ya : Addr) (p : Prog) (y : Lay), vs = [.ref q, .ref pa, .ref ya] ∧ H q = some (.ins CD dx []) ∧ ProgAt H pa p ∧ Good p ∧ LayAt H ya y ∧ LayOk p y ∧
  ∀ ad aw as_ H', (∀ x o, x ≠ q → H x = some o → H' x = some o) → H ad = none → H aw = none → H as_ = none → DrumAt CD C p y H' q ad aw as_ (startD p) → Q .non H'
def spUTurn (CD C : Addr) : Sp := fun vs H Q _ => ∃ (q ad aw as_ : Addr) (p : Prog) (y : Lay) (s : DS) (r : Nat), vs = [.ref q] ∧ DrumAt CD C p y H q ad aw as_ s ∧ Good p ∧ LayOk p y ∧ MOk s.m ∧ s.m.ws.length = p.ws.length ∧ s.m.said.length ≤ 9000 ∧ s.here = some r ∧ r < p.rows.length ∧
  ∀ t H', But4 q ad aw as_ H H' → H t = none → H' t = some (.tup [nI r, .int (readD y s r)]) → DrumAt CD C p y H' q ad aw as_ (goD1 p y s r) → Q (.ref t) H'
def spUBeat (CD C : Addr) : Sp := fun vs H Q _ => ∃ (q ad aw as_ : Addr) (p : Prog) (y : Lay) (s : DS), vs = [.ref q] ∧ DrumAt CD C p y H q ad aw as_ s ∧ Q (.int s.now) H
def spUOver (CD C : Addr) : Sp := fun vs H Q _ => ∃ (q ad aw as_ : Addr) (p : Prog) (y : Lay) (s : DS), vs = [.ref q] ∧ DrumAt CD C p y H q ad aw as_ s ∧ Q (.bl (decide (s.here = none))) H
def spUSays (CD C : Addr) : Sp := fun vs H Q _ => ∃ (q ad aw as_ : Addr) (p : Prog) (y : Lay) (s : DS), vs = [.ref q] ∧ DrumAt CD C p y H q ad aw as_ s ∧ ∀ l H', Same1 H H' → H l = none → H' l = some (.lst (s.m.said.map V.int)) → Q (.ref l) H'
def spUHolds (CD C : Addr) : Sp := fun vs H Q _ => ∃ (q ad aw as_ : Addr) (p : Prog) (y : Lay) (s : DS), vs = [.ref q] ∧ DrumAt CD C p y H q ad aw as_ s ∧ ∀ l H', Same1 H H' → H l = none → H' l = some (.lst (s.m.ws.map V.int)) → Q (.ref l) H'
theorem oV_non (h : Option Nat) : decide (oV h = V.non) = decide (h = none) := by
  cases h with
  | none => rfl
  | some n => exact (by decide +kernel : decide (V.int 0 = V.non) = false) ▸ (decide_eq_false (by intro z; cases z)).trans (decide_eq_false (by intro z; cases z)).symm
section
variable {P : Program} {w : World} {K : PySem.W.Frag} {mg : Str → Option Value} {base : Heap} {C0 CD : Addr}
theorem scUInit : FnScope ["self", "program", "laying"] ["self", "program", "laying"] (defScope sUInit) := ⟨rfl, rfl, rfl, by decide +kernel, rfl, by decide +kernel, by decide +kernel⟩
theorem scUTurn : FnScope ["self", "number", "row", "wide", "places", "_", "read"] ["self"] (defScope sUTurn) := ⟨rfl, rfl, rfl, by decide +kernel, rfl, by decide +kernel, by decide +kernel⟩
theorem scUBeat : FnScope ["self"] ["self"] (defScope sUBeat) := ⟨rfl, rfl, rfl, by decide +kernel, rfl, by decide +kernel, by decide +kernel⟩
theorem scUSays : FnScope ["self"] ["self"] (defScope sUSays) := ⟨rfl, rfl, rfl, by decide +kernel, rfl, by decide +kernel, by decide +kernel⟩
theorem scUOver : FnScope ["self"] ["self"] (defScope sUOver) := ⟨rfl, rfl, rfl, by decide +kernel, rfl, by decide +kernel, by decide +kernel⟩
theorem ok_ubeat {f : Addr} {fd : FuncData} (F : Fun K "beat" "Drum.beat" sUBeat f fd) (TU : Uk K mg CD) : FnOk P w K mg base CX0 1 f fd ["self"] (spUBeat CD C0) := by
  refine F.ok scUBeat (fun vs H Q E h => ?_) (fun cdv A outer s H vs Q E hr h => ?_)
  · obtain ⟨q, ad, aw, as_, p, y, s, rfl, _⟩ := h
    rfl
  · obtain ⟨q, ad, aw, as_, p, y, s, rfl, hD, k⟩ := h
    obtain ⟨dx, fs, ra, la, bs, h1, h2, h3, h4, h5⟩ := hD.ins
    refine ⟨_, (pss_one (ps_ret (pe_fld (pv 0) rfl))), ?_⟩
    exact ⟨_, rfl, q, _, _, _, _, rfl, h1, TU.cl, TU.nN, h2.n, k⟩
theorem ok_uover {f : Addr} {fd : FuncData} (F : Fun K "is_over" "Drum.is_over" sUOver f fd) (TU : Uk K mg CD) : FnOk P w K mg base CX0 1 f fd ["self"] (spUOver CD C0) := by
  refine F.ok scUOver (fun vs H Q E h => ?_) (fun cdv A outer s H vs Q E hr h => ?_)
  · obtain ⟨q, ad, aw, as_, p, y, s, rfl, _⟩ := h
    rfl
  · obtain ⟨q, ad, aw, as_, p, y, s, rfl, hD, k⟩ := h
    obtain ⟨dx, fs, ra, la, bs, h1, h2, h3, h4, h5⟩ := hD.ins
    refine ⟨_, (pss_one (ps_ret (pe_cmpR op_isN (pe_fld (pv 0) rfl) pe_non (nomark _)))), ?_⟩
    rw [← oV_non] at k
    exact ⟨_, rfl, q, _, _, _, _, rfl, h1, TU.cl, TU.nW, h2.w, rfl, k⟩
theorem ok_usays {f : Addr} {fd : FuncData} (F : Fun K "says" "Drum.says" sUSays f fd) (T : Bt mg) (TC : Dk K mg C0) (TU : Uk K mg CD) : FnOk P w K mg base CX0 1 f fd ["self"] (spUSays CD C0) := by
  refine F.ok scUSays (fun vs H Q E h => ?_) (fun cdv A outer s H vs Q E hr h => ?_)
  · obtain ⟨q, ad, aw, as_, p, y, s, rfl, _⟩ := h
    rfl
  · obtain ⟨q, ad, aw, as_, p, y, s, rfl, hD, k⟩ := h
    obtain ⟨dx, fs, ra, la, bs, h1, h2, h3, h4, h5⟩ := hD.ins
    obtain ⟨dx2, fs2, g1, g2, g3, g4, g5, g9⟩ := hD.mach.get
    refine ⟨_, (pss_one (ps_ret (pe_callTy call_list_of (by rfl) T.list (by decide +kernel) (pa_cons (pe_fld (pe_fld (pv 0) rfl) rfl) pa_nil)))), ?_⟩
    refine ⟨_, rfl, q, _, _, _, _, rfl, h1, TU.cl, TU.nD, h2.d, ad, _, _, _, _, rfl, g1, TC.cl, TC.nS, g5, as_, _, rfl, .inl (SqL.of hD.mach.said), fun l hl => ?_⟩
    refine alloc hl fun H' s' e' => ?_
    exact k l H' s' hl e'
theorem ok_uinit {f : Addr} {fd : FuncData} (F : Fun K "__init__" "Drum.__init__" sUInit f fd) (cCheckProgram : FCheckProgram K mg) (cCheckLaying : FCheckLaying K mg) (T : Bt mg) (TU : Uk K mg CD) (TC : Dk K mg C0) {fi : Addr} {fdi : FuncData} (FI : Fun K "__init__" "Desk.__init__" sDInit fi fdi) (bI : Binds K fdi ["self", "worths"] []) (MK : Mk K C0 fi)
    (GCheckProgram : FnOk P w K mg base CX0 4 cCheckProgram.f cCheckProgram.fd ["program"] spCheckProgram) (GCheckLaying : FnOk P w K mg base CX0 5 cCheckLaying.f cCheckLaying.fd ["program", "laying"] spCheckLaying) : FnOk P w K mg base CX0 6 f fd ["self", "program", "laying"] (spUInit CD C0) := by
  have GI : FnOk P w K mg base CX0 1 fi fdi ["self", "worths"] (spDInit C0) := ok_dinit FI T TC
  refine F.ok scUInit (fun vs H Q E h => ?_) (fun cdv A outer s H vs Q E hr h => ?_)
  · obtain ⟨q, dx, pa, ya, p, y, rfl, _⟩ := h
    rfl
  · obtain ⟨q, dx, pa, ya, p, y, rfl, hq, hP, g, hY, yk, k⟩ := h
    refine ⟨_, (pss_cons (ps_expr (pe_call GCheckProgram (hr.mono (by first | omega | decide)) (by rfl) cCheckProgram.m cCheckProgram.F.kp cCheckProgram.b .nil pass0 (pa_cons (pv 1) pa_nil)))
      (pss_cons (ps_expr (pe_call GCheckLaying (hr.mono (by first | omega | decide)) (by rfl) cCheckLaying.m cCheckLaying.F.kp cCheckLaying.b .nil pass0 (pa_cons (pv 1) (pa_cons (pv 2) pa_nil))))
      (pss_cons (ps_fld (pv 0) (pe_ix ix_tup (pv 1) pe_int (fun _ _ => rfl)) rfl)
      (pss_cons (ps_fld (pv 0) (pv 2) rfl)
      (pss_cons (ps_fld (pv 0) (pe_make MK GI (hr.mono (by first | omega | decide)) (by rfl) TC.m bI .nil pass0 (pa_cons (pe_callTy call_list_of (by rfl) T.list (by decide +kernel) (pa_cons (pe_ix ix_tup (pv 1) pe_int (fun _ _ => rfl)) pa_nil)) pa_nil)) rfl)
      (pss_cons (ps_fld (pv 0) pe_int rfl)
      (pss_one (ps_fld (pv 0) pe_int rfl)))))))), ?_⟩
    refine ⟨_, rfl, pa, p, rfl, hP, g, fun H1 s1 => ?_⟩
    refine ⟨_, rfl, _, rfl, pa, ya, p, y, rfl, hP.kp (Kp.same s1), g, hY.kp (Kp.same s1), yk, fun H2 s2 => ?_⟩
    have S2 := s1.trans s2
    obtain ⟨wa, ra, bs, hpa, hwa, hra, hR⟩ := hP.kp (Kp.same S2)
    have hY2 := hY.kp (Kp.same S2)
    have hq2 := S2 _ _ hq
    refine ⟨_, rfl, pa, _, _, _, rfl, rfl, SqT.of hpa, at1, _, rfl, q, CD, dx, _, rfl, hq2, TU.cl, TU.nR, (by show 0 < 1000; decide), ?_⟩
    refine change fun H3 b3 e3 => ?_
    refine ⟨_, rfl, _, rfl, q, CD, dx, _, rfl, e3, TU.cl, TU.nL, (by show 1 < 1000; decide), ?_⟩
    refine change fun H4 b4 e4 => ?_
    have B4 := b3.trans b4
    have kq : ∀ {H H' : Hp}, But q H H' → (∃ o, H q = some o ∧ ∀ u, o ≠ .tup u) → Kp H H' := fun b ⟨o, ho, n⟩ x u e => b _ _ (ne_of e ho (by intro z; exact n _ z.symm)) e
    have K4 : Kp H2 H4 := kq B4 ⟨_, hq2, fun u z => by cases z⟩
    refine ⟨_, rfl, pa, _, _, _, rfl, rfl, SqT.of (K4 _ _ hpa), at0, wa, _, rfl, .inr (SqT.of (K4 _ _ hwa)), fun aw naw => ?_⟩
    refine alloc naw fun H4a s4a e4a => ?_
    refine fun ad dd had hdd hne => ?_
    have nqa : q ≠ ad := ne_of_none (s4a _ _ e4) had
    have nqd : q ≠ dd := ne_of_none (s4a _ _ e4) hdd
    refine ⟨ad, dd, _, rfl, upd_same, fun as_ fs0 H5 b5 has i1 i2 i3 i4 i5 i6 i7 => ⟨rfl, ?_⟩⟩
    have nas : H4a as_ = none := upd_none (upd_none has)
    have S5a : Same1 H4a H5 := fun x o e => b5 x o (ne_of_none e had) (by rw [upd_ne (ne_of_none e had), upd_ne (ne_of_none e hdd)]; exact e)
    have S5 : Same1 H4 H5 := s4a.trans S5a
    have M5 : DeskM C0 H5 ad aw as_ ⟨0, p.ws, []⟩ := ⟨⟨dd, fs0, i1, i2, i3, i4, i5, i6⟩, S5a _ _ e4a, i7, ne_of_none e4a nas⟩
    have e5 := S5 _ _ e4
    refine ⟨_, rfl, q, CD, dx, _, rfl, e5, TU.cl, TU.nD, (by show 2 < 1000; decide), ?_⟩
    refine change fun H6 b6 e6 => ?_
    refine ⟨_, rfl, q, CD, dx, _, rfl, e6, TU.cl, TU.nW, (by show 3 < 1000; decide), ?_⟩
    refine change fun H7 b7 e7 => ?_
    refine ⟨_, rfl, q, CD, dx, _, rfl, e7, TU.cl, TU.nN, (by show 4 < 1000; decide), ?_⟩
    refine change fun H8 b8 e8 => ?_
    have B8 : But q H5 H8 := (b6.trans b7).trans b8
    have K8 : Kp H5 H8 := kq B8 ⟨_, e5, fun u z => by cases z⟩
    have K28 : Kp H2 H8 := K4.trans ((Kp.same S5).trans K8)
    obtain ⟨dx2, fs2, g1, g2⟩ := M5.ins
    have n1 : aw ≠ q := (ne_of_none e4 naw).symm
    have n2 : as_ ≠ q := (ne_of_none (s4a _ _ e4) nas).symm
    have fr : ∀ {a : Addr}, H4 a = none → H a = none := fun h => s1.free (s2.free (b3.free e3 (b4.free e4 h)))
    refine k ad aw as_ H8 (fun x o n e => B8 _ _ n (S5 _ _ (B4 _ _ n (S2 _ _ e)))) (fr (s4a.free had)) (fr naw) (fr (s4a.free nas)) ⟨⟨dx, _, ra, ya, bs, e8, ?_, K28 _ _ hra, hR.kp K28, hY2.kp K28⟩, ⟨⟨dx2, fs2, B8 _ _ nqa.symm g1, g2⟩, B8 _ _ n1 M5.ws, B8 _ _ n2 M5.said, M5.ne⟩, nqa⟩
    refine ⟨?_, ?_, ?_, ?_, ?_, ?_, fun x a b c d e => ?_⟩
    · have h1 := putF_le (fs := putF gW (.int 0) (putF gD (.ref ad) (putF gL (.ref ya) (putF gR (.ref ra) [])))) (f := gN) (v := .int 0)
      have h2 := putF_le (fs := putF gD (.ref ad) (putF gL (.ref ya) (putF gR (.ref ra) []))) (f := gW) (v := .int 0)
      have h3 := putF_le (fs := putF gL (.ref ya) (putF gR (.ref ra) [])) (f := gD) (v := .ref ad)
      have h4 := putF_le (fs := putF gR (.ref ra) []) (f := gL) (v := .ref ya)
      have h5 := putF_le (fs := []) (f := gR) (v := .ref ra)
      have h6 : ([] : List (Str × V)).length = 0 := rfl
      exact Nat.le_trans h1 (by omega)
    · rw [lookup_putF, if_neg g_RN, lookup_putF, if_neg g_RW, lookup_putF, if_neg g_RD, lookup_putF, if_neg g_RL, lookup_putF, if_pos rfl]
    · rw [lookup_putF, if_neg g_LN, lookup_putF, if_neg g_LW, lookup_putF, if_neg g_LD, lookup_putF, if_pos rfl]
    · rw [lookup_putF, if_neg g_DN, lookup_putF, if_neg g_DW, lookup_putF, if_pos rfl]
    · rw [lookup_putF, if_neg g_WN, lookup_putF, if_pos rfl]; rfl
    · rw [lookup_putF, if_pos rfl]; rfl
    · rw [lookup_putF, if_neg e, lookup_putF, if_neg d, lookup_putF, if_neg c, lookup_putF, if_neg b, lookup_putF, if_neg a]
      rfl
end
structure UkM (K : Frg) (mg : Str → Option Value) where
  C : Addr
  d : Uk K mg C
  fi : Addr
  fdi : FuncData
  FI : Fun K "__init__" "Drum.__init__" sUInit fi fdi
  bI : Binds K fdi ["self", "program", "laying"] []
  mkd : Mk K C fi
  ft : Addr
  fdt : FuncData
  FT : Fun K "turn" "Drum.turn" sUTurn ft fdt
  bT : Binds K fdt ["self"] []
  mT : Meth K C "turn" ft
  fb : Addr
  fdb : FuncData
  FB : Fun K "beat" "Drum.beat" sUBeat fb fdb
  bB : Binds K fdb ["self"] []
  mB : Meth K C "beat" fb
  fs : Addr
  fds : FuncData
  FS : Fun K "says" "Drum.says" sUSays fs fds
  bS : Binds K fds ["self"] []
  mS : Meth K C "says" fs
  fo : Addr
  fdo : FuncData
  FO : Fun K "is_over" "Drum.is_over" sUOver fo fdo
  bO : Binds K fdo ["self"] []
  mO : Meth K C "is_over" fo
theorem DrumF.meth {fs : List (Str × V)} {ra la ad : Addr} {here : Option Nat} {now : Int} (h : DrumF fs ra la ad here now) : fs.lookup ("turn" : Str) = none ∧ fs.lookup ("beat" : Str) = none ∧ fs.lookup ("says" : Str) = none ∧ fs.lookup ("is_over" : Str) = none ∧ fs.lookup ("holds" : Str) = none :=
  ⟨h.o _ (by decide +kernel) (by decide +kernel) (by decide +kernel) (by decide +kernel) (by decide +kernel), h.o _ (by decide +kernel) (by decide +kernel) (by decide +kernel) (by decide +kernel) (by decide +kernel),
   h.o _ (by decide +kernel) (by decide +kernel) (by decide +kernel) (by decide +kernel) (by decide +kernel), h.o _ (by decide +kernel) (by decide +kernel) (by decide +kernel) (by decide +kernel) (by decide +kernel),
   h.o _ (by decide +kernel) (by decide +kernel) (by decide +kernel) (by decide +kernel) (by decide +kernel)⟩
end DL
namespace DL
open PySem L2 DLR
section
variable {P : Program} {w : World} {K : PySem.W.Frag} {mg : Str → Option Value} {base : Heap} {C0 CD : Addr}
theorem ok_uturn {f : Addr} {fd : FuncData} (F : Fun K "turn" "Drum.turn" sUTurn f fd) (TU : Uk K mg CD) (TC : Dk K mg C0) (cFirstBeat : FFirstBeat K mg) (cBeatBehind : FBeatBehind K mg) {fs_ : Addr} {fds : FuncData} (bStep : Binds K fds ["self", "row"] []) (mStep : Meth K C0 "step" fs_)
    (GBeatBehind : FnOk P w K mg base CX0 4 cBeatBehind.f cBeatBehind.fd ["row", "read", "laying"] spBeatBehind) (GStep : FnOk P w K mg base CX0 3 fs_ fds ["self", "row"] (spDStep C0)) : FnOk P w K mg base CX0 5 f fd ["self"] (spUTurn CD C0) := by
  have GFirstBeat : FnOk P w K mg base CX0 1 cFirstBeat.f cFirstBeat.fd ["now", "place", "wide"] spFirstBeat := ok_firstBeat cFirstBeat
  refine F.ok scUTurn (fun vs H Q E h => ?_) (fun cdv A outer s H vs Q E hr h => ?_)
  · obtain ⟨q, ad, aw, as_, p, y, s, r, rfl, _⟩ := h
    rfl
  · obtain ⟨q, ad, aw, as_, p, y, s, r, rfl, hD, g, yk, mo, hws, hsd, hhr, hr1, k⟩ := h
    obtain ⟨dx, fs, ra, la, bs, h1, h2, h3, h4, h5⟩ := hD.ins
    have hbr := Paired.length h4
    have hr40 := g.r40
    have er : p.rows.getD r .stop = p.rows[r] := by rw [List.getD_eq_getElem?_getD, List.getElem?_eq_getElem hr1]; rfl
    obtain ⟨ba, hb1, hb2⟩ := Paired.getR h4 (List.getElem?_eq_getElem hr1)
    obtain ⟨pl, hl, hs, hla, hpl, hhl, hH⟩ := id h5
    have hrow : p.rows[r].ok p.ws.length p.rows.length := g.ok _ (List.getElem_mem hr1)
    have hw2 := yk.w2
    have eo : oV s.here = .int (r : Int) := by rw [hhr]; rfl
    refine ⟨_, (pss_cons (ps_if (pt_cmpR op_isN (pe_fld (pv 0) rfl) pe_non (nomark _))
          (pss_one ps_never)
          pss_nil)
      (pss_cons (ps_set (i := 1) scUTurn.nd rfl (Or.inl rfl) (pe_fld (pv 0) rfl))
      (pss_cons (ps_set (i := 2) scUTurn.nd rfl (Or.inl rfl) (pe_ix ix_tup (pe_fld (pv 0) rfl) (pv 1) (fun _ _ => rfl)))
      (pss_cons (ps_asg (pe_fld (pv 0) rfl) (pg_tup rfl (pgs_cons (pg_name (i := 3) scUTurn.nd rfl (Or.inl rfl)) (pgs_cons (pg_name (i := 4) scUTurn.nd rfl (Or.inl rfl)) (pgs_cons (pg_name (i := 5) scUTurn.nd rfl (Or.inl rfl)) pgs_nil)))))
      (pss_cons (ps_set (i := 6) scUTurn.nd rfl (Or.inl rfl) (pe_call GFirstBeat (hr.mono (by first | omega | decide)) (by rfl) cFirstBeat.m cFirstBeat.F.kp cFirstBeat.b .nil pass0 (pa_cons (pe_fld (pv 0) rfl) (pa_cons (pe_ix ix_tup (pv 4) (pv 1) (fun _ _ => rfl)) (pa_cons (pv 3) pa_nil)))))
      (pss_cons (ps_fld (pv 0) (pe_call GBeatBehind (hr.mono (by first | omega | decide)) (by rfl) cBeatBehind.m cBeatBehind.F.kp cBeatBehind.b .nil pass0 (pa_cons (pv 2) (pa_cons (pv 6) (pa_cons (pe_fld (pv 0) rfl) pa_nil)))) rfl)
      (pss_cons (ps_fld (pv 0) (pe_meth (pe_fld (pv 0) rfl) TC.cl mStep GStep (hr.mono (by first | omega | decide)) bStep .nil pass0 (pa_cons (pv 2) pa_nil)) rfl)
      (pss_one (ps_ret (pe_tup (pa_cons (pv 1) (pa_cons (pv 6) pa_nil)))))))))))), ?_⟩
    refine ⟨_, rfl, q, _, _, _, _, rfl, h1, TU.cl, TU.nW, h2.w, rfl, _, rfl, ?_⟩
    rw [oV_non, hhr]
    refine iteF ?_
    refine ⟨_, rfl, q, _, _, _, _, rfl, h1, TU.cl, TU.nW, h2.w, ?_⟩
    rw [eo]
    refine ⟨_, rfl, q, _, _, _, _, rfl, h1, TU.cl, TU.nR, h2.r, _, rfl, ra, _, _, _, rfl, rfl, SqT.of h3, atI_nat (j := r) (by rw [List.getElem?_map, hb1]; rfl), ?_⟩
    refine ⟨_, rfl, q, _, _, _, _, rfl, h1, TU.cl, TU.nL, h2.l, la, _, rfl, SqT.of hla, rfl, _, _, rfl, _, _, rfl, _, _, rfl, rfl, ?_⟩
    refine ⟨_, rfl, q, _, _, _, _, rfl, h1, TU.cl, TU.nN, h2.n, _, rfl, _, rfl, pl, _, _, _, rfl, rfl, SqT.of hpl, atI_nat (j := r) (nI_at (by rw [yk.pl]; exact hr1)), _, rfl, s.now, y.places.getD r 0, y.wide, rfl, by omega, ?_⟩
    refine ⟨_, rfl, _, rfl, _, rfl, q, _, _, _, _, rfl, h1, TU.cl, TU.nL, h2.l, ba, la, p.rows[r], readD y s r, y, p.rows.length, rfl, hb2, h5, yk.w2, yk.hok, by rw [yk.hl]; exact hrow, fun H1 s1 => ?_⟩
    have q1 := s1 _ _ h1
    refine ⟨_, rfl, q, CD, dx, _, rfl, q1, TU.cl, TU.nN, Nat.lt_of_le_of_lt h2.len (by decide), ?_⟩
    have F2 := h2.putN (z := behindF y p.rows[r] (readD y s r))
    refine change fun H2 b2 e2 => ?_
    have nq : ∀ {a o}, H1 a = some o → (∀ C d f, o ≠ .ins C d f) → a ≠ q := fun e n => ne_of e q1 (n _ _ _)
    have hM2 : DeskM C0 H2 ad aw as_ s.m := by
      obtain ⟨dx2, fs2, g1, g2⟩ := (hD.mach.same s1).ins
      have n2 := hD.ne2
      exact ⟨⟨dx2, fs2, b2 _ _ hD.ne.symm g1, g2⟩, b2 _ _ n2.1 (s1 _ _ hD.mach.ws), b2 _ _ n2.2 (s1 _ _ hD.mach.said), hD.mach.ne⟩
    have hba2 : H2 ba = some (.tup (rowVs p.rows[r])) := b2 _ _ (nq (s1 _ _ hb2) (by intro C d f z; cases z)) (s1 _ _ hb2)
    refine ⟨_, rfl, q, _, _, _, _, rfl, e2, TU.cl, TU.nD, F2.d, ?_⟩
    obtain ⟨dx3, fs3, g1, g2, g3, g4, g5, g9⟩ := hM2.get
    refine ⟨ad, dx3, fs3, rfl, g1, g9 _ (by decide +kernel) (by decide +kernel) (by decide +kernel), _, rfl, ad, aw, as_, ba, s.m, p.rows[r], p.rows.length, rfl, hM2, mo, hsd, hba2, by rw [hws]; exact hrow, fun H3 b3 M3 => ?_⟩
    have e3 := b3 _ _ hD.ne hD.ne2.1.symm hD.ne2.2.symm e2
    refine ⟨_, rfl, q, CD, dx, _, rfl, e3, TU.cl, TU.nW, Nat.lt_of_le_of_lt F2.len (by decide), ?_⟩
    have F3 := F2.putW (z := (stepM s.m p.rows[r]).2)
    refine change fun H4 b4 e4 => ?_
    refine ⟨_, rfl, _, rfl, (by show 2 ≤ sizeLine; decide), fun t ht => ?_⟩
    have B : But4 q ad aw as_ H H4 := (((But4.same s1).trans (But4.but b2)).trans (But4.but3 b3)).trans (But4.but b4)
    have KB := hD.kp4 B
    have D4 : DrumAt CD C0 p y H4 q ad aw as_ (goD1 p y s r) := by
      have eg : goD1 p y s r = ⟨(stepM s.m p.rows[r]).1, (stepM s.m p.rows[r]).2, behindF y p.rows[r] (readD y s r)⟩ := by unfold goD1; rw [er]
      rw [eg]
      obtain ⟨dx4, fs4, m1, m2⟩ := M3.ins
      exact ⟨⟨dx, _, ra, la, bs, e4, F3, KB _ _ h3, h4.kp KB, h5.kp KB⟩, ⟨⟨dx4, fs4, b4 _ _ hD.ne.symm m1, m2⟩, b4 _ _ hD.ne2.1 M3.ws, b4 _ _ hD.ne2.2 M3.said, M3.ne⟩, hD.ne⟩
    have nt : H t = none := by
      cases qt : H t with
      | none => rfl
      | some o =>
        by_cases c1 : t = q
        · subst c1; rw [e4] at ht; cases ht
        · by_cases c2 : t = ad
          · subst c2
            obtain ⟨dx4, fs4, m1, _⟩ := D4.mach.ins
            rw [m1] at ht; cases ht
          · by_cases c3 : t = aw
            · subst c3; rw [D4.mach.ws] at ht; cases ht
            · by_cases c4 : t = as_
              · subst c4; rw [D4.mach.said] at ht; cases ht
              · rw [B _ _ c1 c2 c3 c4 qt] at ht; cases ht
    refine alloc ht fun H5 s5 e5 => ?_
    exact k t H5 (B.trans (But4.same s5)) nt e5 (D4.same s5)
end
end DL
namespace DL
open PySem L2 DLR
abbrev sSpun : Stmt := top 51
abbrev nSpun : List Str := ["program", "laying", "fuel", "drum", "_", "end"]
abbrev pSpun : List Str := ["program", "laying", "fuel"]
abbrev FSpun (K : Frg) (mg : Str → Option Value) := Fd K mg "spun" sSpun pSpun
def spSpun : Sp := fun vs H Q _ => ∃ (pa ya : Addr) (p : Prog) (y : Lay) (fuel : Nat), vs = [.ref pa, .ref ya, .int (fuel : Int)] ∧ ProgAt H pa p ∧ Good p ∧ LayAt H ya y ∧ LayOk p y ∧ fuel ≤ 5000 ∧
  ∀ a ls le H', Same1 H H' → H ls = none → H' a = some (.tup [.ref ls, .ref le, .int (spinS p y fuel).now]) → H' ls = some (.lst ((runS p fuel).m.said.map V.int)) → H' le = some (.tup [.str (if (runS p fuel).here = none then "stop" else "long")]) → Q (.ref a) H'
theorem same_but4 {q a b c : Addr} {H H1 H2 : Hp} (s : Same1 H H1) (t : But4 q a b c H1 H2) (hq : H q = none) (ha : H a = none) (hb : H b = none) (hc : H c = none) : Same1 H H2 := fun x o e =>
  t x o (ne_of_none e hq) (ne_of_none e ha) (ne_of_none e hb) (ne_of_none e hc) (s x o e)
theorem spin_stop {p : Prog} {y : Lay} {j fuel : Nat} (h : (spinS p y j).here = none) (le : j ≤ fuel) : spinS p y fuel = spinS p y j := by
  have q := spin_end h (fuel - j)
  rw [show j + (fuel - j) = fuel by omega] at q
  exact q
section
variable {P : Program} {w : World} {K : PySem.W.Frag} {mg : Str → Option Value} {base : Heap}
theorem scSpun : FnScope nSpun pSpun (defScope sSpun) := ⟨rfl, rfl, rfl, by decide +kernel, rfl, by decide +kernel, by decide +kernel⟩
theorem ok_spun (c : FSpun K mg) (cCheckFuel : FCheckFuel K mg) (DM : DkM K mg) (UM : UkM K mg) (T : Bt mg)
    (GIU : FnOk P w K mg base CX0 6 UM.fi UM.fdi ["self", "program", "laying"] (spUInit UM.C DM.C)) (GCheckFuel : FnOk P w K mg base CX0 3 cCheckFuel.f cCheckFuel.fd ["fuel"] spCheckFuel)
    (GTurn : FnOk P w K mg base CX0 5 UM.ft UM.fdt ["self"] (spUTurn UM.C DM.C)) : FnOk P w K mg base CX0 8 c.f c.fd pSpun spSpun := by
  have TC := DM.d
  have TU := UM.d
  have MKU := UM.mkd
  have bIU := UM.bI
  have mTurn := UM.mT
  have bTurn := UM.bT
  have mBeat := UM.mB
  have bBeat := UM.bB
  have mSays := UM.mS
  have bSays := UM.bS
  have mIsOver := UM.mO
  have bIsOver := UM.bO
  have GBeat : FnOk P w K mg base CX0 1 UM.fb UM.fdb ["self"] (spUBeat UM.C DM.C) := ok_ubeat UM.FB TU
  have GSays : FnOk P w K mg base CX0 1 UM.fs UM.fds ["self"] (spUSays UM.C DM.C) := ok_usays UM.FS T TC TU
  have GIsOver : FnOk P w K mg base CX0 1 UM.fo UM.fdo ["self"] (spUOver UM.C DM.C) := ok_uover UM.FO TU
  refine c.F.ok scSpun (fun vs H Q E h => ?_) (fun cdv A outer s H vs Q E hr h => ?_)
  · obtain ⟨pa, ya, p, y, fuel, rfl, _⟩ := h
    rfl
  · obtain ⟨pa, ya, p, y, fuel, rfl, hP, g, hY, yk, hf, k⟩ := h
    refine ⟨_, (pss_cons (ps_set (i := 3) scSpun.nd rfl (Or.inl rfl) (pe_make MKU GIU (hr.mono (by first | omega | decide)) (by rfl) TU.m bIU .nil pass0 (pa_cons (pv 0) (pa_cons (pv 1) pa_nil))))
      (pss_cons (ps_expr (pe_call GCheckFuel (hr.mono (by first | omega | decide)) (by rfl) cCheckFuel.m cCheckFuel.F.kp cCheckFuel.b .nil pass0 (pa_cons (pv 2) pa_nil)))
      (pss_cons (ps_for PassesOwn.never rfl (pi_range1 rfl T.range (pa_cons (pv 2) pa_nil)) (pg_name (i := 4) scSpun.nd rfl (Or.inl rfl))
          (pss_cons (ps_if (pt_val (pe_meth0 (pv 3) TU.cl mIsOver GIsOver (hr.mono (by first | omega | decide)) bIsOver .nil pass0))
              (pss_one ps_break)
              pss_nil)
          (pss_one (ps_expr (pe_meth0 (pv 3) TU.cl mTurn GTurn (hr.mono (by first | omega | decide)) bTurn .nil pass0)))))
      (pss_cons (ps_set (i := 5) scSpun.nd rfl (Or.inl rfl) (pe_ifExp (pt_val (pe_meth0 (pv 3) TU.cl mIsOver GIsOver (hr.mono (by first | omega | decide)) bIsOver .nil pass0)) (pe_tup (pa_cons pe_str pa_nil)) (pe_tup (pa_cons pe_str pa_nil))))
      (pss_one (ps_ret (pe_tup (pa_cons (pe_meth0 (pv 3) TU.cl mSays GSays (hr.mono (by first | omega | decide)) bSays .nil pass0) (pa_cons (pv 5) (pa_cons (pe_meth0 (pv 3) TU.cl mBeat GBeat (hr.mono (by first | omega | decide)) bBeat .nil pass0) pa_nil)))))))))), ?_⟩
    refine ⟨_, rfl, _, rfl, fun q dx hq hdx hne => ?_⟩
    have nD : ∀ {x o}, H x = some o → (upd (upd H dx (.own q)) q (.ins UM.C dx [])) x = some o := fun e => by rw [upd_ne (ne_of_none e hq), upd_ne (ne_of_none e hdx)]; exact e
    refine ⟨q, dx, pa, ya, p, y, rfl, upd_same, hP.kp (fun x o e => nD e), g, hY.kp (fun x o e => nD e), yk, fun ad aw as_ H1 b1 had haw has D1 => ⟨rfl, ?_⟩⟩
    have nad : H ad = none := upd_none (upd_none had)
    have naw : H aw = none := upd_none (upd_none haw)
    have nas : H as_ = none := upd_none (upd_none has)
    have S1 : Same1 H H1 := fun x o e => b1 x o (ne_of_none e hq) (nD e)
    refine ⟨_, rfl, (fuel : Int), rfl, by omega, by omega, ?_⟩
    refine ⟨_, rfl, (fuel : Int), rfl, by omega, by omega, ?_⟩
    refine range_elim (lo := 0) (n := fuel) (fun j σ H' => ∃ (x4 x5 : Option V), σ = [some (.ref pa), some (.ref ya), some (.int (fuel : Int)), some (.ref q), x4, x5] ∧ Same1 H H' ∧ DrumAt UM.C DM.C p y H' q ad aw as_ (spinS p y j))
      (fun σ H' => ∃ (x4 x5 : Option V), σ = [some (.ref pa), some (.ref ya), some (.int (fuel : Int)), some (.ref q), x4, x5] ∧ Same1 H H' ∧ DrumAt UM.C DM.C p y H' q ad aw as_ (spinS p y fuel))
      ⟨none, none, rfl, S1, D1⟩ ?_ ?_ ?_
    · rintro σ H2 ⟨x4, x5, rfl, s2, D2⟩
      obtain ⟨dx2, fs2, ra2, la2, bs2, h1, h2, _⟩ := D2.ins
      obtain ⟨l1, l2, l3, l4, l5⟩ := h2.meth
      obtain ⟨er1, er2⟩ := spin_run p y fuel
      refine ⟨_, rfl, q, dx2, fs2, rfl, h1, l4, q, ad, aw, as_, p, y, spinS p y fuel, rfl, D2, ?_⟩
      have key : ∀ le H3, Same1 H2 H3 → H3 le = some (.tup [.str (if (runS p fuel).here = none then "stop" else "long")]) →
          ∀ ls H4, Same1 H3 H4 → H3 ls = none → H4 ls = some (.lst ((spinS p y fuel).m.said.map V.int)) → ∀ a H5, Same1 H4 H5 → H5 a = some (.tup [.ref ls, .ref le, .int (spinS p y fuel).now]) → Q (.ref a) H5 := by
        intro le H3 s3 e3 ls H4 s4 nl e4 a H5 s5 e5
        have S := s2.trans s3
        exact k a ls le H5 (S.trans (s4.trans s5)) (S.free nl) e5 (by rw [← er1]; exact s5 _ _ e4) ((s4.trans s5) _ _ e3)
      have tail : ∀ le H3, Same1 H2 H3 → H3 le = some (.tup [.str (if (runS p fuel).here = none then "stop" else "long")]) → ∀ l H4, Same1 H3 H4 → H3 l = none → H4 l = some (.lst ((spinS p y fuel).m.said.map V.int)) → True := fun _ _ _ _ _ _ _ _ _ => trivial
      rw [er2]
      by_cases c : (runS p fuel).here = none
      · rw [decide_eq_true c]
        refine ⟨_, rfl, iteT ⟨(by show 1 ≤ sizeLine; decide), fun le hle => ?_⟩⟩
        refine alloc hle fun H3 s3 e3 => ?_
        have D3 := D2.same s3
        have h13 := s3 _ _ h1
        refine ⟨_, rfl, q, dx2, fs2, rfl, h13, l3, q, ad, aw, as_, p, y, spinS p y fuel, rfl, D3, fun ls H4 s4 nl e4 => ?_⟩
        have D4 := D3.same s4
        refine ⟨_, rfl, _, rfl, q, dx2, fs2, rfl, s4 _ _ h13, l2, q, ad, aw, as_, p, y, spinS p y fuel, rfl, D4, (by show 3 ≤ sizeLine; decide), fun a ha => ?_⟩
        refine alloc ha fun H5 s5 e5 => ?_
        exact key le H3 s3 (by rw [if_pos c]; exact e3) ls H4 s4 nl e4 a H5 s5 e5
      · rw [decide_eq_false c]
        refine ⟨_, rfl, iteF ⟨(by show 1 ≤ sizeLine; decide), fun le hle => ?_⟩⟩
        refine alloc hle fun H3 s3 e3 => ?_
        have D3 := D2.same s3
        have h13 := s3 _ _ h1
        refine ⟨_, rfl, q, dx2, fs2, rfl, h13, l3, q, ad, aw, as_, p, y, spinS p y fuel, rfl, D3, fun ls H4 s4 nl e4 => ?_⟩
        have D4 := D3.same s4
        refine ⟨_, rfl, _, rfl, q, dx2, fs2, rfl, s4 _ _ h13, l2, q, ad, aw, as_, p, y, spinS p y fuel, rfl, D4, (by show 3 ≤ sizeLine; decide), fun a ha => ?_⟩
        refine alloc ha fun H5 s5 e5 => ?_
        exact key le H3 s3 (by rw [if_neg c]; exact e3) ls H4 s4 nl e4 a H5 s5 e5
    · intro Nx hNx
      rintro j σ H2 hj ⟨x4, x5, rfl, s2, D2⟩
      obtain ⟨dx2, fs2, ra2, la2, bs2, h1, h2, _⟩ := D2.ins
      obtain ⟨l1, l2, l3, l4, l5⟩ := h2.meth
      obtain ⟨er1, er2⟩ := spin_run p y j
      have O := runS_ok g j
      refine ⟨_, rfl, q, dx2, fs2, rfl, h1, l4, q, ad, aw, as_, p, y, spinS p y j, rfl, D2, ?_⟩
      cases hh : (spinS p y j).here with
      | none =>
        refine ⟨_, rfl, iteT ?_⟩
        refine hNx _ _ ⟨_, _, rfl, s2, ?_⟩
        rw [spin_stop hh (by omega)]
        exact D2
      | some r =>
        refine ⟨_, rfl, iteF ?_⟩
        have hr : r < p.rows.length := O.here r (by rw [← er2]; exact hh)
        refine ⟨_, rfl, q, dx2, fs2, rfl, h1, l1, q, ad, aw, as_, p, y, spinS p y j, r, rfl, D2, g, yk, by rw [er1]; exact O.m, by rw [er1]; exact O.w, by rw [er1]; have := O.said; omega, hh, hr, fun t H3 b3 nt e3 D3 => ?_⟩
        refine ⟨_, _, rfl, same_but4 s2 b3 hq nad naw nas, ?_⟩
        have e : spinS p y (j + 1) = goD1 p y (spinS p y j) r := by
          show turnD p y (spinS p y j) = _
          unfold turnD
          rw [hh]
        rw [e]
        exact D3
    · rintro σ H2 ⟨x4, x5, rfl, s2, D2⟩
      exact ⟨_, _, rfl, s2, D2⟩
end
end DL
namespace DLR
open PySem PySem.Spec PyProof.Rows L2 DL
/-! ### zip(a list, a tuple) -/
def ItzN (K : PySem.W.Frag) (a b : Addr) : It :=
  ⟨fun i H => ∃ (xs ys : List V) (x y : V), SqL K H a xs ∧ SqT K H b ys ∧ xs[i]? = some x ∧ ys[i]? = some y,
   fun i H v H' => ∃ T x y, v = .ref T ∧ H T = none ∧ H' = upd H T (.tup [x, y]) ∧ (∀ zs, SqL K H a zs → zs[i]? = some x) ∧ ∀ zs, SqT K H b zs → zs[i]? = some y,
   fun i H => ∃ xs ys : List V, SqL K H a xs ∧ SqT K H b ys ∧ xs.length = i ∧ ys.length = i⟩
structure ZnAt (z TI TO i1 i2 a b : Addr) (i : Nat) (h : Heap) : Prop where
  z : IsZip h z TI TO .none
  ti : IsTupOf2 h TI (.ref i1) (.ref i2)
  to : ∃ x y, IsTupOf2 h TO x y
  u1 : h.IsListIter i1 a i
  u2 : h.IsTupleIter i2 b i
theorem fiveN {c z TI TO i1 i2 : Addr} (h : c ∈ [z, TI, TO, i1, i2]) : c = z ∨ c = TI ∨ c = TO ∨ c = i1 ∨ c = i2 := by simpa using h
theorem turn_zipN {P : Program} {w : World} {K : PySem.W.Frag} {elts : List Expr} {kk : Nat} {tpos : Pos} {a b z TI TO i1 i2 : Addr} (S : ZipSep2 z TI TO i1 i2 [i1, a] [i2, b]) (n1 : a ≠ i1) (n2 : b ≠ i2) :
    Turn P w K (.Tuple elts kk tpos) (ItzN K a b) [z, TI, TO, i1, i2] z (ZnAt z TI TO i1 i2 a b) where
  mem := by simp
  obj := fun i h st c hc => by
    obtain ⟨hz, hTI, ⟨x, y, hTO⟩, ⟨o1, e1, _, d1⟩, ⟨o2, e2, _, d2⟩⟩ := st
    rcases fiveN hc with rfl | rfl | rfl | rfl | rfl
    · exact ⟨_, hz, fun v q => nomatch q⟩
    · exact ⟨_, hTI, fun v q => nomatch q⟩
    · exact ⟨_, hTO, fun v q => nomatch q⟩
    · exact ⟨o1, e1, fun v q => by rw [d1] at q; cases q⟩
    · exact ⟨o2, e2, fun v q => by rw [d2] at q; cases q⟩
  keep := fun i h h' st k => by
    obtain ⟨hz, hTI, ⟨x, y, hTO⟩, h1, h2⟩ := st
    exact ⟨k z (by simp) _ hz, k TI (by simp) _ hTI, ⟨x, y, k TO (by simp) _ hTO⟩, h1.at fun o q => k i1 (by simp) o q, h2.at fun o q => k i2 (by simp) o q⟩
  item := by
    intro X hP hw hK hc i pins s σ H E I hf st hg
    subst hP hw hK
    obtain ⟨hz, hTI, ⟨x0, y0, hTO⟩, h1, h2⟩ := st
    obtain ⟨xs, ys, x, y, qx, qy, hx, hy⟩ := hg
    obtain ⟨its, rv, p, _⟩ := I.list qx
    obtain ⟨jts, rw', p', _⟩ := I.tuple qy
    obtain ⟨u, hu, ru⟩ := rv.get hx
    obtain ⟨v, hv, rv'⟩ := rw'.get hy
    have zl : z < s.heap.objs.size := Heap.lt_size hz
    have lu : i < its.toArray.size := by simpa using (List.getElem?_eq_some_iff.mp hu).1
    have lv : i < jts.toArray.size := by simpa using (List.getElem?_eq_some_iff.mp hv).1
    refine wpAny_pyNext_zipD2_item S (Draws.list (A := X.A.in1) (I.ok.hd hc) i1 a n1 its.toArray) (Draws.tuple (A := X.A.in1) (I.ok.hd hc) i2 b n2 jts.toArray) hz hTI hTO ⟨h1, p.isList⟩ ⟨h2, p'⟩ lu lv fun y1 y2 h' tk g1 g2 hz' hTO' h1' h2' hT hsz hk => ?_
    have e1 : y1 = u := by
      have q : its[i]? = some y1 := by simpa using g1
      rw [hu] at q
      exact (Option.some.inj q).symm
    have e2 : y2 = v := by
      have q : jts[i]? = some y2 := by simpa using g2
      rw [hv] at q
      exact (Option.some.inj q).symm
    subst e1 e2
    refine ⟨_, rfl, wpAny_letOwnedTupleGo_zip (s := { s with heap := h', toks := tk }) hz' fun h'' hz'' sb => ?_⟩
    have hT2 := (sb.2 _ (Nat.ne_of_gt zl)).trans hT
    have new : ObjOk X.prog X.w (upd H s.heap.objs.size (.tup [x, y])) h'' s.heap.objs.size (.tup [x, y]) :=
      ⟨by show 2 ≤ sizeLine; decide, [y1, y2], .cons ru (.cons rv' .nil), ⟨_, hT2, rfl, _, rfl⟩⟩
    have I1 : Inv X pins σ (upd H s.heap.objs.size (.tup [x, y])) { s with heap := h'', toks := tk } :=
      I.turnedNew (ch := [z, TI, TO, i1, i2]) (fun c o hb q => (sb.2 c (fun e => hb (by simp [e]))).trans (hk c o (fun e => hb (by simp [e])) (fun e => hb (by simp [e])) (fun e => hb (by simp [e])) (fun e => hb (by simp [e])) q)) hf (Nat.le_refl _) new
    refine ⟨.ref s.heap.objs.size, _, I1, rfl, ⟨_, x, y, rfl, I.hok.fresh (Nat.le_refl _), rfl, fun zs hl => by rw [I.list_inj hl qx]; exact hx, fun zs hl => by rw [I.tuple_inj hl qy]; exact hy⟩, ⟨hz'', ?_, ⟨y1, y2, ?_⟩, ?_, ?_⟩, fun c hcm => ?_⟩
    · exact (sb.2 _ S.TIz).trans (hk _ _ S.TIz S.TITO S.TIi1 S.TIi2 hTI)
    · exact (sb.2 _ S.TOz).trans hTO'
    · exact h1'.1.at fun o q => (sb.2 _ S.zi1.symm).trans q
    · exact h2'.1.at fun o q => (sb.2 _ S.zi2.symm).trans q
    · have lt : c < s.heap.objs.size := by
        rcases fiveN hcm with rfl | rfl | rfl | rfl | rfl
        · exact zl
        · exact Heap.lt_size hTI
        · exact Heap.lt_size hTO
        · obtain ⟨_, q, _⟩ := h1; exact Heap.lt_size q
        · obtain ⟨_, q, _⟩ := h2; exact Heap.lt_size q
      rw [upd_ne (Nat.ne_of_lt lt)]
      exact (hf c hcm).1
  done := by
    intro X hP hw hK hc i pins s σ H E I hf st hg
    subst hP hw hK
    obtain ⟨hz, hTI, ⟨x0, y0, hTO⟩, h1, h2⟩ := st
    obtain ⟨xs, ys, qx, qy, hend⟩ := hg
    obtain ⟨its, rv, p, _⟩ := I.list qx
    obtain ⟨jts, rw', p', _⟩ := I.tuple qy
    have l1 : i = its.toArray.size := by rw [List.size_toArray, ← rv.length]; exact hend.1.symm
    have l2 : i = jts.toArray.size := by rw [List.size_toArray, ← rw'.length]; exact hend.2.symm
    refine wpAny_pyNext_zipD2_end S (Draws.list (A := X.A.in1) (I.ok.hd hc) i1 a n1 its.toArray) (Draws.tuple (A := X.A.in1) (I.ok.hd hc) i2 b n2 jts.toArray) hz hTI hTO ⟨h1, p.isList⟩ ⟨h2, p'⟩ (Nat.le_of_eq l1) (Nat.le_of_eq l2) (.inl l1) fun h' tk hk => ⟨rfl, I.turnedL (t' := tk) (ch := [z, TI, TO, i1, i2]) (fun c o hb q => hk c o (fun e => hb (by simp [e])) (fun e => hb (by simp [e])) (fun e => hb (by simp [e])) (fun e => hb (by simp [e])) q) hf⟩
  self := fun A i s Q E st h => wpAny_pyIter_zip st.z h
def iZipN (K : PySem.W.Frag) (ta : TA) : TI := fun σ H R => ta σ H fun vs H1 => ∃ a b xs ys, vs = [.ref a, .ref b] ∧ SqL K H1 a xs ∧ SqT K H1 b ys ∧ R (ItzN K a b) H1
theorem pi_zipN {X : Cx} {e e2 : Expr} {ta : TA} {p pos tpos : Pos} {elts : List Expr} {kk : Nat} (hg : Gl X "zip") (hm : X.mg "zip" = none) (ha : PA X [e, e2] ta)
    (hs : starEach [e, e2] X.env = (false, eval e X.env) :: starEach [e2] X.env := by rfl) (hpl : (backTo pos (starEach [e2] X.env)).any (·.1) = false := by rfl) : PI X (.Tuple elts kk tpos) (.Call (.Name "zip" p) [e, e2] [] pos) (iZipN X.K ta) := by
  refine ⟨fun pins s σ H R I h => Call_ (ld_blt I hg hm boot_zip (callWith_type1 (thn (ha.run pos pins s σ H _ I h) fun us s1 ⟨vs, H1, I1, r1, q1⟩ => ?_) hs hpl))⟩
  obtain ⟨a, b, xs, ys, rfl, qx, qy, q⟩ := q1
  cases r1 with
  | cons ra rr =>
   cases rr with
   | cons rb rr =>
    cases rr
    cases ra
    cases rb
    obtain ⟨its, rv, p1, _⟩ := I1.list qx
    obtain ⟨jts, rw', p2, _⟩ := I1.tuple qy
    have la : a < s1.heap.objs.size := p1.lt
    have lb : b < s1.heap.objs.size := by obtain ⟨o, ho, _⟩ := p2; exact Heap.lt_size ho
    refine zip_begins2 (begins_list a its.toArray) (begins_tuple b jts.toArray) p1.isList p2 fun h' hz hTI hTO g1 g2 hsz hk => wpAny_pyIter_zip hz ?_
    have I2 : Inv X pins σ H1 { s1 with heap := h' } := I1.kept (t' := s1.toks) hk
    have S := zip_sep2 (N := s1.heap.objs.size) (fp1 := [a]) (fp2 := [b]) (fun c hc => by rw [List.mem_singleton.mp hc]; exact la) (fun c hc => by rw [List.mem_singleton.mp hc]; exact lb)
    refine ⟨s1.heap.objs.size + 4, [s1.heap.objs.size + 4, s1.heap.objs.size + 2, s1.heap.objs.size + 3, s1.heap.objs.size, s1.heap.objs.size + 1], _, _, H1, rfl, I2, turn_zipN S (Nat.ne_of_lt la) (Nat.ne_of_lt (Nat.lt_succ_of_lt lb)), ⟨hz, hTI, ⟨_, _, hTO⟩, ⟨_, g1, rfl, rfl⟩, ⟨_, g2, rfl, rfl⟩⟩, fun c hcm => ?_, q⟩
    have hle : s1.heap.objs.size ≤ c := by
      rcases fiveN hcm with rfl | rfl | rfl | rfl | rfl
      · exact Nat.le_add_right _ _
      · exact Nat.le_add_right _ _
      · exact Nat.le_add_right _ _
      · exact Nat.le_refl _
      · exact Nat.le_add_right _ _
    exact I1.fpOk hle (I1.hok.fresh hle)
theorem lc_zipN {K : PySem.W.Frag} {a b : Addr} {xs ys : List V} {g : TG} {tt : TT} {te : TE} {vs : List Nat} {σ : L2.St} {H1 : Hp} {D : Addr} {Qd : Hp → Prop} (hxy : ys.length = xs.length) (Pv : Nat → Hp → Prop) (h0 : Pv 0 (upd H1 D (.lst [])))
    (hl : ∀ i H, i ≤ xs.length → Pv i H → SqL K H a xs ∧ SqT K H b ys)
    (hs : ∀ i x y T H H', xs[i]? = some x → ys[i]? = some y → Pv i H → H T = none → H' = upd H T (.tup [x, y]) → g (.ref T) (wipe σ vs) H' fun σ2 H2 => wipe σ2 vs = wipe σ vs ∧ tt σ2 H2 fun b H3 =>
      if b = true then te σ2 H3 fun y H4 => ∃ acc, H4 D = some (.lst acc) ∧ acc.length < sizeLine ∧ Pv (i + 1) (upd H4 D (.lst (acc ++ [y]))) else Pv (i + 1) H3) (hd : ∀ H, Pv xs.length H → Qd H) :
    ∃ W : Nat → Nat → Hp → Prop, (∃ m, W 0 m (upd H1 D (.lst []))) ∧ ∀ i m H, W i m H →
      ((ItzN K a b).stop i H ∧ Qd H) ∨ ((ItzN K a b).go i H ∧ ∃ Nx : Hp → Prop, (∀ H', Nx H' → ∃ m', m' < m ∧ W (i + 1) m' H') ∧ ∀ x H', (ItzN K a b).yld i H x H' → g x (wipe σ vs) H' fun σ2 H2 => wipe σ2 vs = wipe σ vs ∧ tt σ2 H2 fun b H3 =>
        if b = true then te σ2 H3 fun y H4 => ∃ acc, H4 D = some (.lst acc) ∧ acc.length < sizeLine ∧ Nx (upd H4 D (.lst (acc ++ [y]))) else Nx H3) := by
  refine ⟨fun i m H => m = xs.length - i ∧ i ≤ xs.length ∧ Pv i H, ⟨xs.length, by simp, Nat.zero_le _, h0⟩, ?_⟩
  rintro i m H ⟨rfl, hi, p⟩
  obtain ⟨q, q'⟩ := hl i H hi p
  by_cases hlt : i < xs.length
  · have hlt2 : i < ys.length := by omega
    have gx := List.getElem?_eq_getElem hlt
    have gy := List.getElem?_eq_getElem hlt2
    refine .inr ⟨⟨xs, ys, xs[i], ys[i], q, q', gx, gy⟩, Pv (i + 1), fun H' p' => ⟨xs.length - (i + 1), by omega, rfl, hlt, p'⟩, fun x H' y => ?_⟩
    obtain ⟨T, u, v, rfl, hT, rfl, hu, hv⟩ := y
    exact hs i u v T H _ (hu xs q) (hv ys q') p hT rfl
  · have e : i = xs.length := by omega
    subst e
    exact .inl ⟨⟨xs, ys, q, q', rfl, hxy⟩, hd H p⟩
end DLR
namespace DLR
open PySem PySem.Spec PyProof.Rows L2
/-! ### how often a truth stands in a list; what is never asked -/
def rCntB (K : PySem.W.Frag) : V → List V → Hp → VK → Prop := fun x xs H Q => ∃ (p : Addr) (bs : List Bool) (b : Bool), x = .ref p ∧ xs = [.bl b] ∧ SqL K H p (bs.map V.bl) ∧ Q (.int (bs.count b : Nat)) H
theorem flat_bl : ∀ bs : List Bool, (bs.map V.bl).all flatV = true
  | [] => rfl
  | _ :: bs => flat_bl bs
theorem count_bl (b : Bool) : ∀ {bs : List Bool} {us : List Value}, Vals (bs.map V.bl) us → us.countP (eqU (.bl b)) = bs.count b
  | [], _, .nil => rfl
  | c :: bs, u :: us, .cons r t => by
    rw [List.countP_cons, count_bl b t, eqU_of r rfl, List.count_cons]
    rfl
section
variable {X : Cx}
theorem mt_countB : MtR X "list.count" (rCntB X.K) := by
  intro pins s σ H x xs v us Q I rx rxs h
  obtain ⟨p, bs, b, rfl, rfl, hs, q⟩ := h
  cases rx
  obtain ⟨u, rfl, ru⟩ := rxs.one
  obtain ⟨its, rv, ⟨⟨cls, dd, data, sl⟩, n, ho, hc, hdn, hd⟩, hlen⟩ := I.list hs
  simp only at hc hd
  subst hc hd
  refine call_meets PySem.F.slot_list_count ⟨_, ho, rfl⟩ PySem.F.entry_list_count (PySem.F.args_list_count_2 _ _)
    (SeqAt.list_countAt p its.toArray n dd sl u (eqU (.bl b))) ⟨ho, fun y hy => mem_eqAt ru rfl rv (flat_bl bs) y (by simpa using hy), ?_⟩
  refine ⟨.int (bs.count b : Nat), H, I.tok _, ⟨s.toks, ?_⟩, q⟩
  show Value.int ((its.toArray.toList.countP (eqU (.bl b)) : Nat) : Int) s.toks = Value.int ((bs.count b : Nat) : Int) s.toks
  rw [show its.toArray.toList = its from rfl, count_bl b rv]
def tNo : TE := fun _ _ _ => False
theorem pe_no {e : Expr} : PE X e tNo := ⟨fun _ _ _ _ _ _ h => h.elim⟩
end
end DLR
namespace DLR
open PySem PySem.Spec PyProof.Rows L2
open DL (nI)
/-! ### how often a number stands in a tuple -/
def rTCnt : V → List V → Hp → VK → Prop := fun x xs H Q => ∃ (p : Addr) (l : List Nat) (n : Nat), x = .ref p ∧ xs = [nI n] ∧ H p = some (.tup (l.map nI)) ∧ Q (.int (l.count n : Nat)) H
theorem flat_nI : ∀ l : List Nat, (l.map nI).all flatV = true
  | [] => rfl
  | _ :: l => flat_nI l
theorem eqV_nI (a b : Nat) : eqV (nI a) (nI b) = decide (a = b) := by
  show decide ((a : Int) = (b : Int)) = _
  by_cases h : a = b
  · rw [decide_eq_true h]
    exact decide_eq_true (by omega)
  · rw [decide_eq_false h]
    exact decide_eq_false (by omega)
theorem count_nI {n : Nat} : ∀ {l : List Nat} {us : List Value}, Vals (l.map nI) us → us.countP (eqU (nI n)) = l.count n
  | [], _, .nil => rfl
  | c :: l, u :: us, .cons r t => by
    rw [List.countP_cons, count_nI t, eqU_of r rfl, List.count_cons, eqV_nI]
    by_cases h : c = n <;> simp [h]
theorem mt_tcount {X : Cx} : MtR X "tuple.count" rTCnt := by
  intro pins s σ H x xs v us Q I rx rxs h
  obtain ⟨p, l, n, rfl, rfl, hs, q⟩ := h
  cases rx
  obtain ⟨u, rfl, ru⟩ := rxs.one
  obtain ⟨its, rv, ⟨⟨cls, dd, data, sl⟩, ho, hc, m, hd⟩, _⟩ := I.tuple (SqT.of hs)
  simp only at hc hd
  subst hc hd
  refine call_meets PySem.F.slot_tuple_count ⟨_, ho, rfl⟩ PySem.F.entry_tuple_count (PySem.F.args_tuple_count_2 _ _)
    (SeqAt.tuple_countAt p its.toArray m dd sl u (eqU (nI n))) ⟨ho, fun y hy => mem_eqAt ru rfl rv (flat_nI l) y (by simpa using hy), ?_⟩
  refine ⟨.int (l.count n : Nat), H, I.tok _, ⟨s.toks, ?_⟩, q⟩
  show Value.int ((its.toArray.toList.countP (eqU (nI n)) : Nat) : Int) s.toks = Value.int ((l.count n : Nat) : Int) s.toks
  rw [show its.toArray.toList = its from rfl, count_nI rv]
end DLR
namespace DLR
open PySem PySem.Spec PyProof.Rows L2 PySem.W SrtO
/-! ### sorted(cells): tuples of a spot and something, no spot twice -/
def CellIn (h : Heap) (v : Value) (x y : Int) : Prop := ∃ (a sp : Addr) (wv : Value) (t u : Tok), v = .ref a ∧ IsTup h a #[.ref sp, wv] ∧ IsTup h sp #[.int x t, .int y u]
theorem CellIn.keeps {h h' : Heap} {v : Value} {x y : Int} (c : CellIn h v x y) (k : ∀ b o, h.get? b = some o → o.cls = .type "tuple" → h'.get? b = some o) : CellIn h' v x y := by
  obtain ⟨a, sp, wv, t, u, e, ⟨o, ho, hc, r⟩, ⟨o2, ho2, hc2, r2⟩⟩ := c
  exact ⟨a, sp, wv, t, u, e, ⟨o, k _ _ ho hc, hc, r⟩, ⟨o2, k _ _ ho2 hc2, hc2, r2⟩⟩
theorem dataLt_lex (x y x' y' : Int) (h : (x, y) ≠ (x', y')) : dataLt (.tuple [.int x, .int y]) (.tuple [.int x', .int y']) = lexB (x, y) (x', y') := by
  rw [dataLt_pair (by simp [alike]) (by simp [alike]), dataLt_int, dataLt_int]
  unfold lexB
  by_cases e : x = x'
  · subst e
    have e2 : y ≠ y' := fun z => h (by rw [z])
    simp [PyData.eqv, e2]
  · simp [PyData.eqv, e]
section
variable {prog : Program} {w : World} {A : Around} {E : Value → Shared → Prop} {s : Shared}
theorem cell_cmp {vs : List Value} {k : Value → Int × Int} (hu : A.units + 2 < cLine) (hp : ∀ v ∈ vs, CellIn s.heap v (k v).1 (k v).2) (inj : ∀ v ∈ vs, ∀ u ∈ vs, k v = k u → v = u) :
    Cmp prog w A s (tuples' false) (fun p => p.1 ∈ vs) (lt2 fun v u => lexB (k v) (k u)) := by
  intro p q hm hm'
  show wpAny (model prog w) A (keyLt' (tuples' false) p.1 q.1) (fun r s' => s' = s ∧ r = lexB (k p.1) (k q.1)) (fun _ _ => False) s
  obtain ⟨a, sp, wv, t, u, e, ⟨o, ho, hc, n, hd⟩, t2⟩ := hp _ hm
  obtain ⟨a', sp', wv', t', u', e', ⟨o', ho', hc', n', hd'⟩, t2'⟩ := hp _ hm'
  by_cases he : k p.1 = k q.1
  · have same := inj _ hm _ hm' he
    rw [← same, e]
    refine kat_lt ho hd ho hd ?_
    show KatLex prog w A false false _ [(Value.ref sp, Value.ref sp), (wv, wv)] 0 s
    refine kat_cons (SeqAt.EqAt.same _ prog w _ _ ?_)
    refine kat_go (fun _ => kat_yes (kat_cons (SeqAt.EqAt.same _ prog w _ _ ?_))) (fun z => by cases z)
    refine kat_go (fun _ => kat_yes (kat_nil ⟨rfl, ?_⟩)) (fun z => by cases z)
    exact (lexB_no.mpr (by omega)).symm
  · rw [e, e']
    refine kat_lt ho hd ho' hd' ?_
    show KatLex prog w A false false _ [(Value.ref sp, Value.ref sp'), (wv, wv')] 0 s
    have k1 : IsTupleKey (L2.mixKind prog w) s.heap [Sum.inl (k p.1).1, Sum.inl (k p.1).2] sp := by
      obtain ⟨ok, hok, ck, nk, dk⟩ := t2
      exact ⟨ok, _, nk, hok, ck, dk, .cons (L2.mixKind_int prog w _ t) (.cons (L2.mixKind_int prog w _ u) .nil)⟩
    have k2 : IsTupleKey (L2.mixKind prog w) s.heap [Sum.inl (k q.1).1, Sum.inl (k q.1).2] sp' := by
      obtain ⟨ok, hok, ck, nk, dk⟩ := t2'
      exact ⟨ok, _, nk, hok, ck, dk, .cons (L2.mixKind_int prog w _ t') (.cons (L2.mixKind_int prog w _ u') .nil)⟩
    have hne : ((k p.1).1, (k p.1).2) ≠ ((k q.1).1, (k q.1).2) := he
    refine kat_cons (wpAny_eqBool_tuple (by omega) k1 k2 ?_)
    refine kat_go (fun e0 => ?_) (fun _ => kat_no ?_)
    · exfalso
      have z0 := of_decide_eq_true e0
      injection z0 with z1 z2
      injection z1 with z1
      injection z2 with z2 _
      injection z2 with z2
      exact hne (by rw [z1, z2])
    · refine kat_one _ _ ?_
      have r1 : Reads s.heap (.ref sp) (.tuple [.int (k p.1).1, .int (k p.1).2]) [] := by
        obtain ⟨ok, hok, ck, nk, dk⟩ := t2
        exact .tuple hok ck dk (.cons (.int _ _) (.cons (.int _ _) .nil))
      have r2 : Reads s.heap (.ref sp') (.tuple [.int (k q.1).1, .int (k q.1).2]) [] := by
        obtain ⟨ok, hok, ck, nk, dk⟩ := t2'
        exact .tuple hok ck dk (.cons (.int _ _) (.cons (.int _ _) .nil))
      refine rcLt_alike _ _ A s _ _ _ _ r1 r2 (by simp [alike, alikeAll]) (by simp) ?_ prog w _ _ (show s = s ∧ dataLt (.tuple [.int (k p.1).1, .int (k p.1).2]) (.tuple [.int (k q.1).1, .int (k q.1).2]) = lexB (k (Value.ref a)) (k (Value.ref a')) from ⟨rfl, by rw [← e, ← e']; exact dataLt_lex _ _ _ _ hne⟩)
      simp only [PyData.depth, PyData.depthAll]
      omega
end
end DLR
namespace DLR
open PySem PySem.Spec PyProof.Rows L2 PySem.W SrtO
theorem cells_firsts {h : Heap} {k : Value → Int × Int} : ∀ vs : List Value, (∀ v ∈ vs, CellIn h v (k v).1 (k v).2) → ∃ fs : List Value, KatTups h vs fs ∧ fs.length = vs.length ∧ ∀ f ∈ fs, ∃ (q : Addr) (o : Obj), f = Value.ref q ∧ h.get? q = some o ∧ o.cls = .type "tuple"
  | [], _ => ⟨[], KatTups.nil, rfl, fun f hf => by simp at hf⟩
  | v :: vs, x => by
    obtain ⟨fs, kt, hl, hi⟩ := cells_firsts vs fun u hu => x u (List.mem_cons_of_mem _ hu)
    obtain ⟨a, sp, wv, t, u, e, ⟨o, ho, hc, n, hd⟩, ⟨o2, ho2, hc2, _⟩⟩ := x v (List.mem_cons_self ..)
    subst e
    refine ⟨.ref sp :: fs, KatTups.cons ho hc hd rfl kt, by rw [List.length_cons, List.length_cons, hl], fun f hf => ?_⟩
    rcases List.mem_cons.mp hf with rfl | hf
    · exact ⟨sp, o2, rfl, ho2, hc2⟩
    · exact hi f hf
section
variable {prog : Program} {w : World} {A : Around} {E : Value → Shared → Prop} {s : Shared}
theorem cells_sortableO {a : Addr} {vs : List Value} {k : Value → Int × Int} (hu : A.units + 2 < cLine) (h0 : 0 < vs.length) (hp : ∀ v ∈ vs, CellIn s.heap v (k v).1 (k v).2) (inj : ∀ v ∈ vs, ∀ u ∈ vs, k v = k u → v = u)
    (ha : ∀ o, s.heap.get? a = some o → o.cls ≠ .type "tuple") : SortableO prog w A s a vs fun v u => lexB (k v) (k u) := by
  intro h' keep
  have hp' : ∀ v ∈ vs, CellIn h' v (k v).1 (k v).2 := fun v hm => (hp v hm).keeps fun b o e c => keep b o (fun z => by subst z; exact ha o e c) e
  obtain ⟨fs, k1, hl, hi⟩ := cells_firsts vs hp'
  refine ⟨tuples' false, fun Q E hq => ?_, cell_cmp (s := { s with heap := h' }) hu hp' inj⟩
  refine PySem.W.kat_kind (s := { s with heap := h' }) (T := .type "tuple") k1 (by omega) (fun f hm => ?_) (by rfl) ?_
  · obtain ⟨q, o, rfl, ho, hc⟩ := hi f hm
    have z : PySem.W.Looks (model prog w) h' (typeOf (.ref q)) o.cls := (PySem.W.Looks.ld ho).andThen .now
    rw [hc] at z
    exact z
  · have e : (Value.type "tuple" != Value.type "tuple") = false := by first | rfl | decide | simp
    rw [e]
    exact hq
theorem sorted_cells {l : Addr} {vs : List Value} {k : Value → Int × Int} {Q : Value → Shared → Prop} (hu : A.units + 4 < cLine) (hl : s.heap.IsList l vs.toArray) (hz : vs.length ≤ sizeLine) (hp : ∀ v ∈ vs, CellIn s.heap v (k v).1 (k v).2) (inj : ∀ v ∈ vs, ∀ u ∈ vs, k v = k u → v = u)
    (h : ∀ (h' : Heap) (d : Addr) (out : List Value), Srtd (fun v u => lexB (k v) (k u)) out → Stb (fun v u => lexB (k v) (k u)) out vs → (∀ b o, s.heap.get? b = some o → h'.get? b = some o) → s.heap.objs.size ≤ d → (∃ n, h'.get? d = some (seqObj "list" out.toArray n)) → Q (.ref d) { s with heap := h' }) :
    wpAny (model prog w) A (call (.builtin "sorted") [.ref l]) Q E s := by
  refine sorted_ord (swo_lex k) hl hz (fun h2 h₁ a ha kk => ?_) fun out hs hb => ?_
  · refine cells_sortableO (s := { s with heap := h₁ }) (by show A.units + 1 + 1 + 2 < cLine; omega) (by omega) (fun v hm => (hp v hm).keeps fun b o e _ => (kk b o e).2) inj fun o e => ?_
    have e' : some o = some (seqObj "list" vs.toArray 0) := e.symm.trans ha
    cases e'
    intro c
    exact absurd (Value.type.inj c) (by decide)
  · exact h _ _ out hs hb (fun b o e => PyProof.Rows.sortedAll_old e) (Nat.le_succ _) (PyProof.Rows.sortedAll_at s.heap vs out.toArray)
end
end DLR
namespace DLR
open PySem PySem.Spec PyProof.Rows L2 PySem.W SrtO
open DL (nI)
/-! ### sorted(cells) as a rule -/
def spotLt (a b : Nat × Nat) : Prop := a.1 < b.1 ∨ a.1 = b.1 ∧ a.2 < b.2
theorem spot_asym {a b : Nat × Nat} (h : spotLt a b) (g : spotLt b a) : False := by
  unfold spotLt at h g
  omega
structure IsOrd (ks : List (Nat × Nat)) (o : List Nat) : Prop where
  perm : o.Perm (List.range ks.length)
  up : o.Pairwise fun i j => spotLt (ks.getD i (0, 0)) (ks.getD j (0, 0))
theorem perm_up {α : Type} {R : α → α → Prop} (as : ∀ a b, R a b → R b a → False) : ∀ {l m : List α}, l.Perm m → l.Pairwise R → m.Pairwise R → l = m
  | [], m, p, _, _ => p.nil_eq
  | a :: l, [], p, _, _ => absurd p.eq_nil (by simp)
  | a :: l, b :: m, p, h, g => by
    obtain ⟨h1, h2⟩ := List.pairwise_cons.mp h
    obtain ⟨g1, g2⟩ := List.pairwise_cons.mp g
    have e : a = b := by
      refine Classical.byContradiction fun n => ?_
      have m1 : a ∈ m := (List.mem_cons.mp (p.mem_iff.mp List.mem_cons_self)).resolve_left n
      have m2 : b ∈ l := (List.mem_cons.mp (p.mem_iff.mpr List.mem_cons_self)).resolve_left fun z => n z.symm
      exact as _ _ (h1 b m2) (g1 a m1)
    subst e
    rw [perm_up as p.cons_inv h2 g2]
theorem IsOrd.uniq {ks : List (Nat × Nat)} {o o' : List Nat} (h : IsOrd ks o) (h' : IsOrd ks o') : o = o' :=
  perm_up (fun _ _ => spot_asym) (h.perm.trans h'.perm.symm) h.up h'.up
def CellK (H : Hp) (b : Addr) (k : Nat × Nat) : Prop := ∃ (s : Addr) (v : V), H b = some (.tup [.ref s, v]) ∧ H s = some (.tup [nI k.1, nI k.2])
def rSortC (K : PySem.W.Frag) : List V → Hp → VK → Prop := fun vs H Q => ∃ (a : Addr) (bs : List Addr) (ks : List (Nat × Nat)), vs = [V.ref a] ∧ SqL K H a (bs.map V.ref) ∧ Paired (CellK H) bs ks ∧ ks.Nodup ∧
  ∀ (o : List Nat) (p : Addr), IsOrd ks o → H p = none → Q (.ref p) (upd H p (.lst (o.map fun i => V.ref (bs.getD i 0))))
theorem vals_refs : ∀ {bs : List Addr} {its : List Value}, Vals (bs.map V.ref) its → its = bs.map Value.ref
  | [], _, .nil => rfl
  | b :: bs, _, .cons r rs => by
    have r : _ = Value.ref b := r
    rw [r, vals_refs rs]
    rfl
theorem refs_vals : ∀ bs : List Addr, Vals (bs.map V.ref) (bs.map Value.ref)
  | [] => .nil
  | b :: bs => .cons rfl (refs_vals bs)
theorem cellK_in {X : Cx} {pins : List (Addr × Obj)} {s : Shared} {σ : L2.St} {H : Hp} (I : L2.Inv X pins σ H s) {b : Addr} {k : Nat × Nat} (h : CellK H b k) : CellIn s.heap (.ref b) (k.1 : Int) (k.2 : Int) := by
  obtain ⟨sp, v, h1, h2⟩ := h
  obtain ⟨its, rv, ⟨o, ho, hc, n, hd⟩, _⟩ := I.tuple (SqT.of h1)
  obtain ⟨its2, rv2, ⟨o2, ho2, hc2, n2, hd2⟩, _⟩ := I.tuple (SqT.of h2)
  cases rv with
  | cons ra rr =>
  cases rr with
  | cons rb rr =>
  cases rr
  cases rv2 with
  | cons rx rr2 =>
  cases rr2 with
  | cons ry rr2 =>
  cases rr2
  cases ra
  obtain ⟨t, rfl⟩ := rx
  obtain ⟨u, rfl⟩ := ry
  exact ⟨b, sp, _, t, u, rfl, ⟨o, ho, hc, n, hd⟩, ⟨o2, ho2, hc2, n2, hd2⟩⟩
theorem cells_nodup {H : Hp} : ∀ {bs : List Addr} {ks : List (Nat × Nat)}, Paired (CellK H) bs ks → ks.Nodup → bs.Nodup
  | _, _, .nil, _ => List.nodup_nil
  | b :: bs, k :: ks, .cons h t, nd => by
    obtain ⟨n1, n2⟩ := List.nodup_cons.mp nd
    refine List.nodup_cons.mpr ⟨fun hm => n1 ?_, cells_nodup t n2⟩
    obtain ⟨i, hi, e⟩ := List.mem_iff_getElem.mp hm
    obtain ⟨k', g1, g2⟩ := DL.Paired.get t (List.getElem?_eq_getElem hi)
    rw [e] at g2
    obtain ⟨s, v, a1, a2⟩ := h
    obtain ⟨s', v', b1, b2⟩ := g2
    rw [a1] at b1
    obtain ⟨rfl, rfl⟩ : s = s' ∧ v = v' := by
      injection b1 with b1
      injection b1 with b1
      injection b1 with z1 z2
      injection z1 with z1
      injection z2 with z2 _
      exact ⟨z1, z2⟩
    rw [a2] at b2
    have e2 : k' = k := by
      injection b2 with b2
      injection b2 with b2
      injection b2 with z1 z2
      injection z1 with z1
      injection z2 with z2 _
      injection z2 with z2
      obtain ⟨x, y⟩ := k
      obtain ⟨x', y'⟩ := k'
      have z1 : (x : Int) = (x' : Int) := z1
      have z2 : (y : Int) = (y' : Int) := z2
      have q1 : x = x' := by omega
      have q2 : y = y' := by omega
      rw [q1, q2]
    rw [← e2]
    exact List.mem_of_getElem? g1
theorem nodup_ix {α : Type} {l : List α} (nd : l.Nodup) {i j : Nat} (hi : i < l.length) (hj : j < l.length) (e : l[i] = l[j]) : i = j := by
  rcases Nat.lt_trichotomy i j with h | h | h
  · exact absurd e (List.pairwise_iff_getElem.mp nd i j hi hj h)
  · exact h
  · exact absurd e.symm (List.pairwise_iff_getElem.mp nd j i hj hi h)
theorem refs_at (bs : List Addr) (o : List Nat) (out : List Value) (h : out = o.map fun i => Value.ref (bs.getD i 0)) : Vals (o.map fun i => V.ref (bs.getD i 0)) out := by
  subst h
  have z := refs_vals (o.map fun i => bs.getD i 0)
  rw [List.map_map, List.map_map] at z
  exact z
def keyV (bs : List Addr) (ks : List (Nat × Nat)) : Value → Int × Int
  | .ref b => (((ks.getD (bs.idxOf b) (0, 0)).1 : Nat), ((ks.getD (bs.idxOf b) (0, 0)).2 : Nat))
  | _ => (0, 0)
def idxV (bs : List Addr) : Value → Nat
  | .ref b => bs.idxOf b
  | _ => 0
theorem cr_sortedC {X : Cx} (hu : X.A.units + 64 < cLine) : CallR X (.builtin "sorted") (rSortC X.K) := by
  intro pins s σ H vs us Q I r h
  obtain ⟨a, bs, ks, rfl, hs, hT, nd, q⟩ := h
  obtain ⟨its, rv, hl, hz⟩ := I.list hs
  rw [Vals.ref1 r]
  have ei := vals_refs rv
  subst ei
  have hlen : bs.length = ks.length := Paired.length hT
  have bn := cells_nodup hT nd
  rw [List.length_map] at hz
  have at_ : ∀ v ∈ bs.map Value.ref, ∃ i, ∃ hi : i < bs.length, ∃ hk : i < ks.length, v = Value.ref bs[i] ∧ idxV bs v = i ∧ keyV bs ks v = ((ks[i].1 : Int), (ks[i].2 : Int)) ∧ CellK H bs[i] ks[i] := by
    intro v hv
    obtain ⟨b, hb, rfl⟩ := List.mem_map.mp hv
    obtain ⟨i, hi, rfl⟩ := List.mem_iff_getElem.mp hb
    obtain ⟨k, g1, g2⟩ := DL.Paired.get hT (List.getElem?_eq_getElem hi)
    have hk : i < ks.length := by omega
    have ek : ks[i] = k := by
      rw [List.getElem?_eq_getElem hk] at g1
      exact Option.some.inj g1
    have ix : bs.idxOf bs[i] = i := bn.idxOf_getElem i hi
    refine ⟨i, hi, hk, rfl, ix, ?_, ek ▸ g2⟩
    show (((ks.getD (bs.idxOf bs[i]) (0, 0)).1 : Int), ((ks.getD (bs.idxOf bs[i]) (0, 0)).2 : Int)) = _
    rw [ix, List.getD_eq_getElem?_getD, List.getElem?_eq_getElem hk]
    rfl
  have inj : ∀ v ∈ bs.map Value.ref, ∀ u ∈ bs.map Value.ref, keyV bs ks v = keyV bs ks u → v = u := by
    intro v hv u hu e
    obtain ⟨i, hi, hk, rfl, _, e1, _⟩ := at_ v hv
    obtain ⟨j, hj, hk2, rfl, _, e2, _⟩ := at_ u hu
    rw [e1, e2] at e
    have q1 : ks[i].1 = ks[j].1 := by
      have z : (ks[i].1 : Int) = (ks[j].1 : Int) := congrArg Prod.fst e
      omega
    have q2 : ks[i].2 = ks[j].2 := by
      have z : (ks[i].2 : Int) = (ks[j].2 : Int) := congrArg Prod.snd e
      omega
    have q3 : ks[i] = ks[j] := Prod.ext q1 q2
    have q4 : i = j := nodup_ix nd hk hk2 q3
    subst q4
    rfl
  refine sorted_cells (k := keyV bs ks) (by omega) hl.isList (by rw [List.length_map]; exact hz) (fun v hv => ?_) inj fun h' d out hsr hst old hd hn => ?_
  · obtain ⟨i, hi, hk, rfl, _, e1, c⟩ := at_ v hv
    rw [e1]
    exact cellK_in I c
  · have pm := hst.perm
    have hidx : (bs.map Value.ref).map (idxV bs) = List.range ks.length := by
      refine List.ext_getElem (by rw [List.length_map, List.length_map, List.length_range]; exact hlen) fun i h1 h2 => ?_
      rw [List.getElem_map, List.getElem_map, List.getElem_range]
      exact bn.idxOf_getElem i (by simpa using h1)
    have o1 : (out.map (idxV bs)).Perm (List.range ks.length) := by
      rw [← hidx]
      exact pm.map _
    have on : out.Nodup := by
      refine pm.nodup_iff.mpr ?_
      exact (List.pairwise_map.mpr (bn.imp fun {a b} n e => n (by injection e)))
    have o2 : (out.map (idxV bs)).Pairwise fun i j => spotLt (ks.getD i (0, 0)) (ks.getD j (0, 0)) := by
      refine List.pairwise_map.mpr ?_
      refine (hsr.and on).imp_of_mem fun {u v} hu hv h => ?_
      obtain ⟨i, hi, hk, rfl, i1, e1, _⟩ := at_ u (pm.mem_iff.mp hu)
      obtain ⟨j, hj, hk2, rfl, i2, e2, _⟩ := at_ v (pm.mem_iff.mp hv)
      obtain ⟨l1, l2⟩ := h
      have l1 : lexB (keyV bs ks (Value.ref bs[j])) (keyV bs ks (Value.ref bs[i])) = false := l1
      rw [e1, e2] at l1
      rw [i1, i2, List.getD_eq_getElem?_getD, List.getD_eq_getElem?_getD, List.getElem?_eq_getElem hk, List.getElem?_eq_getElem hk2]
      show spotLt ks[i] ks[j]
      have ne : ¬ (ks[i].1 = ks[j].1 ∧ ks[i].2 = ks[j].2) := fun ⟨z1, z2⟩ => l2 (by
        have q4 : i = j := nodup_ix nd hk hk2 (Prod.ext z1 z2)
        subst q4
        rfl)
      have l3 := lexB_no.mp l1
      unfold spotLt
      simp only at l3
      omega
    have o3 : out = (out.map (idxV bs)).map fun i => Value.ref (bs.getD i 0) := by
      rw [List.map_map]
      conv => lhs; rw [← List.map_id out]
      refine List.map_congr_left fun v hv => ?_
      obtain ⟨i, hi, hk, rfl, i1, _, _⟩ := at_ v (pm.mem_iff.mp hv)
      show _ = Value.ref (bs.getD (idxV bs (Value.ref bs[i])) 0)
      rw [i1, List.getD_eq_getElem?_getD, List.getElem?_eq_getElem hi]
      rfl
    have o4 : (out.map (idxV bs)).length = out.length := List.length_map _
    have o5 : out.length = bs.length := by rw [pm.length_eq, List.length_map]
    have ov := refs_at bs _ _ o3
    obtain ⟨n, hn⟩ := hn
    refine ⟨.ref d, upd H d (.lst ((out.map (idxV bs)).map fun i => V.ref (bs.getD i 0))), I.laid (t' := s.toks) old hd ⟨?_, out, n, ov, hn⟩, rfl, q _ _ ⟨o1, o2⟩ (I.hok.fresh hd)⟩
    rw [List.length_map, o4, o5]
    exact hz
end DLR
namespace DL
open PySem L2 DLR
/-! ### the spots of rows and worths -/
def spF (c : Nat → Nat) : List Nat → List (Nat × Nat)
  | [] => []
  | x :: l => (x, c x) :: spF (fun z => c z + if z = x then 1 else 0) l
theorem spF_len : ∀ (l : List Nat) (c : Nat → Nat), (spF c l).length = l.length
  | [], _ => rfl
  | x :: l, c => congrArg Nat.succ (spF_len l _)
theorem spF_congr : ∀ (l : List Nat) {c c' : Nat → Nat}, (∀ x ∈ l, c x = c' x) → spF c l = spF c' l
  | [], _, _, _ => rfl
  | x :: l, c, c', h => by
    unfold spF
    rw [h x List.mem_cons_self, spF_congr l fun z hz => by rw [h z (List.mem_cons_of_mem _ hz)]]
theorem spF_get : ∀ (l : List Nat) (c : Nat → Nat) (i x : Nat), l[i]? = some x → (spF c l)[i]? = some (x, c x + (l.take i).count x)
  | [], _, _, _, h => by simp at h
  | y :: l, c, 0, x, h => by
    have e : y = x := by simpa using h
    subst e
    rfl
  | y :: l, c, i + 1, x, h => by
    have q := spF_get l (fun z => c z + if z = y then 1 else 0) i x (by simpa using h)
    show (spF (fun z => c z + if z = y then 1 else 0) l)[i]? = _
    rw [q, List.take_succ_cons, List.count_cons]
    by_cases e : x = y
    · subst e
      simp
      omega
    · have e2 : ¬ y = x := fun z => e z.symm
      simp [e, e2]
theorem spF_app : ∀ (l m : List Nat) (c : Nat → Nat), spF c (l ++ m) = spF c l ++ spF (fun z => c z + l.count z) m
  | [], m, c => by
    show spF c m = spF (fun z => c z + 0) m
    rfl
  | x :: l, m, c => by
    show (x, c x) :: spF _ (l ++ m) = (x, c x) :: (spF _ l ++ _)
    rw [spF_app l m]
    congr 2
    refine spF_congr m fun z _ => ?_
    rw [List.count_cons]
    by_cases e : z = x
    · subst e
      simp
      omega
    · have e2 : ¬ x = z := fun h => e h.symm
      simp [e, e2]
theorem spF_ge : ∀ (l : List Nat) (c : Nat → Nat) (q : Nat × Nat), q ∈ spF c l → c q.1 ≤ q.2
  | [], _, _, h => by simp [spF] at h
  | x :: l, c, q, h => by
    rcases List.mem_cons.mp h with e | e
    · rw [e]
      exact Nat.le_refl _
    · have z := spF_ge l (fun z => c z + if z = x then 1 else 0) q e
      exact Nat.le_trans (Nat.le_add_right _ _) z
theorem spF_nodup : ∀ (l : List Nat) (c : Nat → Nat), (spF c l).Nodup
  | [], _ => List.nodup_nil
  | x :: l, c => by
    refine List.nodup_cons.mpr ⟨fun h => ?_, spF_nodup l _⟩
    have z : c x + (if x = x then 1 else 0) ≤ c x := spF_ge l (fun z => c z + if z = x then 1 else 0) _ h
    rw [if_pos rfl] at z
    omega
theorem spF_up : ∀ (l : List Nat) (c : Nat → Nat), l.Nodup → spF c l = l.map fun x => (x, c x)
  | [], _, _ => rfl
  | x :: l, c, nd => by
    obtain ⟨n1, n2⟩ := List.nodup_cons.mp nd
    show (x, c x) :: spF _ l = (x, c x) :: _
    rw [spF_congr l (c' := c) fun z hz => ?_, spF_up l c n2]
    have e : ¬ z = x := fun e => n1 (e ▸ hz)
    simp [e]
def liesF (c : Nat → Nat) : List (List Nat) → List (List (Nat × Nat))
  | [] => []
  | h :: hs => spF c h :: liesF (fun z => c z + h.count z) hs
theorem liesF_len : ∀ (hs : List (List Nat)) (c : Nat → Nat), (liesF c hs).length = hs.length
  | [], _ => rfl
  | h :: hs, c => congrArg Nat.succ (liesF_len hs _)
theorem liesF_get : ∀ (hs : List (List Nat)) (c : Nat → Nat) (j : Nat) (h : List Nat), hs[j]? = some h → (liesF c hs)[j]? = some (spF (fun z => c z + (hs.take j).flatten.count z) h)
  | [], _, _, _, e => by simp at e
  | g :: hs, c, 0, h, e => by
    have e : g = h := by simpa using e
    subst e
    rfl
  | g :: hs, c, j + 1, h, e => by
    have q := liesF_get hs (fun z => c z + g.count z) j h (by simpa using e)
    show (liesF (fun z => c z + g.count z) hs)[j]? = _
    rw [q, List.take_succ_cons, List.flatten_cons]
    refine congrArg some (spF_congr h fun z _ => ?_)
    rw [List.count_append]
    omega
theorem liesF_flat : ∀ (hs : List (List Nat)) (c : Nat → Nat), (liesF c hs).flatten = spF c hs.flatten
  | [], _ => rfl
  | h :: hs, c => by
    show (spF c h :: liesF _ hs).flatten = spF c (h ++ hs.flatten)
    rw [List.flatten_cons, liesF_flat hs, spF_app]
def Row.wor : Row → Nat
  | .load w _ => w
  | .add w _ => w
  | .take w _ => w
  | .store w _ => w
  | _ => 0
theorem Row.wor_at {r : Row} (h : r.uses = true) : (rowVs r)[1]? = some (nI r.wor) := by cases r <;> first | rfl | cases h
theorem Row.wor_lt {W N : Nat} {r : Row} (h : r.uses = true) (k : r.ok W N) : r.wor < W := by
  cases r <;> first | exact k.1 | cases h
def rowSp (y : Lay) : List (Nat × Nat) := spF (fun _ => 0) y.places
def worSp (y : Lay) : List (List (Nat × Nat)) := liesF (fun z => y.places.count z) y.homes
theorem rowSp_len (y : Lay) : (rowSp y).length = y.places.length := spF_len _ _
theorem worSp_len (y : Lay) : (worSp y).length = y.homes.length := liesF_len _ _
def keysF (y : Lay) : List (Nat × Nat) := rowSp y ++ (worSp y).flatten
theorem keys_eq (y : Lay) : keysF y = spF (fun _ => 0) (y.places ++ y.homes.flatten) := by
  unfold keysF rowSp worSp
  rw [liesF_flat, spF_app]
  refine congrArg _ (spF_congr _ fun z _ => ?_)
  omega
theorem keys_nodup (y : Lay) : (keysF y).Nodup := by
  rw [keys_eq]
  exact spF_nodup _ _
def spotD (q : Nat × Nat) : D := .tup [.int (q.1 : Nat), .int (q.2 : Nat)]
def homesD (l : List (Nat × Nat)) : D := .tup (l.map spotD)
def whatDs (y : Lay) (r : Row) : List D := .str r.word :: ((if r.uses = true then [homesD ((worSp y).getD r.wor [])] else []) ++ (nx r).map fun t => spotD ((rowSp y).getD t (0, 0)))
def whatD (y : Lay) (r : Row) : D := .tup (whatDs y r)
abbrev Cell := (Nat × Nat) × D
def rowCell (p : Prog) (y : Lay) (i : Nat) : Cell := ((rowSp y).getD i (0, 0), whatD y (p.rows.getD i .stop))
def worD (z : Int) : D := .tup [.str "worth", .int z]
def worCells (p : Prog) (y : Lay) (j : Nat) : List Cell := ((worSp y).getD j []).map fun s => (s, worD (p.ws.getD j 0))
def cellsN (p : Prog) (y : Lay) (j : Nat) : List Cell := (List.range p.rows.length).map (rowCell p y) ++ (List.range j).flatMap (worCells p y)
def cellsF (p : Prog) (y : Lay) : List Cell := cellsN p y p.ws.length
theorem cellsN_succ (p : Prog) (y : Lay) (j : Nat) : cellsN p y (j + 1) = cellsN p y j ++ worCells p y j := by
  unfold cellsN
  rw [List.range_succ, List.flatMap_append, List.append_assoc]
  simp
theorem range_getD {α : Type} (d : α) : ∀ l : List α, (List.range l.length).map (fun i => l.getD i d) = l := fun l => by
  refine List.ext_getElem (by simp) fun i h1 h2 => ?_
  rw [List.getElem_map, List.getElem_range, List.getD_eq_getElem?_getD, List.getElem?_eq_getElem h2]
  rfl
theorem keys_cells {p : Prog} {y : Lay} (yk : LayOk p y) : (cellsF p y).map (·.1) = keysF y := by
  unfold cellsF cellsN keysF
  rw [List.map_append, List.map_map, List.map_flatMap]
  congr 1
  · have e := range_getD (0, 0) (rowSp y)
    rw [rowSp_len, yk.pl] at e
    exact e
  · have e := range_getD ([] : List (Nat × Nat)) (worSp y)
    rw [worSp_len, yk.hl] at e
    conv => rhs; rw [← e]
    rw [← List.flatMap_def]
    refine congrArg (fun f => List.flatMap f _) (funext fun j => ?_)
    unfold worCells
    rw [List.map_map]
    exact List.map_id _
def cellD (c : Cell) : D := .tup [spotD c.1, c.2]
def imageD (p : Prog) (y : Lay) (o : List Nat) : D := .tup [.int (y.wide : Nat), spotD ((rowSp y).getD 0 (0, 0)), .lst (o.map fun i => cellD ((cellsF p y).getD i ((0, 0), .non)))]
def mostF (y : Lay) : Int := maxL ((List.range y.wide).map fun z => ((y.places.count z + y.homes.flatten.count z : Nat) : Int))
end DL
namespace DL
open PySem L2 DLR
abbrev SpotsAt (H : Hp) (ts : List Addr) (qs : List (Nat × Nat)) : Prop := Paired (fun t (q : Nat × Nat) => H t = some (.tup [nI q.1, nI q.2])) ts qs
theorem SpotsAt.kp {H H' : Hp} {ts : List Addr} {qs : List (Nat × Nat)} (h : SpotsAt H ts qs) (k : Kp H H') : SpotsAt H' ts qs := Paired.mapP h fun b x e => k _ _ e
abbrev LiesAt (H : Hp) (hs : List Addr) (L : List (List (Nat × Nat))) : Prop := Paired (fun h l => ∃ ts : List Addr, H h = some (.tup (ts.map V.ref)) ∧ SpotsAt H ts l) hs L
theorem LiesAt.kp {H H' : Hp} {hs : List Addr} {L : List (List (Nat × Nat))} (h : LiesAt H hs L) (k : Kp H H') : LiesAt H' hs L := Paired.mapP h fun b x ⟨ts, e1, e2⟩ => ⟨ts, k _ _ e1, SpotsAt.kp e2 k⟩
theorem But.kp {u : Addr} {H H' : Hp} {xs : List V} (b : But u H H') (h : H u = some (.lst xs)) : Kp H H' := fun a ys e => b a _ (fun z => by subst z; rw [h] at e; cases e) e
theorem But.mut {u p : Addr} {H H' : Hp} {o : HO} (b : But u H H') (h : H p = none) : But u H (upd H' p o) := fun a x n e => by
  rw [upd_ne (ne_of_none e h)]; exact b a x n e
theorem But.at {u : Addr} {H H' : Hp} {o : HO} (b : But u H H') : But u H (upd H' u o) := fun a x n e => by
  rw [upd_ne n]; exact b a x n e
def useV (W : Nat) (f : Nat → Nat) : List V := ((List.range W).map fun z => ((f z : Nat) : Int)).map V.int
theorem useV_get {W u : Nat} (f : Nat → Nat) (h : u < W) : (useV W f)[u]? = some (nI (f u)) := by
  unfold useV
  rw [List.map_map, List.getElem?_map, List.getElem?_range h]
  rfl
theorem useV_len (W : Nat) (f : Nat → Nat) : (useV W f).length = W := by
  unfold useV
  rw [List.length_map, List.length_map, List.length_range]
theorem useV_set {W u : Nat} {f f' : Nat → Nat} {y : Int} (hy : ((f' u : Nat) : Int) = y) (hf : ∀ x, x ≠ u → f' x = f x) : (useV W f).set u (.int y) = useV W f' := by
  unfold useV
  rw [List.map_map, List.map_map]
  refine List.ext_getElem (by simp) fun i h1 h2 => ?_
  rw [List.getElem_set]
  by_cases e : u = i
  · subst e
    rw [if_pos rfl]
    simp [hy]
  · rw [if_neg e]
    simp [hf i fun z => e z.symm]
theorem useV_congr {W : Nat} {f f' : Nat → Nat} (h : ∀ x, f x = f' x) : useV W f = useV W f' := by
  rw [show f = f' from funext h]
abbrev sTakeSpots : Stmt := top 45
abbrev FTakeSpots (K : Frg) (mg : Str → Option Value) := Fd K mg "take_spots" sTakeSpots ["places", "used"]
abbrev nTakeSpots : List Str := ["places","used","spots","place"]
def spTakeSpots : Sp := fun vs H Q _ => ∃ (a u : Addr) (l : List Nat) (W : Nat) (c : Nat → Nat), vs = [.ref a, .ref u] ∧ H a = some (.tup (l.map nI)) ∧ H u = some (.lst (useV W c)) ∧ l.length ≤ 100 ∧ W ≤ 100 ∧ (∀ x ∈ l, x < W) ∧
  ∀ t ts H', But u H H' → H' u = some (.lst (useV W fun z => c z + l.count z)) → H' t = some (.tup (ts.map V.ref)) → SpotsAt H' ts (spF c l) → Q (.ref t) H'
section
variable {P : Program} {w : World} {K : PySem.W.Frag} {mg : Str → Option Value} {base : Heap}
theorem scTakeSpots : FnScope nTakeSpots ["places", "used"] (defScope sTakeSpots) := ⟨rfl, rfl, rfl, by decide +kernel, rfl, by decide +kernel, by decide +kernel⟩
theorem ok_takeSpots (c : FTakeSpots K mg) (T : Bt mg) : FnOk P w K mg base CX0 1 c.f c.fd ["places", "used"] spTakeSpots := by
  refine c.F.ok scTakeSpots (fun vs H Q E h => ?_) (fun cdv A outer s H vs Q E hr h => ?_)
  · obtain ⟨a, u, l, W, c, rfl, _⟩ := h
    rfl
  · obtain ⟨a, u, l, W, c, rfl, ha, hu, l100, w100, hlt, k⟩ := h
    refine ⟨_, (pss_cons (ps_set (i := 2) scTakeSpots.nd rfl (Or.inl rfl) (pe_lst pa_nil))
      (pss_cons (ps_for PassesOwn.never rfl (pi_tup (pv 0)) (pg_name (i := 3) scTakeSpots.nd rfl (Or.inl rfl))
          (pss_cons (ps_expr (pe_bm PySem.F.plainAttrs_list PySem.F.slot_list_append PySem.F.type_list_append mt_append (pv 2) (pa_cons (pe_tup (pa_cons (pv 3) (pa_cons (pe_ix ix_list (pv 1) (pv 3) (fun _ _ => rfl)) pa_nil))) pa_nil)))
          (pss_one (ps_augS (pv 1) (pv 3) get_list pe_int ip_add set_list))))
      (pss_one (ps_ret (pe_callTy call_tuple_of (by rfl) T.tuple (by decide +kernel) (pa_cons (pv 2) pa_nil)))))), ?_⟩
    refine ⟨Nat.zero_le _, fun sl hsl => ?_⟩
    refine alloc hsl fun H1 s1 e1 => ?_
    have ne : sl ≠ u := fun z => by rw [z, hu] at hsl; cases hsl
    refine ⟨_, rfl, a, rfl, ⟨_, SqT.of (s1 _ _ ha)⟩, for_tup (K := K) (a := a) (xs := l.map nI) (fun i σ H' => ∃ (x3 : Option V) (ts : List Addr), σ = [some (.ref a), some (.ref u), some (.ref sl), x3] ∧ But u H H' ∧ H' u = some (.lst (useV W fun z => c z + (l.take i).count z)) ∧ H' sl = some (.lst (ts.map V.ref)) ∧ SpotsAt H' ts ((spF c l).take i))
      ⟨none, [], rfl, But.of s1, s1 _ _ hu, e1, .nil⟩ (fun i σ H' _ ⟨_, _, _, b, _, _, _⟩ => SqT.of (b.kp hu _ _ ha)) ?_ ?_⟩
    · rintro i x σ H2 hi ⟨x3, ts, rfl, b2, u2, sl2, S2⟩
      rw [List.getElem?_map] at hi
      cases hx : l[i]? with
      | none => rw [hx] at hi; cases hi
      | some x0 =>
      rw [hx] at hi
      have ex : nI x0 = x := Option.some.inj hi
      subst ex
      have hxW := hlt x0 (List.mem_of_getElem? hx)
      have hil : i < l.length := (List.getElem?_eq_some_iff.mp hx).1
      have htl := Paired.length S2
      rw [List.length_take, spF_len] at htl
      refine ⟨_, rfl, .inl ⟨rfl, _, SqL.of sl2⟩, _, rfl, _, rfl, _, rfl, u, _, _, _, rfl, rfl, SqL.of u2, atI_nat (useV_get _ hxW), (by show 2 ≤ sizeLine; decide), fun tt htt => ?_⟩
      refine alloc htt fun H3 s3 e3 => ?_
      have sl3 := s3 _ _ sl2
      refine ⟨sl, _, _, rfl, rfl, sl3, szl (by rw [List.length_map]; omega), ?_⟩
      have b4 : But u H (upd H3 sl (.lst (ts.map V.ref ++ [.ref tt]))) := (b2.trans (But.of s3)).mut hsl
      have k4 : Kp H2 (upd H3 sl (.lst (ts.map V.ref ++ [.ref tt]))) := (Kp.same s3).trans (Kp.lst sl3)
      have e4 : (upd H3 sl (.lst (ts.map V.ref ++ [.ref tt]))) sl = some (.lst (ts.map V.ref ++ [.ref tt])) := upd_same
      have u4 : (upd H3 sl (.lst (ts.map V.ref ++ [.ref tt]))) u = some (.lst (useV W fun z => c z + (l.take i).count z)) := (upd_ne ne.symm).trans (s3 _ _ u2)
      have t4 : (upd H3 sl (.lst (ts.map V.ref ++ [.ref tt]))) tt = some (.tup [nI x0, nI (c x0 + (l.take i).count x0)]) := Kp.lst sl3 _ _ e3
      generalize upd H3 sl (.lst (ts.map V.ref ++ [.ref tt])) = H4 at *
      refine ⟨_, rfl, _, rfl, u, _, x0, _, rfl, rfl, SqL.of u4, useV_get _ hxW, _, _, rfl, rfl, u, _, _, x0, rfl, rfl, u4, ixN_nat (by rw [useV_len]; exact hxW), ?_⟩
      rw [useV_set (f' := fun z => c z + (l.take (i + 1)).count z) ?_ ?_]
      · have e5 : (upd H4 u (.lst (useV W fun z => c z + (l.take (i + 1)).count z))) sl = some (.lst (ts.map V.ref ++ [.ref tt])) := (upd_ne ne).trans e4
        refine ⟨_, ts ++ [tt], rfl, b4.at, upd_same, by rw [e5, List.map_append]; rfl, ?_⟩
        rw [show (spF c l).take (i + 1) = (spF c l).take i ++ [(x0, c x0 + (l.take i).count x0)] by rw [List.take_add_one, spF_get l c i x0 hx]; rfl]
        exact Paired.app (SpotsAt.kp S2 (k4.trans (Kp.lst u4))) (Paired.one (Kp.lst u4 _ _ t4))
      · rw [List.take_add_one, hx]
        show ((c x0 + List.count x0 (l.take i ++ [x0]) : Nat) : Int) = ((c x0 + (l.take i).count x0 : Nat) : Int) + 1
        rw [List.count_append]
        simp
        omega
      · intro z hz
        rw [List.take_add_one, hx]
        show c z + List.count z (l.take i ++ [x0]) = _
        rw [List.count_append, List.count_singleton]
        simp
        exact fun q => hz q.symm
    · rintro σ H2 ⟨x3, ts, rfl, b2, u2, sl2, S2⟩
      rw [List.length_map, List.take_length] at u2
      have el : (spF c l).take (l.map nI).length = spF c l := by
        rw [List.length_map, ← spF_len l c, List.take_length]
      rw [el] at S2
      refine ⟨_, rfl, sl, _, rfl, .inl ⟨SqL.of sl2, fun t ht => ?_⟩⟩
      refine alloc ht fun H3 s3 e3 => ?_
      exact k t ts H3 (b2.trans (But.of s3)) (s3 _ _ u2) e3 (SpotsAt.kp S2 (Kp.same s3))
end
end DL
namespace DL
open PySem L2 DLR
abbrev sSpotsOf : Stmt := top 44
abbrev FSpotsOf (K : Frg) (mg : Str → Option Value) := Fd K mg "spots_of" sSpotsOf ["laying"]
abbrev nSpotsOf : List Str := ["laying","wide","places","homes","used","rows","worths","home"]
def spSpotsOf : Sp := fun vs H Q _ => ∃ (b : Addr) (p : Prog) (y : Lay), vs = [.ref b] ∧ Good p ∧ LayAt H b y ∧ LayOk p y ∧
  ∀ t rt wl ts hs H', Same1 H H' → H' t = some (.tup [.ref rt, .ref wl, .int (mostF y)]) → H' rt = some (.tup (ts.map V.ref)) → SpotsAt H' ts (rowSp y) → H' wl = some (.lst (hs.map V.ref)) → LiesAt H' hs (worSp y) → Q (.ref t) H'
section
variable {P : Program} {w : World} {K : PySem.W.Frag} {mg : Str → Option Value} {base : Heap}
theorem scSpotsOf : FnScope nSpotsOf ["laying"] (defScope sSpotsOf) := ⟨rfl, rfl, rfl, by decide +kernel, rfl, by decide +kernel, by decide +kernel⟩
theorem ok_spotsOf (c : FSpotsOf K mg) (cTakeSpots : FTakeSpots K mg) (T : Bt mg) : FnOk P w K mg base CX0 2 c.f c.fd ["laying"] spSpotsOf := by
  have GTakeSpots : FnOk P w K mg base CX0 1 cTakeSpots.f cTakeSpots.fd ["places", "used"] spTakeSpots := ok_takeSpots cTakeSpots T
  refine c.F.ok scSpotsOf (fun vs H Q E h => ?_) (fun cdv A outer s H vs Q E hr h => ?_)
  · obtain ⟨b, p, y, rfl, _⟩ := h
    rfl
  · obtain ⟨b, p, y, rfl, g, ⟨pl, hl, cs, hb, hpl, hhl, hH⟩, yk, k⟩ := h
    have w2 := yk.w2
    have w24 := yk.w24
    have r40 := g.r40
    have w8 := g.w8
    have ypl := yk.pl
    have yhl := yk.hl
    have hcl := Paired.length hH
    refine ⟨_, (pss_cons (ps_asg (pv 0) (pg_tup rfl (pgs_cons (pg_name (i := 1) scSpotsOf.nd rfl (Or.inl rfl)) (pgs_cons (pg_name (i := 2) scSpotsOf.nd rfl (Or.inl rfl)) (pgs_cons (pg_name (i := 3) scSpotsOf.nd rfl (Or.inl rfl)) pgs_nil)))))
      (pss_cons (ps_set (i := 4) scSpotsOf.nd rfl (Or.inl rfl) (pe_op op_rep (pe_lst (pa_cons pe_int pa_nil)) (pv 1)))
      (pss_cons (ps_set (i := 5) scSpotsOf.nd rfl (Or.inl rfl) (pe_call GTakeSpots (hr.mono (by first | omega | decide)) (by rfl) cTakeSpots.m cTakeSpots.F.kp cTakeSpots.b .nil pass0 (pa_cons (pv 2) (pa_cons (pv 4) pa_nil))))
      (pss_cons (ps_set (i := 6) scSpotsOf.nd rfl (Or.inl rfl) (pe_lst pa_nil))
      (pss_cons (ps_for PassesOwn.never rfl (pi_tup (pv 3)) (pg_name (i := 7) scSpotsOf.nd rfl (Or.inl rfl))
          (pss_one (ps_expr (pe_bm PySem.F.plainAttrs_list PySem.F.slot_list_append PySem.F.type_list_append mt_append (pv 6) (pa_cons (pe_call GTakeSpots (hr.mono (by first | omega | decide)) (by rfl) cTakeSpots.m cTakeSpots.F.kp cTakeSpots.b .nil pass0 (pa_cons (pv 7) (pa_cons (pv 4) pa_nil))) pa_nil)))))
      (pss_one (ps_ret (pe_tup (pa_cons (pv 5) (pa_cons (pv 6) (pa_cons (pe_callB (cr_max rfl) (by rfl) T.max (by decide +kernel) (pa_cons (pv 4) pa_nil)) pa_nil))))))))))), ?_⟩
    refine ⟨_, rfl, b, _, rfl, SqT.of hb, rfl, _, _, rfl, _, _, rfl, _, _, rfl, rfl, ?_⟩
    refine ⟨(by show 1 ≤ sizeLine; decide), fun l0 hl0 => ?_⟩
    refine alloc hl0 fun H1 s1 e1 => ?_
    refine ⟨_, rfl, l0, _, _, rfl, rfl, e1, ?_, ?_, ?_, fun u hu => ?_⟩
    · omega
    · omega
    · refine sz ?_
      show 1 * _ ≤ _
      omega
    refine alloc hu fun H2 s2 e2 => ?_
    have S2 := s1.trans s2
    have nu : H u = none := s1.free hu
    have u2 : H2 u = some (.lst (useV y.wide fun _ => 0)) := by
      rw [e2]
      unfold useV
      rw [List.flatten_replicate_singleton, Int.toNat_natCast, List.map_map]
      congr 2
      refine List.ext_getElem (by simp) fun i h1 h2 => by simp
    refine ⟨_, rfl, _, rfl, pl, u, y.places, y.wide, _, rfl, S2 _ _ hpl, u2, by omega, by omega, yk.pok, fun rt ts H3 b3 u3 e3 r3 => ?_⟩
    have k3 : Kp H2 H3 := b3.kp u2
    have B3 : But u H H3 := (But.of S2).trans b3
    refine ⟨Nat.zero_le _, fun wl hwl => ?_⟩
    refine alloc hwl fun H4 s4 e4 => ?_
    have nwl : H wl = none := by
      cases q : H wl with
      | none => rfl
      | some o =>
        have ne : wl ≠ u := fun z => by rw [z, u3] at hwl; cases hwl
        rw [B3 _ _ ne q] at hwl
        cases hwl
    have ne : wl ≠ u := fun z => by rw [z, u3] at hwl; cases hwl
    refine ⟨_, rfl, hl, rfl, ⟨_, SqT.of (s4 _ _ (k3 _ _ (S2 _ _ hhl)))⟩, for_tup (K := K) (a := hl) (xs := cs.map V.ref) (fun i σ H' => ∃ (x7 : Option V) (hs : List Addr), σ = [some (.ref b), some (nI y.wide), some (.ref pl), some (.ref hl), some (.ref u), some (.ref rt), some (.ref wl), x7] ∧ Kp H4 H' ∧ But u H H' ∧ H' u = some (.lst (useV y.wide fun z => y.places.count z + (y.homes.take i).flatten.count z)) ∧ H' wl = some (.lst (hs.map V.ref)) ∧ LiesAt H' hs ((worSp y).take i))
      ⟨none, [], rfl, Kp.refl _, B3.trans (But.of s4), (s4 _ _ u3).trans ?_, e4, .nil⟩ (fun i σ H' _ ⟨_, _, _, kk, _⟩ => SqT.of (kk _ _ (s4 _ _ (k3 _ _ (S2 _ _ hhl))))) ?_ ?_⟩
    · congr 2
      refine useV_congr fun z => ?_
      simp
    · rintro i x σ H5 hi ⟨x7, hs, rfl, k5, b5, u5, wl5, L5⟩
      have hic : i < cs.length := by
        have q := (List.getElem?_eq_some_iff.mp hi).1
        rwa [List.length_map] at q
      have ex : x = .ref cs[i] := by
        rw [List.getElem?_map, List.getElem?_eq_getElem hic] at hi
        exact (Option.some.inj hi).symm
      subst ex
      obtain ⟨h0, hq1, hq2⟩ := Paired.get hH (List.getElem?_eq_getElem hic)
      have hok := yk.hok h0 (List.mem_of_getElem? hq1)
      have l3 := hok.l3
      have hll := Paired.length L5
      rw [List.length_take, worSp_len] at hll
      have c5 : H5 cs[i] = some (.tup (h0.map nI)) := k5 _ _ (s4 _ _ (k3 _ _ (S2 _ _ hq2)))
      refine ⟨_, rfl, .inl ⟨rfl, _, SqL.of wl5⟩, _, rfl, _, rfl, cs[i], u, h0, y.wide, _, rfl, c5, u5, by omega, by omega, hok.lt, fun ht hts H6 b6 u6 e6 r6 => ?_⟩
      have wl6 := b6 _ _ ne wl5
      have k6 : Kp H5 H6 := b6.kp u5
      have kf : Kp H6 (upd H6 wl (.lst (hs.map V.ref ++ [.ref ht]))) := Kp.lst wl6
      refine ⟨wl, _, _, rfl, rfl, wl6, szl (by rw [List.length_map]; omega), _, hs ++ [ht], rfl, (k5.trans k6).trans kf, (b5.trans b6).mut nwl, ?_, by rw [upd_same, List.map_append]; rfl, ?_⟩
      · rw [upd_ne ne.symm, u6]
        congr 2
        refine useV_congr fun z => ?_
        rw [List.take_add_one, hq1]
        show _ = _ + List.count z (List.flatten (_ ++ [h0]))
        rw [List.flatten_append, List.count_append]
        simp
        omega
      · rw [show (worSp y).take (i + 1) = (worSp y).take i ++ [spF (fun z => y.places.count z + (y.homes.take i).flatten.count z) h0] by
          unfold worSp
          rw [List.take_add_one, liesF_get y.homes _ i h0 hq1]
          rfl]
        exact Paired.app (LiesAt.kp L5 (k6.trans kf)) (Paired.one ⟨hts, kf _ _ e6, SpotsAt.kp r6 kf⟩)
    · rintro σ H5 ⟨x7, hs, rfl, k5, b5, u5, wl5, L5⟩
      rw [List.length_map, hcl, List.take_length] at u5
      rw [List.length_map, hcl, show (worSp y).take y.homes.length = worSp y by rw [← worSp_len y, List.take_length]] at L5
      refine ⟨_, rfl, _, rfl, _, rfl, u, _, rfl, SqL.of u5, ?_, fun m hm hmx => ?_⟩
      · rw [List.length_map, List.length_range]
        omega
      refine ⟨(by show 3 ≤ sizeLine; decide), fun t ht => ?_⟩
      refine alloc ht fun H6 s6 e6 => ?_
      have em : m = mostF y := by
        rw [maxL_is hm hmx]
        rfl
      rw [em] at e6
      have S6 : Same1 H H6 := fun a o q => by
        have na : a ≠ u := fun z => by rw [z, nu] at q; cases q
        exact s6 _ _ (b5 _ _ na q)
      exact k t rt wl ts hs H6 S6 e6 (s6 _ _ (k5 _ _ (s4 _ _ e3))) (SpotsAt.kp r3 (((Kp.same s4).trans k5).trans (Kp.same s6))) (s6 _ _ wl5) (LiesAt.kp L5 (Kp.same s6))
end
end DL
namespace DL
open PySem L2 DLR
def whatV (r : Row) (ts hs : List Addr) : List V := .str r.word :: ((if r.uses = true then [V.ref (hs.getD r.wor 0)] else []) ++ (nx r).map fun t => V.ref (ts.getD t 0))
abbrev sRowCell : Stmt := top 46
abbrev FRowCell (K : Frg) (mg : Str → Option Value) := Fd K mg "row_cell" sRowCell ["row", "rows", "worths"]
abbrev nRowCell : List Str := ["row","rows","worths","what","to"]
def spRowCell : Sp := fun vs H Q _ => ∃ (a rt wl : Addr) (r : Row) (ts hs : List Addr), vs = [.ref a, .ref rt, .ref wl] ∧ H a = some (.tup (rowVs r)) ∧ r.ok hs.length ts.length ∧ H rt = some (.tup (ts.map V.ref)) ∧ H wl = some (.lst (hs.map V.ref)) ∧
  ∀ t H', Same1 H H' → H' t = some (.tup (whatV r ts hs)) → Q (.ref t) H'
theorem nx_ltY {r : Row} {W N : Nat} (h : r.ok W N) : ∀ t ∈ nx r, t < N := fun t ht => by
  cases r with
  | load x m => rw [List.mem_singleton.mp ht]; exact h.2
  | add x m => rw [List.mem_singleton.mp ht]; exact h.2
  | take x m => rw [List.mem_singleton.mp ht]; exact h.2
  | store x m => rw [List.mem_singleton.mp ht]; exact h.2
  | say m => rw [List.mem_singleton.mp ht]; exact h
  | test a b =>
    rcases List.mem_cons.mp ht with e | e
    · rw [e]; exact h.1
    · rw [List.mem_singleton.mp e]; exact h.2
  | stop => cases ht
theorem refs_get {bs : List Addr} {i : Nat} (h : i < bs.length) : (bs.map V.ref)[i]? = some (V.ref (bs.getD i 0)) := by
  rw [List.getElem?_map, List.getElem?_eq_getElem h, List.getD_eq_getElem?_getD, List.getElem?_eq_getElem h]
  rfl
section
variable {P : Program} {w : World} {K : PySem.W.Frag} {mg : Str → Option Value} {base : Heap}
theorem scRowCell : FnScope nRowCell ["row", "rows", "worths"] (defScope sRowCell) := ⟨rfl, rfl, rfl, by decide +kernel, rfl, by decide +kernel, by decide +kernel⟩
theorem ok_rowCell (c : FRowCell K mg) (cNexts : FNexts K mg) (cUsesWorth : FUsesWorth K mg) (T : Bt mg) (Z : Pt K w mg) : FnOk P w K mg base CX0 3 c.f c.fd ["row", "rows", "worths"] spRowCell := by
  have GNexts : FnOk P w K mg base CX0 2 cNexts.f cNexts.fd ["row"] spNexts := ok_nexts cNexts cUsesWorth Z
  have GUsesWorth : FnOk P w K mg base CX0 1 cUsesWorth.f cUsesWorth.fd ["row"] spUses := ok_usesWorth cUsesWorth Z
  refine c.F.ok scRowCell (fun vs H Q E h => ?_) (fun cdv A outer s H vs Q E hr h => ?_)
  · obtain ⟨a, rt, wl, r, ts, hs, rfl, _⟩ := h
    rfl
  · obtain ⟨a, rt, wl, r, ts, hs, rfl, ha, hok, hrt, hwl, k⟩ := h
    have h0 : (rowVs r)[0]? = some (.str r.word) := r.w0
    have hnl := nx_len r
    refine ⟨_, (pss_cons (ps_set (i := 3) scRowCell.nd rfl (Or.inl rfl) (pe_lst (pa_cons (pe_ix ix_tup (pv 0) pe_int (fun _ _ => rfl)) pa_nil)))
      (pss_cons (ps_if (pt_val (pe_call GUsesWorth (hr.mono (by first | omega | decide)) (by rfl) cUsesWorth.m cUsesWorth.F.kp cUsesWorth.b .nil pass0 (pa_cons (pv 0) pa_nil)))
          (pss_one (ps_expr (pe_bm PySem.F.plainAttrs_list PySem.F.slot_list_append PySem.F.type_list_append mt_append (pv 3) (pa_cons (pe_ix ix_list (pv 2) (pe_ix ix_tup (pv 0) pe_int (fun _ _ => rfl)) (fun _ _ => rfl)) pa_nil))))
          pss_nil)
      (pss_cons (ps_expr (pe_bm PySem.F.plainAttrs_list PySem.F.slot_list_extend PySem.F.type_list_extend mt_extend (pv 3) (pa_cons (pe_lc (own := [("to", 4)]) (g := gName 4) (tt := tYes) rfl scRowCell.nd (pi_tup (pe_call GNexts (hr.mono (by first | omega | decide)) (by rfl) cNexts.m cNexts.F.kp cNexts.b .nil pass0 (pa_cons (pv 0) pa_nil))) (blkOk_by (N := nRowCell) (sc := defScope sRowCell) (by decide +kernel)) (fun _ _ _ _ _ => (pg_name (i := 4) scRowCell.nd rfl (Or.inl rfl))) (fun _ _ _ _ _ => pts_nil) (fun _ _ _ _ _ => (pe_ix (ix_tupK K rfl) (pv 1) (pv 4) (fun _ _ => rfl)))) pa_nil)))
      (pss_one (ps_ret (pe_callTy call_tuple_of (by rfl) T.tuple (by decide +kernel) (pa_cons (pv 3) pa_nil))))))), ?_⟩
    refine ⟨_, rfl, a, _, _, _, rfl, rfl, SqT.of ha, atI_nat (j := 0) h0, ?_⟩
    refine ⟨(by show 1 ≤ sizeLine; decide), fun wh hwh => ?_⟩
    refine alloc hwh fun H1 s1 e1 => ?_
    refine ⟨_, rfl, a, r, rfl, s1 _ _ ha, ?_⟩
    obtain ⟨pre, hpre, hpl, hgo⟩ : ∃ pre : List V, pre ++ (nx r).map (fun t => V.ref (ts.getD t 0)) = whatV r ts hs ∧ pre.length ≤ 2 ∧ pre = .str r.word :: (if r.uses = true then [V.ref (hs.getD r.wor 0)] else []) :=
      ⟨_, rfl, by cases r.uses <;> simp, rfl⟩
    cases hu : r.uses with
    | true =>
      have hw := Row.wor_lt hu hok
      refine ⟨_, rfl, iteT ⟨_, rfl, .inl ⟨rfl, _, SqL.of e1⟩, _, rfl, _, rfl, a, _, _, _, rfl, rfl, SqT.of (s1 _ _ ha), atI_nat (j := 1) (Row.wor_at hu), wl, _, _, _, rfl, rfl, SqL.of (s1 _ _ hwl), atI_nat (refs_get hw), wh, _, _, rfl, rfl, e1, szl (by show 1 < 100000; decide), ?_⟩⟩
      rw [hu, if_pos rfl] at hgo
      have M2 : Same1 H (upd H1 wh (.lst ([V.str r.word] ++ [V.ref (hs.getD r.wor 0)]))) := Same.mut s1 hwh
      have E2 : (upd H1 wh (.lst ([V.str r.word] ++ [V.ref (hs.getD r.wor 0)]))) wh = some (.lst pre) := by rw [upd_same, hgo]; rfl
      generalize upd H1 wh (.lst ([V.str r.word] ++ [V.ref (hs.getD r.wor 0)])) = H2 at *
      refine ⟨_, rfl, .inl ⟨rfl, _, SqL.of E2⟩, _, rfl, a, r, rfl, M2 _ _ ha, fun nt H3 s3 e3 => ?_⟩
      have S3 := M2.trans s3
      refine ⟨nt, rfl, ⟨_, SqT.of e3⟩, fun D hD => ?_⟩
      refine lc_tup (K := K) (a := nt) (xs := (nx r).map nI) (fun j H' => Same1 H3 H' ∧ H' D = some (.lst (((nx r).take j).map fun t => V.ref (ts.getD t 0)))) ⟨Same.new hD, upd_same⟩ (fun j H' _ ⟨q, _⟩ => SqT.of (q _ _ e3)) ?_ ?_
      · rintro j x H4 hj ⟨s4, hd4⟩
        rw [List.getElem?_map] at hj
        cases hx : (nx r)[j]? with
        | none => rw [hx] at hj; cases hj
        | some x0 =>
        rw [hx] at hj
        have ex : nI x0 = x := Option.some.inj hj
        subst ex
        have hl := nx_ltY hok x0 (List.mem_of_getElem? hx)
        refine ⟨rfl, _, rfl, _, rfl, rt, _, _, _, rfl, rfl, SqT.of ((S3.trans s4) _ _ hrt), atI_nat (refs_get hl), _, hd4, szl (by rw [List.length_map, List.length_take]; omega), Same.mut s4 hD, ?_⟩
        rw [upd_same, List.take_add_one, hx, List.map_append]
        rfl
      · rintro H4 ⟨s4, hd4⟩
        rw [List.length_map, List.take_length] at hd4
        have E4 := s4 _ _ (s3 _ _ E2)
        refine ⟨wh, D, _, _, rfl, rfl, E4, hd4, sz (by rw [List.length_map]; omega), ?_⟩
        rw [hpre]
        refine ⟨_, rfl, wh, _, rfl, .inl ⟨SqL.of upd_same, fun t ht => ?_⟩⟩
        have M5 : Same1 H (upd H4 wh (.lst (whatV r ts hs))) := Same.mut (S3.trans s4) hwh
        exact k t _ (M5.trans (Same.new ht)) upd_same
    | false =>
      refine ⟨_, rfl, iteF ?_⟩
      rw [hu, if_neg (by decide)] at hgo
      have M2 : Same1 H H1 := s1
      have E2 : H1 wh = some (.lst pre) := by rw [hgo]; exact e1
      generalize H1 = H2 at *
      refine ⟨_, rfl, .inl ⟨rfl, _, SqL.of E2⟩, _, rfl, a, r, rfl, M2 _ _ ha, fun nt H3 s3 e3 => ?_⟩
      have S3 := M2.trans s3
      refine ⟨nt, rfl, ⟨_, SqT.of e3⟩, fun D hD => ?_⟩
      refine lc_tup (K := K) (a := nt) (xs := (nx r).map nI) (fun j H' => Same1 H3 H' ∧ H' D = some (.lst (((nx r).take j).map fun t => V.ref (ts.getD t 0)))) ⟨Same.new hD, upd_same⟩ (fun j H' _ ⟨q, _⟩ => SqT.of (q _ _ e3)) ?_ ?_
      · rintro j x H4 hj ⟨s4, hd4⟩
        rw [List.getElem?_map] at hj
        cases hx : (nx r)[j]? with
        | none => rw [hx] at hj; cases hj
        | some x0 =>
        rw [hx] at hj
        have ex : nI x0 = x := Option.some.inj hj
        subst ex
        have hl := nx_ltY hok x0 (List.mem_of_getElem? hx)
        refine ⟨rfl, _, rfl, _, rfl, rt, _, _, _, rfl, rfl, SqT.of ((S3.trans s4) _ _ hrt), atI_nat (refs_get hl), _, hd4, szl (by rw [List.length_map, List.length_take]; omega), Same.mut s4 hD, ?_⟩
        rw [upd_same, List.take_add_one, hx, List.map_append]
        rfl
      · rintro H4 ⟨s4, hd4⟩
        rw [List.length_map, List.take_length] at hd4
        have E4 := s4 _ _ (s3 _ _ E2)
        refine ⟨wh, D, _, _, rfl, rfl, E4, hd4, sz (by rw [List.length_map]; omega), ?_⟩
        rw [hpre]
        refine ⟨_, rfl, wh, _, rfl, .inl ⟨SqL.of upd_same, fun t ht => ?_⟩⟩
        have M5 : Same1 H (upd H4 wh (.lst (whatV r ts hs))) := Same.mut (S3.trans s4) hwh
        exact k t _ (M5.trans (Same.new ht)) upd_same
end
end DL
namespace DLR
open PySem PySem.Spec L2
theorem lc_zipY {K : PySem.W.Frag} {a b : Addr} {xs ys : List V} {g : TG} {tt : TT} {te : TE} {vs : List Nat} {σ : L2.St} {H1 : Hp} {D : Addr} {Qd : Hp → Prop} (hxy : ys.length ≤ xs.length) (Pv : Nat → Hp → Prop) (h0 : Pv 0 (upd H1 D (.lst [])))
    (hl : ∀ i H, i ≤ ys.length → Pv i H → SqT K H a xs ∧ SqT K H b ys)
    (hs : ∀ i x y T H H', xs[i]? = some x → ys[i]? = some y → Pv i H → H T = none → H' = upd H T (.tup [x, y]) → g (.ref T) (wipe σ vs) H' fun σ2 H2 => wipe σ2 vs = wipe σ vs ∧ tt σ2 H2 fun b H3 =>
      if b = true then te σ2 H3 fun y H4 => ∃ acc, H4 D = some (.lst acc) ∧ acc.length < sizeLine ∧ Pv (i + 1) (upd H4 D (.lst (acc ++ [y]))) else Pv (i + 1) H3) (hd : ∀ H, Pv ys.length H → Qd H) :
    ∃ W : Nat → Nat → Hp → Prop, (∃ m, W 0 m (upd H1 D (.lst []))) ∧ ∀ i m H, W i m H →
      ((RZ.ItzT K a b).stop i H ∧ Qd H) ∨ ((RZ.ItzT K a b).go i H ∧ ∃ Nx : Hp → Prop, (∀ H', Nx H' → ∃ m', m' < m ∧ W (i + 1) m' H') ∧ ∀ x H', (RZ.ItzT K a b).yld i H x H' → g x (wipe σ vs) H' fun σ2 H2 => wipe σ2 vs = wipe σ vs ∧ tt σ2 H2 fun b H3 =>
        if b = true then te σ2 H3 fun y H4 => ∃ acc, H4 D = some (.lst acc) ∧ acc.length < sizeLine ∧ Nx (upd H4 D (.lst (acc ++ [y]))) else Nx H3) := by
  refine ⟨fun i m H => m = ys.length - i ∧ i ≤ ys.length ∧ Pv i H, ⟨ys.length, by simp, Nat.zero_le _, h0⟩, ?_⟩
  rintro i m H ⟨rfl, hi, p⟩
  obtain ⟨q, q'⟩ := hl i H hi p
  by_cases hlt : i < ys.length
  · have hlt2 : i < xs.length := by omega
    have gx := List.getElem?_eq_getElem hlt2
    have gy := List.getElem?_eq_getElem hlt
    refine .inr ⟨⟨xs, ys, xs[i], ys[i], q, q', gx, gy⟩, Pv (i + 1), fun H' p' => ⟨ys.length - (i + 1), by omega, rfl, hlt, p'⟩, fun x H' y => ?_⟩
    obtain ⟨T, u, v, rfl, hT, rfl, hu, hv⟩ := y
    exact hs i u v T H _ (hu xs q) (hv ys q') p hT rfl
  · have e : i = ys.length := by omega
    subst e
    exact .inl ⟨⟨xs, ys, q, q', .inr (Nat.le_refl _)⟩, hd H p⟩
theorem for_zipN {K : PySem.W.Frag} {a b : Addr} {xs ys : List V} {g : TG} {tb : TS} {D : Ends} {σ : L2.St} {H : Hp} (hl : xs.length = ys.length) (Pv : Nat → L2.St → Hp → Prop) (h0 : Pv 0 σ H) (hq : ∀ i σ H, Pv i σ H → SqL K H a xs ∧ SqT K H b ys)
    (hs : ∀ (i : Nat) (x y : V) (T : Addr) (σ : L2.St) (H : Hp), xs[i]? = some x → ys[i]? = some y → Pv i σ H → H T = none → g (.ref T) σ (upd H T (.tup [x, y])) fun σ2 H2 => tb { D with nx := Pv (i + 1), ct := Pv (i + 1), bk := D.nx } σ2 H2) (hd : ∀ σ H, Pv xs.length σ H → D.nx σ H) :
    ∃ W : Nat → Nat → L2.St → Hp → Prop, (∃ m, W 0 m σ H) ∧ ∀ i m σ H, W i m σ H →
      ((ItzN K a b).stop i H ∧ D.nx σ H) ∨ ((ItzN K a b).go i H ∧ ∃ N : L2.St → Hp → Prop, (∀ σ' H', N σ' H' → ∃ m', m' < m ∧ W (i + 1) m' σ' H') ∧ ∀ v H', (ItzN K a b).yld i H v H' → g v σ H' fun σ2 H2 => tb { D with nx := N, ct := N, bk := D.nx } σ2 H2) := by
  refine ⟨fun i m σ H => m = xs.length - i ∧ i ≤ xs.length ∧ Pv i σ H, ⟨xs.length, rfl, Nat.zero_le _, h0⟩, ?_⟩
  rintro i m σ H ⟨rfl, hi, p⟩
  obtain ⟨qx, qy⟩ := hq i σ H p
  by_cases hlt : i < xs.length
  · have hx : xs[i]? = some xs[i] := List.getElem?_eq_getElem hlt
    have hlt2 : i < ys.length := by omega
    have hy : ys[i]? = some ys[i] := List.getElem?_eq_getElem hlt2
    refine .inr ⟨⟨xs, ys, _, _, qx, qy, hx, hy⟩, Pv (i + 1), fun σ' H' p' => ⟨xs.length - (i + 1), by omega, rfl, hlt, p'⟩, fun v H' y => ?_⟩
    obtain ⟨T, x', y', rfl, hT, rfl, f1, f2⟩ := y
    exact hs i x' y' T σ H (f1 xs qx) (f2 ys qy) p hT
  · have e : i = xs.length := by omega
    subst e
    exact .inl ⟨⟨xs, ys, qx, qy, rfl, hl.symm⟩, hd σ H p⟩
end DLR
namespace DL
open PySem PySem.Spec L2 DLR
/-! ### data without lists -/
mutual
def D.flat : D → Prop
  | .lst _ => False
  | .tup ds => flatD ds
  | _ => True
def flatD : List D → Prop
  | [] => True
  | d :: ds => d.flat ∧ flatD ds
end
theorem flatD_iff : ∀ {ds : List D}, flatD ds ↔ ∀ x ∈ ds, x.flat
  | [] => by simp [flatD]
  | d :: ds => by simp [flatD, flatD_iff (ds := ds)]
mutual
theorem At.keep {H H' : Hp} (k : Kp H H') : ∀ (d : D) (v : V), d.flat → At H v d → At H' v d
  | .non, v, _, h => by simpa [At] using h
  | .bl b, v, _, h => by simpa [At] using h
  | .int i, v, _, h => by simpa [At] using h
  | .str x, v, _, h => by simpa [At] using h
  | .lst ds, v, f, h => by simp [D.flat] at f
  | .tup ds, v, f, h => by
    obtain ⟨a, vs, rfl, h1, h2⟩ : ∃ a vs, v = .ref a ∧ H a = some (.tup vs) ∧ Ats H vs ds := by simpa [At] using h
    have q := Ats.keep k ds vs (by simpa [D.flat] using f) h2
    simp only [At]
    exact ⟨a, vs, rfl, k _ _ h1, q⟩
theorem Ats.keep {H H' : Hp} (k : Kp H H') : ∀ (ds : List D) (vs : List V), flatD ds → Ats H vs ds → Ats H' vs ds
  | [], [], _, _ => by simp [Ats]
  | d :: ds, v :: vs, f, h => by
    have h : At H v d ∧ Ats H vs ds := by simpa [Ats] using h
    have f : d.flat ∧ flatD ds := by simpa [flatD] using f
    simp only [Ats]
    exact ⟨At.keep k d v f.1 h.1, Ats.keep k ds vs f.2 h.2⟩
  | [], _ :: _, _, h => by simp [Ats] at h
  | _ :: _, [], _, h => by simp [Ats] at h
end
theorem at_tup {H : Hp} {a : Addr} {vs : List V} {ds : List D} (h : H a = some (.tup vs)) (q : Ats H vs ds) : At H (.ref a) (.tup ds) := by
  simp only [At]
  exact ⟨a, vs, rfl, h, q⟩
theorem at_lst {H : Hp} {a : Addr} {vs : List V} {ds : List D} (h : H a = some (.lst vs)) (q : Ats H vs ds) : At H (.ref a) (.lst ds) := by
  simp only [At]
  exact ⟨a, vs, rfl, h, q⟩
theorem at_int {H : Hp} {i : Int} : At H (.int i) (.int i) := by simp only [At]
theorem at_str {H : Hp} {x : Str} : At H (.str x) (.str x) := by simp only [At]
theorem ats_nil {H : Hp} : Ats H [] [] := by simp only [Ats]
theorem ats_cons {H : Hp} {v : V} {vs : List V} {d : D} {ds : List D} (h : At H v d) (q : Ats H vs ds) : Ats H (v :: vs) (d :: ds) := by
  simp only [Ats]
  exact ⟨h, q⟩
theorem ats_app {H : Hp} : ∀ {vs : List V} {ds : List D} {us : List V} {es : List D}, Ats H vs ds → Ats H us es → Ats H (vs ++ us) (ds ++ es)
  | [], [], _, _, _, g => g
  | v :: vs, d :: ds, _, _, h, g => by
    have h : At H v d ∧ Ats H vs ds := by simpa [Ats] using h
    exact ats_cons h.1 (ats_app h.2 g)
  | [], _ :: _, _, _, h, _ => by simp [Ats] at h
  | _ :: _, [], _, _, h, _ => by simp [Ats] at h
theorem ats_map {α : Type} {H : Hp} {f : α → V} {g : α → D} : ∀ {l : List α}, (∀ t ∈ l, At H (f t) (g t)) → Ats H (l.map f) (l.map g)
  | [], _ => ats_nil
  | x :: l, h => ats_cons (h x List.mem_cons_self) (ats_map fun t ht => h t (List.mem_cons_of_mem _ ht))
theorem depL_le {n : Nat} : ∀ {ds : List D}, (∀ x ∈ ds, x.dep ≤ n) → depL ds ≤ n
  | [], _ => Nat.zero_le _
  | d :: ds, h => by
    have h1 := h d List.mem_cons_self
    have h2 := depL_le (ds := ds) fun x hx => h x (List.mem_cons_of_mem _ hx)
    show max d.dep (depL ds) ≤ n
    omega
theorem dep_tup {n : Nat} {ds : List D} (h : ∀ x ∈ ds, x.dep ≤ n) : (D.tup ds).dep ≤ n + 1 := by
  have := depL_le h
  show depL ds + 1 ≤ _
  omega
theorem dep_lst {n : Nat} {ds : List D} (h : ∀ x ∈ ds, x.dep ≤ n) : (D.lst ds).dep ≤ n + 1 := by
  have := depL_le h
  show depL ds + 1 ≤ _
  omega
theorem fit_tup {ds : List D} (hl : ds.length ≤ 100000) (h : ∀ x ∈ ds, x.fit) : (D.tup ds).fit := by
  simp only [D.fit]
  exact ⟨hl, fitL_iff.mpr h⟩
theorem fit_lst {ds : List D} (hl : ds.length ≤ 100000) (h : ∀ x ∈ ds, x.fit) : (D.lst ds).fit := by
  simp only [D.fit]
  exact ⟨hl, fitL_iff.mpr h⟩
theorem flat_tup {ds : List D} (h : ∀ x ∈ ds, x.flat) : (D.tup ds).flat := by
  simp only [D.flat]
  exact flatD_iff.mpr h
structure Fine (n : Nat) (d : D) : Prop where
  dep : d.dep ≤ n
  fit : d.fit
  flat : d.flat
theorem fine_tup {n : Nat} {ds : List D} (hl : ds.length ≤ 100000) (h : ∀ x ∈ ds, Fine n x) : Fine (n + 1) (.tup ds) :=
  ⟨dep_tup fun x hx => (h x hx).dep, fit_tup hl fun x hx => (h x hx).fit, flat_tup fun x hx => (h x hx).flat⟩
theorem fine_int (n : Nat) (i : Int) : Fine n (.int i) := ⟨Nat.zero_le _, by simp [D.fit], by simp [D.flat]⟩
theorem fine_str (n : Nat) (x : Str) : Fine n (.str x) := ⟨Nat.zero_le _, by simp [D.fit], by simp [D.flat]⟩
theorem fine_mono {n m : Nat} {d : D} (h : Fine n d) (le : n ≤ m) : Fine m d := ⟨Nat.le_trans h.dep le, h.fit, h.flat⟩
theorem fine_spot (q : Nat × Nat) : Fine 1 (spotD q) := fine_tup (by show 2 ≤ 100000; decide) fun x hx => by
  rcases List.mem_cons.mp hx with rfl | hx
  · exact fine_int _ _
  · rw [List.mem_singleton.mp hx]
    exact fine_int _ _
theorem fine_homes {l : List (Nat × Nat)} (h : l.length ≤ 100) : Fine 2 (homesD l) := fine_tup (by rw [List.length_map]; omega) fun x hx => by
  obtain ⟨q, _, rfl⟩ := List.mem_map.mp hx
  exact fine_spot q
theorem fine_wor (z : Int) : Fine 1 (worD z) := fine_tup (by show 2 ≤ 100000; decide) fun x hx => by
  rcases List.mem_cons.mp hx with rfl | hx
  · exact fine_str _ _
  · rw [List.mem_singleton.mp hx]
    exact fine_int _ _
theorem worSp_3 {p : Prog} {y : Lay} (yk : LayOk p y) : ∀ l ∈ worSp y, l.length ≤ 3 := fun l hl => by
  obtain ⟨j, hj, e⟩ := List.mem_iff_getElem.mp hl
  have hj2 : j < y.homes.length := by rw [← worSp_len]; exact hj
  have q := liesF_get y.homes (fun z => y.places.count z) j _ (List.getElem?_eq_getElem hj2)
  have q2 : (worSp y)[j]? = some l := by rw [List.getElem?_eq_getElem hj, e]
  have q3 : some l = some _ := q2.symm.trans q
  rw [Option.some.inj q3, spF_len]
  exact (yk.hok _ (List.getElem_mem hj2)).l3
theorem worSp_g3 {p : Prog} {y : Lay} (yk : LayOk p y) (j : Nat) : ((worSp y).getD j []).length ≤ 3 := by
  rw [List.getD_eq_getElem?_getD]
  cases q : (worSp y)[j]? with
  | none => exact Nat.zero_le _
  | some l => exact worSp_3 yk l (List.mem_of_getElem? q)
theorem fine_what {p : Prog} {y : Lay} (yk : LayOk p y) (r : Row) : Fine 3 (whatD y r) := by
  have hn := nx_len r
  refine fine_tup ?_ fun x hx => ?_
  · unfold whatDs
    cases r.uses <;> simp <;> omega
  · rcases List.mem_cons.mp hx with rfl | hx
    · exact fine_str _ _
    · rcases List.mem_append.mp hx with hx | hx
      · split at hx
        · rw [List.mem_singleton.mp hx]
          exact fine_homes (Nat.le_trans (worSp_g3 yk _) (by decide))
        · cases hx
      · obtain ⟨t, _, rfl⟩ := List.mem_map.mp hx
        exact fine_mono (fine_spot _) (by decide)
theorem cells_fine {p : Prog} {y : Lay} (yk : LayOk p y) {j : Nat} : ∀ c ∈ cellsN p y j, Fine 3 c.2 := fun c hc => by
  rcases List.mem_append.mp hc with h | h
  · obtain ⟨i, _, rfl⟩ := List.mem_map.mp h
    exact fine_what yk _
  · obtain ⟨i, _, h⟩ := List.mem_flatMap.mp h
    obtain ⟨s, _, rfl⟩ := List.mem_map.mp h
    exact fine_mono (fine_wor _) (by decide)
theorem worCells_len {p : Prog} {y : Lay} (yk : LayOk p y) (j : Nat) : (worCells p y j).length ≤ 3 := by
  unfold worCells
  rw [List.length_map]
  exact worSp_g3 yk j
theorem cellsN_len {p : Prog} {y : Lay} (g : Good p) (yk : LayOk p y) : ∀ j, (cellsN p y j).length ≤ 40 + 3 * j
  | 0 => by
    have := g.r40
    unfold cellsN
    simp
    omega
  | j + 1 => by
    have := cellsN_len g yk j
    have := worCells_len yk j (p := p)
    rw [cellsN_succ, List.length_append]
    omega
theorem image_dep {p : Prog} {y : Lay} (g : Good p) (yk : LayOk p y) {o : List Nat} (ho : o.length ≤ 1000) : (imageD p y o).dep ≤ 6 ∧ (imageD p y o).fit := by
  have hc : ∀ i, Fine 4 (cellD ((cellsF p y).getD i ((0, 0), .non))) := fun i => by
    have z : Fine 3 ((cellsF p y).getD i ((0, 0), .non)).2 := by
      rw [List.getD_eq_getElem?_getD]
      cases q : (cellsF p y)[i]? with
      | none => exact ⟨Nat.zero_le _, by simp [D.fit], by simp [D.flat]⟩
      | some c => exact cells_fine yk c (List.mem_of_getElem? q)
    refine fine_tup (by show 2 ≤ 100000; decide) fun x hx => ?_
    rcases List.mem_cons.mp hx with rfl | hx
    · exact fine_mono (fine_spot _) (by decide)
    · rw [List.mem_singleton.mp hx]
      exact z
  have hl : ∀ x ∈ (o.map fun i => cellD ((cellsF p y).getD i ((0, 0), .non))), Fine 4 x := fun x hx => by
    obtain ⟨i, _, rfl⟩ := List.mem_map.mp hx
    exact hc i
  constructor
  · refine dep_tup fun x hx => ?_
    rcases List.mem_cons.mp hx with rfl | hx
    · exact Nat.zero_le _
    rcases List.mem_cons.mp hx with rfl | hx
    · exact (fine_mono (fine_spot _) (by decide)).dep
    · rw [List.mem_singleton.mp hx]
      exact dep_lst fun x hx => (hl x hx).dep
  · refine fit_tup (by show 3 ≤ 100000; decide) fun x hx => ?_
    rcases List.mem_cons.mp hx with rfl | hx
    · simp [D.fit]
    rcases List.mem_cons.mp hx with rfl | hx
    · exact (fine_spot _).fit
    · rw [List.mem_singleton.mp hx]
      exact fit_lst (by rw [List.length_map]; omega) fun x hx => (hl x hx).fit
end DL
namespace DL
open PySem L2 DLR
theorem in64C {k : Nat} {A : Around} (hr : Room k A) : A.units + 64 < cLine := by
  have := hr.un
  omega
theorem spot_at {H : Hp} {ts : List Addr} {qs : List (Nat × Nat)} (h : SpotsAt H ts qs) {i : Nat} (hi : i < qs.length) : H (ts.getD i 0) = some (.tup [nI (qs.getD i (0, 0)).1, nI (qs.getD i (0, 0)).2]) := by
  obtain ⟨t, h1, h2⟩ := Paired.getR h (List.getElem?_eq_getElem hi)
  rw [List.getD_eq_getElem?_getD, h1, List.getD_eq_getElem?_getD, List.getElem?_eq_getElem hi]
  exact h2
theorem spotD_at {H : Hp} {t : Addr} {q : Nat × Nat} (h : H t = some (.tup [nI q.1, nI q.2])) : At H (.ref t) (spotD q) := at_tup h (ats_cons at_int (ats_cons at_int ats_nil))
theorem spots_ats {H : Hp} : ∀ {ts : List Addr} {qs : List (Nat × Nat)}, SpotsAt H ts qs → Ats H (ts.map V.ref) (qs.map spotD)
  | _, _, .nil => ats_nil
  | _, _, .cons h t => ats_cons (spotD_at h) (spots_ats t)
theorem lies_at {H : Hp} {hs : List Addr} {L : List (List (Nat × Nat))} (h : LiesAt H hs L) {j : Nat} (hj : j < L.length) : At H (.ref (hs.getD j 0)) (homesD (L.getD j [])) := by
  obtain ⟨t, h1, ts, h2, h3⟩ := Paired.getR h (List.getElem?_eq_getElem hj)
  rw [List.getD_eq_getElem?_getD, h1, List.getD_eq_getElem?_getD, List.getElem?_eq_getElem hj]
  exact at_tup h2 (spots_ats h3)
theorem what_at {H : Hp} {y : Lay} {ts hs : List Addr} {r : Row} {t : Addr} (h : H t = some (.tup (whatV r ts hs))) (S : SpotsAt H ts (rowSp y)) (L : LiesAt H hs (worSp y)) (ok : r.ok y.homes.length y.places.length) : At H (.ref t) (whatD y r) := by
  refine at_tup h (ats_cons at_str (ats_app ?_ (ats_map fun x hx => spotD_at (spot_at S (by rw [rowSp_len]; exact nx_ltY ok x hx)))))
  cases hu : r.uses with
  | true => exact ats_cons (lies_at L (by rw [worSp_len]; exact Row.wor_lt hu ok)) ats_nil
  | false => exact ats_nil
def CellAt (H : Hp) (b : Addr) (c : Cell) : Prop := ∃ (s : Addr) (v : V), H b = some (.tup [.ref s, v]) ∧ H s = some (.tup [nI c.1.1, nI c.1.2]) ∧ At H v c.2 ∧ c.2.flat
abbrev CellsAt (H : Hp) (bs : List Addr) (cs : List Cell) : Prop := Paired (CellAt H) bs cs
theorem CellsAt.kp {H H' : Hp} {bs : List Addr} {cs : List Cell} (h : CellsAt H bs cs) (k : Kp H H') : CellsAt H' bs cs := Paired.mapP h fun b c ⟨s, v, e1, e2, e3, e4⟩ => ⟨s, v, k _ _ e1, k _ _ e2, At.keep k _ _ e4 e3, e4⟩
theorem cells_keys {H : Hp} : ∀ {bs : List Addr} {cs : List Cell}, CellsAt H bs cs → Paired (CellK H) bs (cs.map (·.1))
  | _, _, .nil => .nil
  | _, _, .cons ⟨s, v, e1, e2, _⟩ t => .cons ⟨s, v, e1, e2⟩ (cells_keys t)
theorem cell_at {H : Hp} {b : Addr} {c : Cell} (h : CellAt H b c) : At H (.ref b) (cellD c) := by
  obtain ⟨s, v, e1, e2, e3, _⟩ := h
  exact at_tup e1 (ats_cons (spotD_at e2) (ats_cons e3 ats_nil))
theorem cells_ord {H : Hp} {bs : List Addr} {cs : List Cell} (h : CellsAt H bs cs) {o : List Nat} (ho : IsOrd (cs.map (·.1)) o) : Ats H (o.map fun i => V.ref (bs.getD i 0)) (o.map fun i => cellD (cs.getD i ((0, 0), .non))) := by
  refine ats_map fun i hi => ?_
  have hi := List.mem_range.mp (ho.perm.mem_iff.mp hi)
  rw [List.length_map] at hi
  obtain ⟨b, h1, h2⟩ := Paired.getR h (List.getElem?_eq_getElem hi)
  rw [List.getD_eq_getElem?_getD, h1, List.getD_eq_getElem?_getD, List.getElem?_eq_getElem hi]
  exact cell_at h2
theorem ord_len {ks : List (Nat × Nat)} {o : List Nat} (ho : IsOrd ks o) : o.length = ks.length := by rw [ho.perm.length_eq, List.length_range]
theorem image_at {H : Hp} {t sp cl : Addr} {p : Prog} {y : Lay} {bs : List Addr} {o : List Nat} (h : H t = some (.tup [nI y.wide, .ref sp, .ref cl])) (hs : H sp = some (.tup [nI ((rowSp y).getD 0 (0, 0)).1, nI ((rowSp y).getD 0 (0, 0)).2]))
    (hc : H cl = some (.lst (o.map fun i => V.ref (bs.getD i 0)))) (hb : CellsAt H bs (cellsF p y)) (ho : IsOrd ((cellsF p y).map (·.1)) o) : At H (.ref t) (imageD p y o) :=
  at_tup h (ats_cons at_int (ats_cons (spotD_at hs) (ats_cons (at_lst hc (cells_ord hb ho)) ats_nil)))
abbrev sImage : Stmt := top 43
abbrev FImage (K : Frg) (mg : Str → Option Value) := Fd K mg "image" sImage ["program", "laying"]
abbrev nTracks : List Str := ["program","laying","_","most"]
abbrev nImage : List Str := ["program","laying","rows","worths","_","cells","homes","number","spot","row"]
def spTracks : Sp := fun vs H Q _ => ∃ (a b : Addr) (p : Prog) (y : Lay), vs = [.ref a, .ref b] ∧ ProgAt H a p ∧ Good p ∧ LayAt H b y ∧ LayOk p y ∧ ∀ H', Same1 H H' → Q (.int (mostF y)) H'
def spImage : Sp := fun vs H Q _ => ∃ (a b : Addr) (p : Prog) (y : Lay), vs = [.ref a, .ref b] ∧ ProgAt H a p ∧ Good p ∧ LayAt H b y ∧ LayOk p y ∧
  ∀ t sp cl bs o H', Same1 H H' → IsOrd ((cellsF p y).map (·.1)) o → H' t = some (.tup [nI y.wide, .ref sp, .ref cl]) → H' sp = some (.tup [nI ((rowSp y).getD 0 (0, 0)).1, nI ((rowSp y).getD 0 (0, 0)).2]) → H cl = none → H' cl = some (.lst (o.map fun i => V.ref (bs.getD i 0))) → CellsAt H' bs (cellsF p y) → Q (.ref t) H'
section
variable {P : Program} {w : World} {K : PySem.W.Frag} {mg : Str → Option Value} {base : Heap}
theorem scImage : FnScope nImage ["program", "laying"] (defScope sImage) := ⟨rfl, rfl, rfl, by decide +kernel, rfl, by decide +kernel, by decide +kernel⟩
theorem ok_image (c : FImage K mg) (cCheckProgram : FCheckProgram K mg) (cCheckLaying : FCheckLaying K mg) (cSpotsOf : FSpotsOf K mg) (cRowCell : FRowCell K mg) (T : Bt mg)
    (GCheckProgram : FnOk P w K mg base CX0 4 cCheckProgram.f cCheckProgram.fd ["program"] spCheckProgram) (GCheckLaying : FnOk P w K mg base CX0 5 cCheckLaying.f cCheckLaying.fd ["program", "laying"] spCheckLaying)
    (GSpotsOf : FnOk P w K mg base CX0 2 cSpotsOf.f cSpotsOf.fd ["laying"] spSpotsOf) (GRowCell : FnOk P w K mg base CX0 3 cRowCell.f cRowCell.fd ["row", "rows", "worths"] spRowCell) : FnOk P w K mg base CX0 6 c.f c.fd ["program", "laying"] spImage := by
  refine c.F.ok scImage (fun vs H Q E h => ?_) (fun cdv A outer s H vs Q E hr h => ?_)
  · obtain ⟨a, b, p, y, rfl, _⟩ := h
    rfl
  · obtain ⟨a, b, p, y, rfl, hP, g, hY, yk, k⟩ := h
    have r40 := g.r40
    have r1 := g.r1
    have w8 := g.w8
    have ypl := yk.pl
    have yhl := yk.hl
    refine ⟨_, (pss_cons (ps_expr (pe_call GCheckProgram (hr.mono (by first | omega | decide)) (by rfl) cCheckProgram.m cCheckProgram.F.kp cCheckProgram.b .nil pass0 (pa_cons (pv 0) pa_nil)))
      (pss_cons (ps_expr (pe_call GCheckLaying (hr.mono (by first | omega | decide)) (by rfl) cCheckLaying.m cCheckLaying.F.kp cCheckLaying.b .nil pass0 (pa_cons (pv 0) (pa_cons (pv 1) pa_nil))))
      (pss_cons (ps_asg (pe_call GSpotsOf (hr.mono (by first | omega | decide)) (by rfl) cSpotsOf.m cSpotsOf.F.kp cSpotsOf.b .nil pass0 (pa_cons (pv 1) pa_nil)) (pg_tup rfl (pgs_cons (pg_name (i := 2) scImage.nd rfl (Or.inr rfl)) (pgs_cons (pg_name (i := 3) scImage.nd rfl (Or.inr rfl)) (pgs_cons (pg_name (i := 4) scImage.nd rfl (Or.inl rfl)) pgs_nil)))))
      (pss_cons (ps_setLc (i := 5) (own := [("spot", 8), ("row", 9)]) (g := gTup K 2 (gCons (gName 8) (gCons (gName 9) gNil))) (tt := tYes) rfl scImage.nd rfl rfl (sw_true rfl rfl rfl (by decide +kernel)) (RZ.pi_zipA (by rfl) T.zip (pa_cons (pv 2) (pa_cons (pe_ix ix_tup (pv 0) pe_int (fun _ _ => rfl)) pa_nil))) (blkOk_by (N := nImage) (sc := defScope sImage) (by decide +kernel)) (fun _ _ _ _ _ => (pg_tupK K rfl rfl (pgs_cons (pg_name (i := 8) scImage.nd rfl (Or.inl rfl)) (pgs_cons (pg_name (i := 9) scImage.nd rfl (Or.inl rfl)) pgs_nil)))) (fun _ _ _ _ _ => pts_nil) (fun _ _ _ _ _ => (pe_tup (pa_cons (pv 8) (pa_cons (pe_call GRowCell (hr.mono (by first | omega | decide)) (by rfl) cRowCell.m cRowCell.F.kp cRowCell.b .nil pass0 (pa_cons (pv 9) (pa_cons (pv 2) (pa_cons (pv 3) pa_nil)))) pa_nil)))))
      (pss_cons (ps_for PassesOwn.never rfl (DLR.pi_zipN (by rfl) T.zip (pa_cons (pv 3) (pa_cons (pe_ix ix_tup (pv 0) pe_int (fun _ _ => rfl)) pa_nil))) (pg_tup rfl (pgs_cons (pg_name (i := 6) scImage.nd rfl (Or.inl rfl)) (pgs_cons (pg_name (i := 7) scImage.nd rfl (Or.inr rfl)) pgs_nil)))
          (pss_one (ps_expr (pe_bm PySem.F.plainAttrs_list PySem.F.slot_list_extend PySem.F.type_list_extend mt_extend (pv 5) (pa_cons (pe_lc (own := [("spot", 8)]) (g := gName 8) (tt := tYes) rfl scImage.nd (pi_tup (pv 6)) (blkOk_by (N := nImage) (sc := defScope sImage) (by decide +kernel)) (fun _ _ _ _ _ => (pg_name (i := 8) scImage.nd rfl (Or.inl rfl))) (fun _ _ _ _ _ => pts_nil) (fun _ _ _ _ _ => (pe_tup (pa_cons (pv 8) (pa_cons (pe_tup (pa_cons pe_str (pa_cons (pv 7) pa_nil))) pa_nil))))) pa_nil)))))
      (pss_one (ps_ret (pe_tup (pa_cons (pe_ix ix_tup (pv 1) pe_int (fun _ _ => rfl)) (pa_cons (pe_ix ix_tup (pv 2) pe_int (fun _ _ => rfl)) (pa_cons (pe_callB (DLR.cr_sortedC (in64C hr)) (by rfl) T.sorted (by decide +kernel) (pa_cons (pv 5) pa_nil)) pa_nil))))))))))), ?_⟩
    refine ⟨_, rfl, a, p, rfl, hP, g, fun H1 s1 => ?_⟩
    refine ⟨_, rfl, _, rfl, a, b, p, y, rfl, hP.kp (Kp.same s1), g, hY.kp (Kp.same s1), yk, fun H2 s2 => ?_⟩
    have S2 := s1.trans s2
    refine ⟨_, rfl, b, p, y, rfl, g, hY.kp (Kp.same S2), yk, fun t rt wl ts hs H3 s3 e3 rt3 S3 wl3 L3 => ?_⟩
    have T3 := S2.trans s3
    refine ⟨t, _, rfl, SqT.of e3, rfl, _, _, rfl, _, _, rfl, _, _, rfl, rfl, ?_⟩
    obtain ⟨wa, ra, rs, hpa, hwa, hra, hR⟩ := hP
    have tl := Paired.length S3
    rw [rowSp_len] at tl
    have hll := Paired.length L3
    rw [worSp_len] at hll
    have rl := Paired.length hR
    refine ⟨_, rfl, _, rfl, a, _, _, _, rfl, rfl, SqT.of (T3 _ _ hpa), at1, rt, ra, _, _, rfl, .inr ⟨SqT.of rt3, SqT.of (T3 _ _ hra), fun D hD => ?_⟩⟩
    refine DLR.lc_zipY (K := K) (a := rt) (b := ra) (xs := ts.map V.ref) (ys := rs.map V.ref) (by rw [List.length_map, List.length_map]; omega) (fun j H' => ∃ bs : List Addr, Same1 H3 H' ∧ H' D = some (.lst (bs.map V.ref)) ∧ CellsAt H' bs (((List.range p.rows.length).map (rowCell p y)).take j)) ⟨[], Same.new hD, upd_same, .nil⟩ (fun j H' _ ⟨_, q, _⟩ => ⟨SqT.of (q _ _ rt3), SqT.of (q _ _ (T3 _ _ hra))⟩) ?_ ?_
    · rintro j xv yv T9 H4 H5 hx hy ⟨bs, s4, d4, C4⟩ hTn rfl
      have hj : j < rs.length := by
        have q := (List.getElem?_eq_some_iff.mp hy).1
        rwa [List.length_map] at q
      rw [refs_get (by omega)] at hx
      rw [refs_get hj] at hy
      have ex := Option.some.inj hx
      have ey := Option.some.inj hy
      subst ex ey
      have hjr : j < p.rows.length := by omega
      have hr1 : H (rs.getD j 0) = some (.tup (rowVs (p.rows.getD j .stop))) := by
        obtain ⟨bb, q1, q2⟩ := Paired.getR hR (List.getElem?_eq_getElem hjr)
        rw [List.getD_eq_getElem?_getD, q1, List.getD_eq_getElem?_getD, List.getElem?_eq_getElem hjr]
        exact q2
      have hrok : (p.rows.getD j .stop).ok p.ws.length p.rows.length := by
        rw [List.getD_eq_getElem?_getD, List.getElem?_eq_getElem hjr]
        exact g.ok _ (List.getElem_mem hjr)
      refine alloc hTn fun H5 s5 e5 => ?_
      have S5 := (T3.trans s4).trans s5
      refine ⟨T9, _, rfl, SqT.of e5, rfl, _, _, rfl, _, _, rfl, rfl, ?_⟩
      have hcl : bs.length = j := by
        have q := Paired.length C4
        rw [List.length_take, List.length_map, List.length_range] at q
        omega
      refine ⟨rfl, _, rfl, _, rfl, _, rfl, _, rfl, rs.getD j 0, rt, wl, _, ts, hs, rfl, S5 _ _ hr1, by rw [hll, yhl, tl, ypl]; exact hrok, s5 _ _ (s4 _ _ rt3), s5 _ _ (s4 _ _ wl3), fun wt H6 s6 e6 => ?_⟩
      refine ⟨(by show 2 ≤ sizeLine; decide), fun ct hct => ?_⟩
      refine alloc hct fun H7 s7 e7 => ?_
      have s47 : Same1 H4 H7 := (s5.trans s6).trans s7
      have d7 := s47 _ _ d4
      have s37 : Same1 H3 H7 := s4.trans s47
      refine ⟨_, d7, szl (by rw [List.length_map]; omega), bs ++ [ct], Same.mut s37 hD, by rw [upd_same, List.map_append]; rfl, ?_⟩
      rw [show ((List.range p.rows.length).map (rowCell p y)).take (j + 1) = ((List.range p.rows.length).map (rowCell p y)).take j ++ [rowCell p y j] by rw [List.take_add_one, List.getElem?_map, List.getElem?_range hjr]; rfl]
      refine CellsAt.kp (Paired.app (CellsAt.kp C4 (Kp.same s47)) (Paired.one ⟨ts.getD j 0, .ref wt, e7, ?_, ?_, (fine_what yk _).flat⟩)) (Kp.lst d7)
      · exact spot_at (SpotsAt.kp S3 (Kp.same s37)) (by rw [rowSp_len]; omega)
      · refine what_at (s7 _ _ e6) (SpotsAt.kp S3 (Kp.same s37)) (LiesAt.kp L3 (Kp.same s37)) ?_
        rw [yhl, ypl]
        exact hrok
    · rintro H4 ⟨bs, s4, d4, C4⟩
      have el : (rs.map V.ref).length = ((List.range p.rows.length).map (rowCell p y)).length := by
        rw [List.length_map, List.length_map, List.length_range]
        omega
      rw [el, List.take_length] at C4
      dsimp only [gName]
      have T4 := T3.trans s4
      refine ⟨_, rfl, _, rfl, a, _, _, _, rfl, rfl, SqT.of (T4 _ _ hpa), at0, wl, wa, _, _, rfl, SqL.of (s4 _ _ wl3), SqT.of (T4 _ _ hwa), ?_⟩
      refine for_zipN (K := K) (a := wl) (b := wa) (xs := hs.map V.ref) (ys := p.ws.map V.int) (by rw [List.length_map, List.length_map]; omega) (fun i σ H' => ∃ (x6 x7 : Option V) (bs : List Addr), σ = [some (.ref a), some (.ref b), some (.ref rt), some (.ref wl), some (.int (mostF y)), some (.ref D), x6, x7, none, none] ∧ Same1 H3 H' ∧ H' D = some (.lst (bs.map V.ref)) ∧ CellsAt H' bs (cellsN p y i))
        ⟨none, none, bs, rfl, s4, d4, by unfold cellsN; simpa using C4⟩ (fun i σ H' ⟨_, _, _, _, q, _⟩ => ⟨SqL.of (q _ _ wl3), SqT.of ((T3.trans q) _ _ hwa)⟩) ?_ ?_
      · rintro i xv yv T9 σ H5 hx hy ⟨x6, x7, bs, rfl, s5, d5, C5⟩ hTn
        have hi : i < hs.length := by
          have q := (List.getElem?_eq_some_iff.mp hx).1
          rwa [List.length_map] at q
        have hi2 : i < p.ws.length := by omega
        rw [refs_get hi] at hx
        rw [List.getElem?_map, List.getElem?_eq_getElem hi2] at hy
        have ex := Option.some.inj hx
        have ey : V.int p.ws[i] = yv := Option.some.inj hy
        subst ex ey
        refine alloc hTn fun H6 s6 e6 => ?_
        refine ⟨T9, _, rfl, SqT.of e6, rfl, _, _, rfl, _, _, rfl, rfl, ?_⟩
        obtain ⟨hv, g1, us, g2, g3⟩ := Paired.getR L3 (List.getElem?_eq_getElem (by rw [worSp_len]; omega) : (worSp y)[i]? = some _)
        have ehv : hs.getD i 0 = hv := by rw [List.getD_eq_getElem?_getD, g1]; rfl
        have eli : (worSp y).getD i [] = (worSp y)[i]'(by rw [worSp_len]; omega) := by
          rw [List.getD_eq_getElem?_getD, List.getElem?_eq_getElem]
          rfl
        rw [← eli] at g3
        have ul := Paired.length g3
        have ul3 := worSp_g3 yk i
        have s36 := s5.trans s6
        have bl := Paired.length C5
        have bl2 := cellsN_len g yk i
        refine ⟨_, rfl, .inl ⟨rfl, _, SqL.of (s6 _ _ d5)⟩, _, rfl, hs.getD i 0, rfl, ⟨_, SqT.of (s36 _ _ (ehv ▸ g2))⟩, fun D2 hD2 => ?_⟩
        refine lc_tup (K := K) (a := hs.getD i 0) (xs := us.map V.ref) (fun q H' => ∃ cs : List Addr, Same1 H6 H' ∧ H' D2 = some (.lst (cs.map V.ref)) ∧ CellsAt H' cs ((worCells p y i).take q)) ⟨[], Same.new hD2, upd_same, .nil⟩ (fun q H' _ ⟨_, z, _⟩ => SqT.of (z _ _ (s36 _ _ (ehv ▸ g2)))) ?_ ?_
        · rintro q x H7 hq ⟨cs, s7, d7, C7⟩
          have hqu : q < us.length := by
            have q := (List.getElem?_eq_some_iff.mp hq).1
            rwa [List.length_map] at q
          rw [refs_get hqu] at hq
          have ex := Option.some.inj hq
          subst ex
          have hcl : cs.length ≤ q := by
            have q := Paired.length C7
            rw [List.length_take] at q
            omega
          refine ⟨rfl, _, rfl, _, rfl, (by show 2 ≤ sizeLine; decide), fun t1 ht1 => ?_⟩
          refine alloc ht1 fun H8 s8 e8 => ?_
          refine ⟨(by show 2 ≤ sizeLine; decide), fun t2 ht2 => ?_⟩
          refine alloc ht2 fun H9 s9 e9 => ?_
          have s79 : Same1 H7 H9 := s8.trans s9
          have d9 := s79 _ _ d7
          have hsp := spot_at g3 (i := q) (by omega)
          have hws : (worCells p y i)[q]? = some (((worSp y).getD i []).getD q (0, 0), worD (p.ws.getD i 0)) := by
            unfold worCells
            rw [List.getElem?_map, List.getD_eq_getElem?_getD (l := (worSp y).getD i []), List.getElem?_eq_getElem (by omega : q < ((worSp y).getD i []).length)]
            rfl
          refine ⟨_, d9, szl (by rw [List.length_map]; omega), cs ++ [t2], Same.mut (s7.trans s79) hD2, by rw [upd_same, List.map_append]; rfl, ?_⟩
          rw [show (worCells p y i).take (q + 1) = (worCells p y i).take q ++ [(((worSp y).getD i []).getD q (0, 0), worD (p.ws.getD i 0))] by rw [List.take_add_one, hws]; rfl]
          refine CellsAt.kp (Paired.app (CellsAt.kp C7 (Kp.same s79)) (Paired.one ⟨us.getD q 0, .ref t1, e9, ((s36.trans s7).trans s79) _ _ hsp, at_tup (s9 _ _ e8) (ats_cons at_str (ats_cons ?_ ats_nil)), (fine_wor _).flat⟩)) (Kp.lst d9)
          rw [List.getD_eq_getElem?_getD, List.getElem?_eq_getElem hi2]
          exact at_int
        · rintro H7 ⟨cs, s7, d7, C7⟩
          have ewl : (worCells p y i).length = us.length := by
            unfold worCells
            rw [List.length_map]
            exact ul.symm
          rw [List.length_map, ← ewl, List.take_length] at C7
          have csl := Paired.length C7
          have wl3' := worCells_len yk i (p := p)
          have dD7 := s7 _ _ (s6 _ _ d5)
          refine ⟨D, D2, _, _, rfl, rfl, dD7, d7, sz (by rw [List.length_map, List.length_map]; omega), _, _, bs ++ cs, rfl, Same.mut (s36.trans s7) hD, by rw [upd_same, List.map_append], ?_⟩
          rw [cellsN_succ]
          exact CellsAt.kp (Paired.app (CellsAt.kp C5 (Kp.same (s6.trans s7))) C7) (Kp.lst dD7)
      · rintro σ H5 ⟨x6, x7, bs, rfl, s5, d5, C5⟩
        rw [List.length_map, show hs.length = p.ws.length by omega] at C5
        obtain ⟨pl, hl, cs0, hb, _⟩ := hY
        have T5 := T3.trans s5
        have r0 : 0 < ts.length := by omega
        refine ⟨_, rfl, b, _, _, _, rfl, rfl, SqT.of (T5 _ _ hb), at0, _, rfl, rt, _, _, _, rfl, rfl, SqT.of (s5 _ _ rt3), atI_nat (j := 0) (refs_get r0), _, rfl, D, bs, (cellsF p y).map (·.1), rfl, SqL.of d5, cells_keys C5, by rw [keys_cells yk]; exact keys_nodup y, fun o cl ho hcl => ?_⟩
        refine alloc hcl fun H6 s6 e6 => ?_
        refine ⟨(by show 3 ≤ sizeLine; decide), fun t ht => ?_⟩
        refine alloc ht fun H7 s7 e7 => ?_
        refine k t (ts.getD 0 0) cl bs o H7 ((T5.trans s6).trans s7) ho e7 ((s6.trans s7) _ _ (s5 _ _ (spot_at S3 (by rw [rowSp_len]; omega)))) (T5.free hcl) (s7 _ _ e6) (CellsAt.kp C5 (Kp.same (s6.trans s7)))
end
end DL
namespace DLR
open PySem PySem.Spec PyProof.Rows L2
/-! ### dicts with tuple keys: comprehensions, items() -/
def tDcT (wi : TI) (g : TG) (tt : TT) (tk tv : TE) (vs : List Nat) : TE := fun σ H Q => wi σ H fun J H1 => ∀ D, H1 D = none → ∃ W : Nat → Nat → Hp → Prop, (∃ m, W 0 m (upd H1 D (.dT []))) ∧ ∀ i m H, W i m H →
  (J.stop i H ∧ Q (.ref D) H) ∨ (J.go i H ∧ ∃ Nx : Hp → Prop, (∀ H', Nx H' → ∃ m', m' < m ∧ W (i + 1) m' H') ∧ ∀ x H', J.yld i H x H' → g x (wipe σ vs) H' fun σ2 H2 => wipe σ2 vs = wipe σ vs ∧ tt σ2 H2 fun b H3 =>
    if b = true then tk σ2 H3 fun y H4 => tv σ2 H4 fun z H5 => ∃ (kvs : List (List Key × V)) (k : List Key) (c : Addr), y = .ref c ∧ H5 c = some (.tup (k.map kV)) ∧ H5 D = some (.dT kvs) ∧ kvs.length < sizeLine ∧ Nx (upd H5 D (.dT (putK kvs k z))) else Nx H3)
theorem d_setT {X : Cx} {pins : List (Addr × Obj)} {σ : L2.St} {H : Hp} {s : Shared} {E : Value → Shared → Prop} {D b : Addr} {kvs : List (List Key × V)} {k : List Key} {v : V} {u r : Value} {Q : Unit → Shared → Prop} (hu : X.A.units + 1 < cLine) (I : Inv X pins σ H s) (hD : H D = some (.dT kvs)) (hz : kvs.length < sizeLine)
    (ry : RelV (.ref b) u) (eb : H b = some (.tup (k.map kV))) (rv : RelV v r) (h : ∀ s', Inv X pins σ (upd H D (.dT (putK kvs k v))) s' → Q () s') : wpAny (model X.prog X.w) X.A (dictSet D u r) Q E s := by
  cases (show u = Value.ref b from ry)
  obtain ⟨z, hd, xs, rel, dd⟩ := dt_of I.hok hD
  have hzx : xs.length ≤ sizeLine := by rw [← Paired.length rel]; exact z
  have hl : (putK kvs k v).length ≤ sizeLine := by have := length_putK kvs k v; omega
  refine wpAny_dictSet_heap (hsz := hzx) (show (tupleKind (mixKind X.prog X.w)).room X.A from (by show X.A.units < cLine; omega)) (key_of I.hok eb) dd fun h' dd' hs => h _ ?_
  obtain ⟨q, es, ep, hq, h2, h3, h4, _, h5⟩ := dd'
  refine d_write I (by rw [hD]; exact True.intro) hs ⟨q, hq⟩ ⟨hl, hd, _, (rel.put k eb rv).keeps fun c ys ec => ?_, q, es, ep, hq, h2, h3, h4, h5⟩
  rw [upd_ne (ne_of ec hD (fun z => nomatch z))]
  exact ec
section
variable {X : Cx}
theorem dcT_core {pins : List (Addr × Obj)} {s : Shared} {σ : L2.St} {H : Hp} {Q : VK} {kx vx tg iter : Expr} {ifs : List Expr} {scope : Scope} {own : List (Str × Nat)} {pos pos' : Pos} {wi : TI} {g : TG} {tt : TT} {tk tv : TE} {use : Option (Value → Sem Unit)} {Qf : Value → Shared → Prop} (calm : X.calm = true) (hu : X.A.units + 1 < cLine) (nd : X.N.Nodup) (I0 : Inv X pins σ H s) (src : PI X tg iter wi) (blk : BlkOk X.N X.env.scope scope own)
    (Gt : ∀ (s : Shared) (H : Hp) (C : Addr) (cl : List (Str × Addr)) (fp : List Addr), PG (X.blk s H scope (compEnvC scope cl C X.env) fp) tg g)
    (Tt : ∀ (s : Shared) (H : Hp) (C : Addr) (cl : List (Str × Addr)) (fp : List Addr), PTs (X.blk s H scope (compEnvC scope cl C X.env) fp) ifs tt)
    (Kt : ∀ (s : Shared) (H : Hp) (C : Addr) (cl : List (Str × Addr)) (fp : List Addr), PE (X.blk s H scope (compEnvC scope cl C X.env) fp) kx tk)
    (Et : ∀ (s : Shared) (H : Hp) (C : Addr) (cl : List (Str × Addr)) (fp : List Addr), PE (X.blk s H scope (compEnvC scope cl C X.env) fp) vx tv) (fold : ∀ x, foldedSetIterable iter X.env x = pure x)
    (rd : tDcT wi g tt tk tv (own.map (·.2)) σ H Q)
    (hRR : ∀ dd C s' m H', Inv X pins σ H' s' → Q (.ref dd) H' → s'.heap.Ns C m → FpOk X pins H' C → compPost (model X.prog X.w) X.A X.xe use Qf (.ref dd) C (.ok .next) s') :
    wpAny (model X.prog X.w) X.A (comprehension (.DictComp kx vx [⟨tg, iter, ifs, 0⟩] scope pos) scope X.env pos' newDict false (eval iter X.env) use) Qf X.xe s := by
  have caps : ∀ y ∈ scope.names, y.2 = .free → ∃ c, X.env.cells.lookup y.1 = some c := fun y hy e => (blk.free y hy e).elim (fun k => I0.ok.has _ (.inl k)) fun k => I0.ok.has _ (.inr k)
  refine wpAny_comprehension_free (use := use) rfl fold (closure_ok caps) blk.kind (fun y hy e => by rw [blk.uniq y hy, e]) (thn (src.run pins s σ H _ I0 rd) fun _ _ got => thn got fun _ sI start => ?_)
  obtain ⟨it, fp, tn, J, HI, rfl, II, T, stI, fpI, q⟩ := start
  refine wpAny_newObj_type (newEnv_comp ?_)
  have nD : HI sI.heap.objs.size = none := II.hok.fresh (Nat.le_refl _)
  obtain ⟨W, ⟨m0, w0⟩, turn⟩ := q _ nD
  obtain ⟨sL, eL⟩ : ∃ sL : Shared, sL = { sI with heap := sI.heap.push { cls := .type "dict", data := .dict #[] } } := ⟨_, rfl⟩
  obtain ⟨HL, eH⟩ : ∃ HL : Hp, HL = upd HI sI.heap.objs.size (.dT []) := ⟨_, rfl⟩
  have IL : Inv X pins σ HL sL := by
    rw [eL, eH]
    exact II.laid (t' := sI.toks) (fun b o e => Heap.get?_push_of_some _ e) (Nat.le_refl _) (dt_empty sI.heap II.big)
  have keepL : ∀ b o, sI.heap.get? b = some o → sL.heap.get? b = some o := fun b o e => by rw [eL]; exact Heap.get?_push_of_some _ e
  have fpL : ∀ b ∈ fp, FpOk X pins HL b ∧ b < sL.heap.objs.size := fun b hb => by
    obtain ⟨o, e, _⟩ := T.obj _ _ stI b hb
    refine ⟨⟨?_, (fpI b hb).2⟩, Heap.lt_size (keepL b o e)⟩
    rw [eH, upd_ne (Nat.ne_of_lt (Heap.lt_size e))]
    exact (fpI b hb).1
  have IB := block_start IL blk nd fpL
  obtain ⟨cl, ecl⟩ : ∃ cl, cl = cellsFrom (sL.heap.objs.size + 1) scope.names (cloFrom X.env.cells scope.names []) := ⟨_, rfl⟩
  have PGb := Gt sL HL sL.heap.objs.size cl fp
  have PTb := Tt sL HL sL.heap.objs.size cl fp
  have PKb := Kt sL HL sL.heap.objs.size cl fp
  have PEb := Et sL HL sL.heap.objs.size cl fp
  rw [ecl] at PGb PTb PKb PEb
  rw [← eL]
  rw [← eH] at w0
  show codeAny _ _ (.compStart _ 0 (.ref it) (.ref sI.heap.objs.size) (compEnvC scope (cellsFrom (sL.heap.objs.size + 1) scope.names (cloFrom X.env.cells scope.names [])) sL.heap.objs.size X.env)) (compPost (model X.prog X.w) X.A X.xe use Qf (.ref sI.heap.objs.size) sL.heap.objs.size) { sL with heap := pushCells (sL.heap.push { cls := .type "dict", data := .dict #[] }) scope.names }
  obtain ⟨ce, ece⟩ : ∃ ce, ce = compEnvC scope (cellsFrom (sL.heap.objs.size + 1) scope.names (cloFrom X.env.cells scope.names [])) sL.heap.objs.size X.env := ⟨_, rfl⟩
  have eloc : ce.locals = sL.heap.objs.size := by rw [ece]; rfl
  rw [← ece] at IB PGb PTb PKb PEb ⊢
  obtain ⟨sB, eB⟩ : ∃ sB : Shared, sB = { sL with heap := pushCells (sL.heap.push { cls := .type "dict", data := .dict #[] }) scope.names } := ⟨_, rfl⟩
  rw [← eB] at IB ⊢
  have stB : tn 0 sB.heap := T.keep _ _ _ stI fun b _ o e => by rw [eB]; exact pushCells_keeps _ _ _ _ (Heap.get?_push_of_some _ (keepL b o e))
  have fpB : ∀ {σ' : L2.St} {H' : Hp} {s' : Shared}, Inv (X.blk sL HL scope ce fp) [] σ' H' s' → (∀ b ∈ fp, H' b = none) → ∀ b ∈ fp, FpOk (X.blk sL HL scope ce fp) [] H' b := fun I' n b hb =>
    ⟨n b hb, (I'.ok.exf b hb).1, I'.ok.exfs b hb, .inl hb, fun x c e => (I'.ok.exf b hb).2 x c e, fun p hp => absurd (show p ∈ ([] : List (Addr × Obj)) ++ [] from hp) (by simp)⟩
  refine codeAny_compStart_dict ?_ (T.self X.A 0 _ _ _ stB ?_)
  all_goals
    refine compLoop_anyD (fun n s' => ∃ i H', Inv (X.blk sL HL scope ce fp) [] (wipe σ (own.map (·.2))) H' s' ∧ tn i s'.heap ∧ (∀ b ∈ fp, H' b = none) ∧ W i n H') ?_ m0 ⟨0, HL, IB, stB, fun b hb => (fpL b hb).1.1, w0⟩
    rintro n s1 ⟨i, H1, I1, st1, n1, w1⟩
    rcases turn i n H1 w1 with ⟨stop, fin⟩ | ⟨go, Nx, hNx, step⟩
    · refine thnF (T.done (X.blk sL HL scope ce fp) rfl rfl rfl calm i [] s1 _ H1 (fun _ _ => False) I1 (fpB I1 n1) st1 stop) fun r s2 ⟨hr, I2⟩ => ?_
      subst hr
      have I3 : Inv X pins σ H1 s2 := IL.call' (ch := fp) I2.os I2.base I2.hok I2.bare fun b hb => ⟨(fpL b hb).1.2.2.2.1, (fpL b hb).1.2.1, (fpL b hb).1.2.2.2.2.1, (fpL b hb).1.2.2.2.2.2⟩
      obtain ⟨m, ns, _⟩ := I2.loc
      have free := I2.free
      rw [show (X.blk sL HL scope ce fp).env.locals = sL.heap.objs.size from eloc] at ns free
      have n0 : FpOk X pins H1 sL.heap.objs.size := by
        obtain ⟨g0, g1, g2, g3, g4, g5⟩ := IL.fpOk (Nat.le_refl _) free
        exact ⟨g0, g1, g2, g3, g4, g5⟩
      exact hRR _ _ s2 m H1 I3 fin ns n0
    · refine thnF (T.item (X.blk sL HL scope ce fp) rfl rfl rfl calm i [] s1 _ H1 (fun _ _ => False) I1 (fpB I1 n1) st1 go) fun r s2 ⟨u, hr, more⟩ => ?_
      subst hr
      refine thnF more fun _ s3 ⟨x, H3, I3, r3, y3, st3, n3⟩ => ?_
      refine thnF (PGb.run _ s3 _ H3 x u _ (I3.pinned (fpB I3 n3) (T.obj _ _ st3)) r3 (step x H3 y3)) fun _ s4 ⟨σ4, H4, I4, wp4, q4⟩ => ?_
      refine thnF (PTb.run _ s4 σ4 H4 _ I4 q4) fun b s5 ⟨H5, I5, q5⟩ => ?_
      have on : ∀ {s' : Shared} {H' : Hp}, Inv (X.blk sL HL scope ce fp) ([] ++ pinsAt fp s3.heap) σ4 H' s' → Nx H' → ∃ m, m < n ∧ ∃ i H', Inv (X.blk sL HL scope ce fp) [] (wipe σ (own.map (·.2))) H' s' ∧ tn i s'.heap ∧ (∀ b ∈ fp, H' b = none) ∧ W i m H' := fun I' nx => by
        obtain ⟨m', lt, w'⟩ := hNx _ nx
        have pin : ∀ b ∈ fp, ∀ o, s3.heap.get? b = some o → _ := fun b hb o e => I'.pin (b, o) (List.mem_append_right _ (List.mem_append_right _ (mem_pinsAt hb e)))
        refine ⟨m', lt, i + 1, _, (I'.unpinned (pins := [])).weak (by rw [← wp4, wipe_length]) (fun j v e => ?_), T.keep _ _ _ st3 fun b hb o e => (pin b hb o e).1, fun b hb => ?_, w'⟩
        · rw [← wp4] at e
          exact (wipe_some e).1
        · obtain ⟨o, e, _⟩ := T.obj _ _ st3 b hb
          exact (pin b hb o e).2.1
      by_cases hb : b = true
      · subst hb
        rw [if_pos rfl] at q5 ⊢
        refine thnF (PKb.run _ s5 σ4 H5 _ I5 q5) fun z s6 ⟨v6, H6, I6, r6, q6⟩ => ?_
        refine thnF (PEb.run _ s6 σ4 H6 _ I6 q6) fun z7 s7 ⟨v7, H7, I7, r7, kvs, k, c, ek, hc, hD, hz, nx⟩ => ?_
        subst ek
        exact d_setT (X := X.blk sL HL scope ce fp) hu I7 hD hz r6 hc r7 fun s8 I8 => on I8 nx
      · dsimp only at q5 ⊢
        rw [if_neg hb] at q5 ⊢
        exact on I5 q5
theorem pe_dcT {kx vx tg iter : Expr} {ifs : List Expr} {scope : Scope} {own : List (Str × Nat)} {pos : Pos} {wi : TI} {g : TG} {tt : TT} {tk tv : TE} (calm : X.calm = true) (hu : X.A.units + 1 < cLine) (nd : X.N.Nodup) (src : PI X tg iter wi) (blk : BlkOk X.N X.env.scope scope own)
    (Gt : ∀ (s : Shared) (H : Hp) (C : Addr) (cl : List (Str × Addr)) (fp : List Addr), PG (X.blk s H scope (compEnvC scope cl C X.env) fp) tg g)
    (Tt : ∀ (s : Shared) (H : Hp) (C : Addr) (cl : List (Str × Addr)) (fp : List Addr), PTs (X.blk s H scope (compEnvC scope cl C X.env) fp) ifs tt)
    (Kt : ∀ (s : Shared) (H : Hp) (C : Addr) (cl : List (Str × Addr)) (fp : List Addr), PE (X.blk s H scope (compEnvC scope cl C X.env) fp) kx tk)
    (Et : ∀ (s : Shared) (H : Hp) (C : Addr) (cl : List (Str × Addr)) (fp : List Addr), PE (X.blk s H scope (compEnvC scope cl C X.env) fp) vx tv) (fold : ∀ x, foldedSetIterable iter X.env x = pure x := by intro _; rfl) :
    PE X (.DictComp kx vx [⟨tg, iter, ifs, 0⟩] scope pos) (tDcT wi g tt tk tv (own.map (·.2))) := by
  refine ⟨fun pins s σ H Q I rd => ?_⟩
  rw [arm_eval_DictComp]
  refine dcT_core calm hu nd I src blk Gt Tt Kt Et fold rd fun dd C s' m H' I' q hn f => ⟨m, hn, fun h'' sb => ?_⟩
  obtain ⟨f0, f1, f2, f3, f4, f5⟩ := f
  exact ⟨.ref dd, H', I'.turned (t' := s'.toks) (fun b o hb e => (sb.2 b hb).trans e) f0 f1 f3 f4 f5, rfl, q⟩
end
theorem ps_setDcT {X : Cx} {i : Nat} {y : Str} {py : Pos} {kx vx tg iter : Expr} {ifs : List Expr} {scope : Scope} {own : List (Str × Nat)} {pos spos : Pos} {wi : TI} {g : TG} {tt : TT} {tk tv : TE} (calm : X.calm = true) (hu : X.A.units + 1 < cLine) (nd : X.N.Nodup) (at_ : X.N[i]? = some y) (loc : X.env.scope.names.lookup y = some .local)
    (swap : swapsWith (.DictComp kx vx [⟨tg, iter, ifs, 0⟩] scope pos) (some (.Name y py)) spos.line X.env = pure true) (src : PI X tg iter wi) (blk : BlkOk X.N X.env.scope scope own)
    (Gt : ∀ (s : Shared) (H : Hp) (C : Addr) (cl : List (Str × Addr)) (fp : List Addr), PG (X.blk s H scope (compEnvC scope cl C X.env) fp) tg g)
    (Tt : ∀ (s : Shared) (H : Hp) (C : Addr) (cl : List (Str × Addr)) (fp : List Addr), PTs (X.blk s H scope (compEnvC scope cl C X.env) fp) ifs tt)
    (Kt : ∀ (s : Shared) (H : Hp) (C : Addr) (cl : List (Str × Addr)) (fp : List Addr), PE (X.blk s H scope (compEnvC scope cl C X.env) fp) kx tk)
    (Et : ∀ (s : Shared) (H : Hp) (C : Addr) (cl : List (Str × Addr)) (fp : List Addr), PE (X.blk s H scope (compEnvC scope cl C X.env) fp) vx tv) (fold : ∀ x, foldedSetIterable iter X.env x = pure x := by intro _; rfl) :
    PS X (.Assign [.Name y py] (.DictComp kx vx [⟨tg, iter, ifs, 0⟩] scope pos) spos) (tAsg (tDcT wi g tt tk tv (own.map (·.2))) (gName i)) := by
  refine ⟨fun pins s σ H D I rd => ?_⟩
  rw [exec_Assign_Name_used _ _ _ _ swap]
  refine wpAny_bind (wpAny_standAt (wpAny_bind ?_))
  have rd : tDcT wi g tt tk tv (own.map (·.2)) σ H (fun x H1 => gName i x σ H1 D.nx) := rd
  show wpAny _ X.A (do
    let _ ← comprehension (.DictComp kx vx [⟨tg, iter, ifs, 0⟩] scope pos) scope X.env (firstIterPos [⟨tg, iter, ifs, 0⟩] pos) newDict false (eval iter X.env) (some (assign (.Name y py) X.env))) _ _ s
  refine wpAny_bind (thn (dcT_core (Qf := fun _ s' => SP X pins D .next s') calm hu nd I src blk Gt Tt Kt Et fold rd fun dd C s' m H' I' q hn f => ?_) fun _ s' hq => wpAny_pure (wpAny_pure hq))
  show wpAny _ _ (assign (.Name y py) X.env (.ref dd)) _ _ _
  refine wpAny_assign_Name (store_ok2 (v := V.ref dd) I' nd at_ (.inl loc) rfl (fun s2 I2 ⟨a, sb, ha⟩ => ?_) (.inr loc))
  obtain ⟨f0, f1, f2, f3, f4, f5⟩ := f
  have ne : C ≠ a := by
    rcases ha with z | z
    · rw [z]
      exact f1
    · exact fun e => f4 y a z e.symm
  refine ⟨m, hn.sameBut sb ne, fun h3 sb3 => ?_⟩
  exact ⟨_, H', I2.turned (t' := s2.toks) (fun b o hb e => (sb3.2 b hb).trans e) f0 f1 f3 f4 f5, q⟩
theorem sw_trueD {kx vx : Expr} {gs : List Comprehension} {scope : Scope} {pos py : Pos} {y : Str} {l : Nat} {env : Env} (hk : env.scope.kind = .function) (hy : env.scope.names.lookup y = some .local) (hl : (py.line == pos.line) = true)
    (ha : (scope.names.any fun (n, k) => n == y && (k == .local || k == .cell)) = false) : swapsWith (.DictComp kx vx gs scope pos) (some (.Name y py)) l env = pure true := by
  have ky : env.kindOf y = some .local := hy
  have hb : env.blockKind = .function := by unfold Env.blockKind; rw [hk]; rfl
  unfold swapsWith
  simp only [hb, ky, ha, Expr.pos, hl]
  rfl
theorem dcT_gen {J : It} {g : TG} {tt : TT} {tk tv : TE} {vs : List Nat} {σ : L2.St} {H1 : Hp} {D : Addr} {Qd : Hp → Prop} (n : Nat) (Pv : Nat → Hp → Prop)
    (h0 : Pv 0 (upd H1 D (HO.dT []))) (go : ∀ i H, i < n → Pv i H → J.go i H) (stop : ∀ H, Pv n H → J.stop n H)
    (step : ∀ i x H H', i < n → Pv i H → J.yld i H x H' → g x (wipe σ vs) H' fun σ2 H2 => wipe σ2 vs = wipe σ vs ∧ tt σ2 H2 fun b H3 =>
      if b = true then tk σ2 H3 fun y H4 => tv σ2 H4 fun z H5 => ∃ (kvs : List (List Key × V)) (k : List Key) (c : Addr), y = .ref c ∧ H5 c = some (.tup (k.map kV)) ∧ H5 D = some (.dT kvs) ∧ kvs.length < sizeLine ∧ Pv (i + 1) (upd H5 D (.dT (putK kvs k z))) else Pv (i + 1) H3)
    (fin : ∀ H, Pv n H → Qd H) :
    ∃ W : Nat → Nat → Hp → Prop, (∃ m, W 0 m (upd H1 D (HO.dT []))) ∧ ∀ i m H, W i m H → J.stop i H ∧ Qd H ∨ J.go i H ∧ ∃ Nx : Hp → Prop, (∀ H', Nx H' → ∃ m', m' < m ∧ W (i + 1) m' H') ∧
      ∀ x H', J.yld i H x H' → g x (wipe σ vs) H' fun σ2 H2 => wipe σ2 vs = wipe σ vs ∧ tt σ2 H2 fun b H3 =>
        if b = true then tk σ2 H3 fun y H4 => tv σ2 H4 fun z H5 => ∃ (kvs : List (List Key × V)) (k : List Key) (c : Addr), y = .ref c ∧ H5 c = some (.tup (k.map kV)) ∧ H5 D = some (.dT kvs) ∧ kvs.length < sizeLine ∧ Nx (upd H5 D (.dT (putK kvs k z))) else Nx H3 := by
  refine ⟨fun i m H => m = n - i ∧ i ≤ n ∧ Pv i H, ⟨n, rfl, Nat.zero_le _, h0⟩, ?_⟩
  rintro i m H ⟨rfl, hi, hp⟩
  rcases Nat.lt_or_ge i n with lt | ge
  · exact .inr ⟨go i H lt hp, Pv (i + 1), fun H' h => ⟨n - (i + 1), by omega, rfl, lt, h⟩, fun x H' hy => step i x H H' lt hp hy⟩
  · have e : i = n := Nat.le_antisymm hi ge
    subst e
    exact .inl ⟨stop H hp, fin H hp⟩
/-! items() of a dict with tuple keys -/
def Itit (d : Addr) (o : Obj) (kvs : List (List Key × V)) : It :=
  ⟨fun i H => H d = some (.frz o (.dT kvs)) ∧ i < kvs.length, fun i H x H' => ∃ (t : Addr) (k : List Key) (v : V) (q : Addr), kvs[i]? = some (k, v) ∧ x = .ref t ∧ H t = none ∧ H q = some (.tup (k.map kV)) ∧ H' = upd H t (.tup [.ref q, v]), fun i H => H d = some (.frz o (.dT kvs)) ∧ kvs.length ≤ i⟩
theorem frzT_ent {X : Cx} {pins : List (Addr × Obj)} {σ : L2.St} {H : Hp} {s : Shared} {d : Addr} {o : Obj} {kvs : List (List Key × V)} (I : Inv X pins σ H s) (h : H d = some (.frz o (.dT kvs))) :
    (d == sysModules) = false ∧ s.heap.get? d = some o ∧ o.ExactDict ∧ ∃ (es : Array DictEntry) (ep : Nat), o.data = .dict es ep ∧ es.size = kvs.length ∧
      ∀ (i : Nat) (k : List Key) (v : V), kvs[i]? = some (k, v) → ∃ (en : DictEntry) (q : Addr), es[i]? = some en ∧ en.key = .ref q ∧ H q = some (.tup (k.map kV)) ∧ RelV v en.val := by
  obtain ⟨hd, z, hs, xs, pr, o', es, ep, ho, hx, hdt, he, _⟩ := I.hok d _ h
  rw [hd] at ho
  cases ho
  refine ⟨hs, hd, hx, es, ep, hdt, ?_, fun i k v e => ?_⟩
  · have l1 : es.size = xs.length := size_of_entries he
    have l2 : kvs.length = xs.length := Paired.length pr
    omega
  · obtain ⟨b, hb, e1, e2, e3⟩ := paired_get pr e
    have q := entry_at he i
    rw [hb] at q
    exact ⟨_, b.2.1, q, rfl, e2, e3⟩
theorem raw_of {h : Heap} {d : Addr} {o : Obj} {es : Array DictEntry} {ep : Nat} (h1 : h.get? d = some o) (h2 : o.ExactDict) (h3 : o.data = .dict es ep) : DT.Raw h d es ep := ⟨o, h1, h2, h3⟩
theorem turn_itemsT {P : Program} {w : World} {K : PySem.W.Frag} {d : Addr} {o : Obj} {es : Array DictEntry} {ep : Nat} {kvs : List (List Key × V)} {elts : List Expr} {kk : Nat} {tpos : Pos} (it : Addr) (hod : o.data = .dict es ep) :
    Turn P w K (.Tuple elts kk tpos) (Itit d o kvs) [it] it (fun i h => ∃ ok ov, IsItemIter h it d i es.size ep ok ov) where
  mem := by simp
  obj := fun i h st b hb => by
    have e : b = it := by simpa using hb
    subst e
    obtain ⟨ok, ov, e⟩ := st
    exact ⟨_, e, fun v z => nomatch z⟩
  keep := fun i h h' st k => let ⟨ok, ov, e⟩ := st; ⟨ok, ov, k it (by simp) _ e⟩
  item := by
    intro X hP hw hK hc i pins s σ H E I hf st hg
    subst hP hw hK
    obtain ⟨hd, hi⟩ := hg
    obtain ⟨hs, hgd, hx, es', ep', hdt, hsz, ent⟩ := frzT_ent I hd
    obtain ⟨rfl, rfl⟩ := dict_ep hod hdt
    obtain ⟨⟨k, v⟩, hkv⟩ : ∃ p, kvs[i]? = some p := ⟨kvs[i], List.getElem?_eq_getElem hi⟩
    obtain ⟨en, q, hen, hkey, hq, rv⟩ := ent i k v hkv
    obtain ⟨ok, ov, he⟩ := st
    have hlt : it < s.heap.objs.size := Heap.lt_size he
    have hie : i < es'.size := by omega
    have een : es'[i] = en := by
      rw [Array.getElem?_eq_getElem hie] at hen
      exact Option.some.inj hen
    refine DT.nextI he (raw_of hgd hx hdt) hie fun h' ho hT hz hk => ?_
    refine ⟨_, rfl, wpAny_letOwnedTupleGo_items (s := { s with heap := h' }) ho fun h'' he' sb => ?_⟩
    rw [een] at hT
    have hT2 : h''.get? s.heap.objs.size = some { cls := .type "tuple", data := .seq #[en.key, en.val] } := (sb.2 _ (Nat.ne_of_gt hlt)).trans hT
    have new : ObjOk X.prog X.w (upd H s.heap.objs.size (.tup [.ref q, v])) h'' s.heap.objs.size (.tup [.ref q, v]) :=
      ⟨by show 2 ≤ sizeLine; decide, [en.key, en.val], .cons hkey (.cons rv .nil), ⟨_, hT2, rfl, _, rfl⟩⟩
    have I1 : Inv X pins σ (upd H s.heap.objs.size (.tup [.ref q, v])) { s with heap := h'' } :=
      I.turnedNew (t' := s.toks) (ch := [it]) (fun b ob hb e => (sb.2 b (by simpa using hb)).trans (hk b ob (by simpa using hb) e)) hf (Nat.le_refl _) new
    refine ⟨.ref s.heap.objs.size, _, I1, rfl, ⟨_, k, v, q, hkv, rfl, I.hok.fresh (Nat.le_refl _), hq, rfl⟩, ⟨_, _, he'⟩, fun b hb => ?_⟩
    have e : b = it := by simpa using hb
    rw [e, upd_ne (Nat.ne_of_lt hlt)]
    exact (hf it (by simp)).1
  done := by
    intro X hP hw hK hc i pins s σ H E I hf st hg
    subst hP hw hK
    obtain ⟨hd, hi⟩ := hg
    obtain ⟨f0, f1, f2, f3, f4, f5⟩ := hf it (by simp)
    obtain ⟨hs, hgd, hx, es', ep', hdt, hsz, ent⟩ := frzT_ent I hd
    obtain ⟨rfl, rfl⟩ := dict_ep hod hdt
    obtain ⟨ok, ov, he⟩ := st
    exact DT.endI (I.ok.hd hc) he (raw_of hgd hx hdt) (by omega) fun h' eb => ⟨rfl, I.turned (t' := s.toks) (fun b ob hb e => eb b ob hb e) f0 f1 f3 f4 f5⟩
  self := fun A i s Q E st h => let ⟨_, _, e⟩ := st; PySem.W.kcp_self e h
def iItemsT (td : TE) : TI := fun σ H R => td σ H fun x H1 => ∃ d o kvs, x = .ref d ∧ H1 d = some (.frz o (.dT kvs)) ∧ R (Itit d o kvs) H1
theorem pi_itemsT {X : Cx} {e : Expr} {td : TE} {apos cpos : Pos} {elts : List Expr} {kk : Nat} {tpos : Pos} (he : PE X e td) (hbase : attributeBase e "items" X.env (eval e X.env) = eval e X.env := by rfl) (hline : (apos.endLine == cpos.line) = true := by rfl) :
    PI X (.Tuple elts kk tpos) (.Call (.Attribute e "items" apos) [] [] cpos) (iItemsT td) := by
  refine ⟨fun pins s σ H R I h => ?_⟩
  refine wpAny_Call_method (T := "dict") (id := "dict.items") hbase rfl hline F.plainAttrs_dict F.slot_dict_items F.type_dict_items (thn (he.run pins s σ H _ I h) fun u s1 ⟨x, H1, I1, rx, d, o, kvs, ex, hd, q⟩ => ?_)
  subst ex
  obtain rfl : u = Value.ref d := rx
  obtain ⟨hs, hgd, hx, es, ep, hdt, hsz, ent⟩ := frzT_ent I1 hd
  have rw_ := raw_of hgd hx hdt
  refine ⟨rw_.typeIs, ?_, ?_⟩
  · intro a e
    cases e
    exact ⟨o, hgd, hx.2.1⟩
  have I2 : Inv X pins σ H1 { s1 with heap := s1.heap.push { cls := .type "dict_items", data := .fields #[.ref d] } } := I1.kept (t' := s1.toks) fun b ob q => Heap.get?_push_of_some _ q
  have fin : wpAny (model X.prog X.w) X.A (pyIter (.ref s1.heap.objs.size)) (PIE X pins σ (.Tuple elts kk tpos) R) X.xe { s1 with heap := s1.heap.push { cls := .type "dict_items", data := .fields #[.ref d] } } := by
    refine DT.iterI (d := d) ⟨_, Heap.get?_push_size _ rfl, rfl, rfl⟩ (rw_.push _) (pi_one (tk := s1.toks) I2 _ (turn_itemsT _ hdt) ⟨.none, .none, ?_⟩ q)
    exact Heap.get?_push_size _ rfl
  show wpAny _ _ (callWith cpos (.builtin "dict.items") [.ref d] [] []) _ X.xe s1
  exact method_meetsIn F.slot_dict_items F.entry_dict_items rfl (PySem.evalArgs_none ⟨rfl, rw_.typeIs, F.args_dict_items_1 _, _, DT.meetsItems (es := es) (ep := ep) hs, ⟨rw_, fin⟩⟩)
/-! list(d.values()), the keys numbers and texts -/
def valsO (p d : Addr) : HO := .ext fun h => h.IsValuesView p d
theorem valsO_ok {P : Program} {w : World} {H : Hp} {h : Heap} {p d : Addr} (e : h.get? p = some { cls := .type "dict_values", data := .fields #[.ref d] }) : ObjOk P w H h p (valsO p d) :=
  ⟨⟨_, e, rfl, rfl⟩, ⟨_, e⟩, fun h1 h2 x k => let ⟨o, ho, r⟩ := x; ⟨o, k o ho, r⟩⟩
def rValsK : V → List V → Hp → VK → Prop := fun x xs H Q => ∃ (a : Addr) (kvs : List (Key × V)), x = .ref a ∧ xs = [] ∧ H a = some (.dK kvs) ∧ ∀ p, H p = none → Q (.ref p) (upd H p (valsO p a))
theorem mt_valsK {X : Cx} : MtR X "dict.values" rValsK := by
  intro pins s σ H x xs v us Q I rx rxs h
  obtain ⟨a, kvs, rfl, rfl, ha, q⟩ := h
  cases rx
  cases rxs
  obtain ⟨z, hd, vs, rel, dd⟩ := dk_of I.hok ha
  refine call_meetsIn PySem.F.slot_dict_values dd.typeIs PySem.F.entry_dict_values (PySem.F.args_dict_values_1 _) (meets_dict_values (mixKind X.prog X.w) a hd) ⟨⟨vs, dd⟩, ?_⟩
  have hf : H s.heap.objs.size = none := I.hok.fresh (Nat.le_refl _)
  exact ⟨.ref s.heap.objs.size, upd H s.heap.objs.size (valsO s.heap.objs.size a), I.laid (t' := s.toks) (fun b u e => Heap.get?_push_of_some _ e) (Nat.le_refl _) (valsO_ok (Heap.get?_push_size _ rfl)), rfl, q _ hf⟩
theorem kv_vals {kvs : List (Key × V)} {vs : List (Key × Value)} (h : KV kvs vs) : Vals (kvs.map (·.2)) (vs.map (·.2)) := by
  unfold KV at h
  induction h with
  | nil => exact .nil
  | cons r t ih => exact .cons r.2 ih
theorem call_list_vals {X : Cx} (hc : X.calm = true) : CallR X (.type "list") (fun xs H Q => ∃ p d kvs, xs = [V.ref p] ∧ H p = some (valsO p d) ∧ H d = some (.dK kvs) ∧ ∀ l, H l = none → Q (.ref l) (upd H l (.lst (kvs.map (·.2))))) := by
  intro pins s σ H xs us Q I r h
  obtain ⟨p, d, kvs, rfl, hp, hd, q⟩ := h
  rw [Vals.ref1 r]
  obtain ⟨z, hs, vs, rel, dd⟩ := dk_of I.hok hd
  obtain ⟨ep, hat⟩ := dd.dictAt
  have hl : kvs.length = vs.length := Paired.length rel
  have hv : s.heap.IsValuesView p d := (I.hok p _ hp).1
  refine PySem.W.kdl_call (PySem.W.kdl_values (knd := mixKind X.prog X.w) (kvs := vs) (ep := ep)) (I.ok.hd hc) ⟨hv, hat⟩ (by omega) fun h' tk acc' c' kp e it => ?_
  have ea : acc'.toList = vs.map (·.2) := by
    apply List.ext_getElem?
    intro j
    rw [List.getElem?_map]
    have hla : acc'.toList.length = vs.length := by rw [Array.length_toList, it.1]
    cases hj : acc'.toList[j]? with
    | none =>
      have h1 := List.getElem?_eq_none_iff.mp hj
      rw [List.getElem?_eq_none (by omega)]
      rfl
    | some v =>
      obtain ⟨k, hk⟩ := it.2 j v (by rw [← Array.getElem?_toList]; exact hj)
      rw [hk]
      rfl
  refine ⟨.ref s.heap.objs.size, _, I.laid (t' := tk) (o := .lst (kvs.map (·.2))) kp (Nat.le_refl _) ⟨by rw [List.length_map]; exact z, acc'.toList, c', ?_, by rw [Array.toArray_toList]; exact e⟩, rfl, q _ (I.hok.fresh (Nat.le_refl _))⟩
  rw [ea]
  exact kv_vals rel
end DLR
namespace DL
open PySem L2 DLR
def kN (x : Nat) : Key := .inl (x : Int)
theorem kN_inj {a b : Nat} (h : kN a = kN b) : a = b := by
  have e := Sum.inl.inj h
  omega
end DL
namespace DL
open PySem PySem.Spec L2 DLR
/-! ### the halves done, as a dict -/
section
variable {κ β : Type} [DecidableEq κ]
def getE : List (κ × β) → κ → Option β
  | [], _ => none
  | q :: L, k => if q.1 = k then some q.2 else getE L k
def setE (L : List (κ × β)) (k : κ) (v : β) : List (κ × β) := if (getE L k).isSome = true then L.map (fun q => if q.1 = k then (q.1, v) else q) else L ++ [(k, v)]
def emap {κ' : Type} (enc : κ → κ') (f : β → V) (L : List (κ × β)) : List (κ' × V) := L.map fun q => (enc q.1, f q.2)
theorem emap_val {κ' : Type} [DecidableEq κ'] {enc : κ → κ'} (inj : ∀ a b, enc a = enc b → a = b) (f : β → V) (k : κ) : ∀ L : List (κ × β), valV (emap enc f L) (enc k) = (getE L k).map f
  | [] => rfl
  | q :: L => by
    unfold getE
    by_cases e : q.1 = k
    · rw [if_pos e]
      exact valV_pos (p := (enc q.1, f q.2)) (by rw [e])
    · rw [if_neg e, ← emap_val inj f k L]
      exact valV_neg (p := (enc q.1, f q.2)) (fun z => e (inj _ _ z))
theorem emap_put {κ' : Type} [DecidableEq κ'] {enc : κ → κ'} (inj : ∀ a b, enc a = enc b → a = b) (f : β → V) (L : List (κ × β)) (k : κ) (v : β) : putK (emap enc f L) (enc k) (f v) = emap enc f (setE L k v) := by
  unfold putK setE
  have e : ((emap enc f L).any fun kv => decide (kv.1 = enc k)) = (getE L k).isSome := by
    rw [valV_any, emap_val inj, Option.isSome_map]
  rw [e]
  split
  · unfold emap
    rw [List.map_map, List.map_map]
    refine List.map_congr_left fun x _ => ?_
    show (if enc x.1 = enc k then (enc x.1, f v) else (enc x.1, f x.2)) = (enc (if x.1 = k then (x.1, v) else x).1, f (if x.1 = k then (x.1, v) else x).2)
    by_cases h : x.1 = k
    · rw [if_pos h, if_pos (by rw [h])]
    · rw [if_neg h, if_neg (fun z => h (inj _ _ z))]
  · unfold emap
    rw [List.map_append]
    rfl
theorem emap_len {κ' : Type} (enc : κ → κ') (f : β → V) (L : List (κ × β)) : (emap enc f L).length = L.length := List.length_map _
theorem setE_len (L : List (κ × β)) (k : κ) (v : β) : (setE L k v).length ≤ L.length + 1 ∧ L.length ≤ (setE L k v).length := by
  unfold setE
  split
  · rw [List.length_map]
    omega
  · rw [List.length_append]
    show L.length + 1 ≤ _ ∧ _ ≤ L.length + 1
    omega
theorem getE_snoc {L : List (κ × β)} {k k' : κ} {v : β} : getE (L ++ [(k, v)]) k' = (getE L k').or (if k = k' then some v else none) := by
  induction L with
  | nil => show (if k = k' then some v else getE [] k') = _; split <;> rfl
  | cons q L ih =>
    show (if q.1 = k' then some q.2 else getE (L ++ [(k, v)]) k') = (if q.1 = k' then some q.2 else getE L k').or _
    by_cases e : q.1 = k'
    · rw [if_pos e, if_pos e]; rfl
    · rw [if_neg e, if_neg e, ih]
theorem getE_mapset {L : List (κ × β)} {k k' : κ} {v : β} : getE (L.map fun q => if q.1 = k then (q.1, v) else q) k' = if k = k' then (getE L k').map (fun _ => v) else getE L k' := by
  induction L with
  | nil => split <;> rfl
  | cons q L ih =>
    rw [List.map_cons]
    show (if (if q.1 = k then (q.1, v) else q).1 = k' then some (if q.1 = k then (q.1, v) else q).2 else getE (L.map _) k') = _
    have e1 : (if q.1 = k then (q.1, v) else q).1 = q.1 := by split <;> rfl
    rw [e1, ih]
    by_cases e : q.1 = k'
    · have e3 : getE (q :: L) k' = some q.2 := by show (if q.1 = k' then some q.2 else getE L k') = _; rw [if_pos e]
      rw [if_pos e, e3]
      by_cases e2 : k = k'
      · rw [if_pos (e.trans e2.symm), if_pos e2]; rfl
      · rw [if_neg fun z => e2 (z.symm.trans e), if_neg e2]
    · have e3 : getE (q :: L) k' = getE L k' := by show (if q.1 = k' then some q.2 else getE L k') = _; rw [if_neg e]
      rw [if_neg e, e3]
theorem getE_setE (L : List (κ × β)) (k k' : κ) (v : β) : getE (setE L k v) k' = if k = k' then some v else getE L k' := by
  unfold setE
  cases h : getE L k with
  | none =>
    rw [if_neg (by simp), getE_snoc]
    by_cases e : k = k'
    · subst e
      rw [if_pos rfl, if_pos rfl, h]; rfl
    · rw [if_neg e, if_neg e]
      cases getE L k' <;> rfl
  | some z =>
    rw [if_pos (by rfl), getE_mapset]
    by_cases e : k = k'
    · subst e
      rw [if_pos rfl, if_pos rfl, h]; rfl
    · rw [if_neg e, if_neg e]
theorem setE_keys {L : List (κ × β)} {k : κ} {v : β} (h : (getE L k).isSome = true) : (setE L k v).map (·.1) = L.map (·.1) := by
  unfold setE
  rw [if_pos h, List.map_map]
  refine List.map_congr_left fun q _ => ?_
  show (if q.1 = k then (q.1, v) else q).1 = q.1
  split <;> rfl
end
theorem kNs_inj : ∀ a b : List Nat, a.map kN = b.map kN → a = b
  | [], [], _ => rfl
  | [], _ :: _, h => by cases h
  | _ :: _, [], h => by cases h
  | x :: a, y :: b, h => by
    obtain ⟨h1, h2⟩ := List.cons.inj h
    rw [kN_inj h1, kNs_inj a b h2]
theorem kNs_kV (h : List Nat) : (h.map kN).map kV = h.map nI := by
  rw [List.map_map]
  rfl
theorem kN_inj' (a b : Nat) (h : kN a = kN b) : a = b := kN_inj h
abbrev Left := List (List Nat × Int)
def tmap (T : List (Nat × Int)) : List (Key × V) := emap kN V.int T
def lmap (L : Left) : List (List Key × V) := emap (fun h : List Nat => h.map kN) V.int L
def timesF (G : GoL) : List (Nat × Int) := G.foldl (fun T e => setE T e.1.2 ((getE T e.1.2).getD 0 + e.2)) [(0, 1)]
def firstsF (T : List (Nat × Int)) : Left := T.foldl (fun L q => setE L [q.1] q.2) []
def leftF (G : GoL) : Left := G.foldl (fun L e => setE L [e.1.1, e.1.2] e.2) (firstsF (timesF G))
theorem timesF_len (G : GoL) : (timesF G).length ≤ G.length + 1 := by
  have : ∀ (G : GoL) (T : List (Nat × Int)), (G.foldl (fun T e => setE T e.1.2 ((getE T e.1.2).getD 0 + e.2)) T).length ≤ T.length + G.length := by
    intro G
    induction G with
    | nil => intro T; exact Nat.le_refl _
    | cons e G ih =>
      intro T
      rw [List.foldl_cons, List.length_cons]
      have h1 := ih (setE T e.1.2 ((getE T e.1.2).getD 0 + e.2))
      have h2 := (setE_len T e.1.2 ((getE T e.1.2).getD 0 + e.2)).1
      omega
  have h := this G [(0, 1)]
  unfold timesF
  simp only [List.length_cons, List.length_nil] at h
  omega
theorem fold_len {α κ β : Type} [DecidableEq κ] (kf : α → κ) (vf : List (κ × β) → α → β) : ∀ (M : List α) (L : List (κ × β)), (M.foldl (fun L e => setE L (kf e) (vf L e)) L).length ≤ L.length + M.length
  | [], L => Nat.le_refl _
  | e :: M, L => by
    rw [List.foldl_cons, List.length_cons]
    have h1 := fold_len kf vf M (setE L (kf e) (vf L e))
    have h2 := (setE_len L (kf e) (vf L e)).1
    omega
theorem firstsF_len (T : List (Nat × Int)) : (firstsF T).length ≤ T.length := by
  have := fold_len (fun q : Nat × Int => [q.1]) (fun _ q => q.2) T ([] : Left)
  unfold firstsF
  simpa using this
theorem leftF_len (G : GoL) : (leftF G).length ≤ 2 * G.length + 1 := by
  have h1 : (leftF G).length ≤ (firstsF (timesF G)).length + G.length := fold_len (fun e : (Nat × Nat) × Int => [e.1.1, e.1.2]) (fun (_ : Left) e => e.2) G (firstsF (timesF G))
  have h2 := firstsF_len (timesF G)
  have h3 := timesF_len G
  omega
theorem take_snoc {α : Type} {l : List α} {i : Nat} {x : α} (h : l[i]? = some x) : l.take (i + 1) = l.take i ++ [x] := by rw [List.take_add_one, h]; rfl
abbrev LeftAt (H : Hp) (d : Addr) (L : Left) : Prop := H d = some (.dT (lmap L))
theorem LeftAt.get {H : Hp} {d b : Addr} {L : Left} {h : List Nat} (e : LeftAt H d L) (eb : H b = some (.tup (h.map nI))) : DGet H d (.ref b) ((getE L h).map V.int) := by
  have q := DGet.t (k := h.map kN) e (by rw [kNs_kV]; exact eb)
  unfold lmap at q
  rwa [emap_val (enc := fun h : List Nat => h.map kN) kNs_inj] at q
theorem LeftAt.put {H : Hp} {d b : Addr} {L : Left} {h : List Nat} {v : Int} (e : LeftAt H d L) (eb : H b = some (.tup (h.map nI))) (hl : L.length < sizeLine) : DPut H d (.ref b) (.int v) (upd H d (.dT (lmap (setE L h v)))) := by
  have q := DPut.t (k := h.map kN) (v := V.int v) e (by rw [kNs_kV]; exact eb) (by unfold lmap; rw [emap_len]; exact hl)
  unfold lmap at q
  rwa [emap_put (enc := fun h : List Nat => h.map kN) kNs_inj] at q
theorem tmap_get {H : Hp} {d : Addr} {T : List (Nat × Int)} (x : Nat) (e : H d = some (.dK (tmap T))) : DGet H d (nI x) ((getE T x).map V.int) := by
  have q := DGet.k (k := kN x) e
  unfold tmap at q
  rwa [emap_val kN_inj'] at q
theorem tmap_put {H : Hp} {d : Addr} {T : List (Nat × Int)} {x : Nat} {v : Int} (e : H d = some (.dK (tmap T))) (hl : T.length < sizeLine) : DPut H d (nI x) (.int v) (upd H d (.dK (tmap (setE T x v)))) := by
  have q := DPut.k (k := kN x) (v := V.int v) e (by unfold tmap; rw [emap_len]; exact hl)
  unfold tmap at q
  rwa [emap_put kN_inj'] at q
abbrev nTimesE : List Str := ["goes","done","_","to","many"]
abbrev nHalvesDone : List Str := ["goes","done","begin","to","many","row"]
def spTimesE : Sp := fun vs H Q _ => ∃ (l : Addr) (bs : List Addr) (G : GoL), vs = [.ref l] ∧ H l = some (.lst (bs.map V.ref)) ∧ GoesAt H bs G ∧ G.length ≤ 100 ∧ ∀ da H', Same1 H H' → H da = none → H' da = some (.dK (tmap (timesF G))) → Q (.ref da) H'
def spHalvesDone : Sp := fun vs H Q _ => ∃ (l : Addr) (bs : List Addr) (G : GoL), vs = [.ref l] ∧ H l = some (.lst (bs.map V.ref)) ∧ GoesAt H bs G ∧ G.length ≤ 100 ∧ ∀ da H', Same1 H H' → H da = none → LeftAt H' da (leftF G) → Q (.ref da) H'
section
variable {P : Program} {w : World} {K : PySem.W.Frag} {mg : Str → Option Value} {base : Heap}
end
end DL
namespace DL
open PySem PySem.Spec L2 DLR
/-! ### a desk whose worths stand in a dict by their spots -/
structure DeskG (C : Addr) (H : Hp) (p aw as_ : Addr) (desk : Int) (said : List Int) (L : Left) : Prop where
  ins : ∃ (dx : Addr) (fs : List (Str × V)), H p = some (.ins C dx fs) ∧ fs.length ≤ 100 ∧ fs.lookup fN = some (.int desk) ∧ fs.lookup fW = some (.ref aw) ∧ fs.lookup fS = some (.ref as_) ∧ (∀ x, x ≠ fN → x ≠ fW → x ≠ fS → fs.lookup x = none)
  ws : LeftAt H aw L
  said : H as_ = some (.lst (said.map V.int))
  ne : aw ≠ as_
theorem DeskG.same {C : Addr} {H H' : Hp} {p aw as_ : Addr} {k : Int} {sd : List Int} {L : Left} (h : DeskG C H p aw as_ k sd L) (s : Same1 H H') : DeskG C H' p aw as_ k sd L := by
  obtain ⟨⟨dx, fs, h1, h2⟩, h3, h4, h5⟩ := h
  exact ⟨⟨dx, fs, s _ _ h1, h2⟩, s _ _ h3, s _ _ h4, h5⟩
theorem DeskG.put {C : Addr} {H : Hp} {p aw as_ dx : Addr} {k : Int} {sd : List Int} {L : Left} {fs : List (Str × V)} {z : Int} (h : DeskG C H p aw as_ k sd L) (e : H p = some (.ins C dx fs)) : DeskG C (upd H p (.ins C dx (putF fN (.int z) fs))) p aw as_ z sd L := by
  obtain ⟨⟨dx', fs', h1, h2, h3, h4, h5, h9⟩, h6, h7, h8⟩ := h
  rw [e] at h1
  have q := Option.some.inj h1
  injection q with q1 q2 q3
  subst q2 q3
  have nw : aw ≠ p := ne_of h6 e (by intro z; cases z)
  have ns : as_ ≠ p := ne_of h7 e (by intro z; cases z)
  refine ⟨⟨dx, putF fN (.int z) fs, upd_same, by rw [put_len2 h3]; exact h2, ?_, ?_, ?_, fun x a b c => ?_⟩, by show _ = _; rw [upd_ne nw]; exact h6, by rw [upd_ne ns]; exact h7, h8⟩
  · rw [lookup_putF, if_pos rfl]
  · rw [lookup_putF, if_neg f_NW.symm]; exact h4
  · rw [lookup_putF, if_neg f_NS.symm]; exact h5
  · rw [lookup_putF, if_neg a]; exact h9 x a b c
def deskF (k v : Int) : Row → Int
  | .load _ _ => v
  | .add _ _ => ring (k + v)
  | .take _ _ => ring (k - v)
  | _ => k
def leftU (k : Int) (L : Left) (s : Nat × Nat) : Row → Left
  | .store _ _ => setE L [s.1, s.2] k
  | _ => L
def nxtV (k : Int) (ts : List V) : Row → V
  | .stop => .non
  | .test _ _ => if k = 0 then ts.getD 0 .non else ts.getD 1 .non
  | _ => ts.getD 0 .non
def saidF (k : Int) (sd : List Int) : Row → List Int
  | .say _ => sd ++ [k]
  | _ => sd
def spDUseG (C : Addr) : Sp := fun vs H Q _ => ∃ (p aw as_ hb : Addr) (k v : Int) (sd : List Int) (L : Left) (r : Row) (s : Nat × Nat), vs = [.ref p, .str r.word, .ref hb] ∧ DeskG C H p aw as_ k sd L ∧ r.uses = true ∧ H hb = some (.tup [nI s.1, nI s.2]) ∧ getE L [s.1, s.2] = some v ∧ L.length ≤ 1000 ∧
  ∀ H', But3 p aw as_ H H' → DeskG C H' p aw as_ (deskF k v r) sd (leftU k L s r) → Q .non H'
def spDOnwardG (C : Addr) : Sp := fun vs H Q _ => ∃ (p aw as_ ra : Addr) (k : Int) (sd : List Int) (L : Left) (r : Row) (ts : List V), vs = [.ref p, .ref ra] ∧ DeskG C H p aw as_ k sd L ∧ sd.length ≤ 9000 ∧ r.uses = false ∧ H ra = some (.tup (.str r.word :: ts)) ∧ ts.length = (nx r).length ∧
  ∀ H', But3 p aw as_ H H' → DeskG C H' p aw as_ k (saidF k sd r) L → Q (nxtV k ts r) H'
def spUsesG : Sp := fun vs H Q _ => ∃ (a : Addr) (r : Row) (ts : List V), vs = [.ref a] ∧ H a = some (.tup (.str r.word :: ts)) ∧ Q (.bl r.uses) H
section
variable {P : Program} {w : World} {K : PySem.W.Frag} {mg : Str → Option Value} {base : Heap} {C0 : Addr}
theorem ok_usesG (c : FUsesWorth K mg) (Z : Pt K w mg) : FnOk P w K mg base CX0 1 c.f c.fd ["row"] spUsesG := by
  refine c.F.ok scUsesWorth (fun vs H Q E h => ?_) (fun cdv A outer s H vs Q E hr h => ?_)
  · obtain ⟨a, r, ts, rfl, _⟩ := h
    rfl
  · obtain ⟨a, r, ts, rfl, ha, k⟩ := h
    obtain ⟨t, z1, z2, z3⟩ := Z.get r
    refine ⟨_, (pss_one (ps_ret (pe_cmpR op_in_seq pe_str (pe_ix ix_kdict (pe_glob (v := .ref Z.d) rfl Z.m rfl) (pe_ix ix_tup (pv 0) pe_int (fun _ _ => rfl)) (fun _ _ => rfl)) rfl))), ?_⟩
    refine ⟨_, rfl, a, _, _, _, rfl, rfl, SqT.of ha, at0, Z.d, _, _, rfl, rfl, z2, t, _, rfl, .inr (z3 H), rfl, ?_, ?_⟩
    · rw [List.all_eq_true]
      intro x hx
      obtain ⟨y, _, rfl⟩ := List.mem_map.mp hx
      rfl
    · show Q (.bl (inV (.str "worth") (r.parts.map V.str))) H
      rw [uses_in]
      exact k
theorem ok_duseG {f : Addr} {fd : FuncData} (F : Fun K "use" "Desk.use" sDUse f fd) (cOnDesk : FOnDesk K mg) (T : Bt mg) (CD : Cd mg) (TC : Dk K mg C0) : FnOk P w K mg base CX0 2 f fd ["self", "word", "worth"] (spDUseG C0) := by
  have GOnDesk : FnOk P w K mg base CX0 1 cOnDesk.f cOnDesk.fd ["number"] spRing := ok_onDesk cOnDesk CD
  refine F.ok scDUse (fun vs H Q E h => ?_) (fun cdv A outer s H vs Q E hr h => ?_)
  · obtain ⟨p, aw, as_, hb, k, v, sd, L, r, sq, rfl, _⟩ := h
    rfl
  · obtain ⟨p, aw, as_, hb, k, v, sd, L, r, sq, rfl, hM, hu, hb1, hv, hl, kk⟩ := h
    refine ⟨_, (pss_one (ps_if (pt_cmpR op_eq (pv 1) pe_str (nomark _))
          (pss_one (ps_fld (pv 0) (pe_dget (hu_of hr) (pe_fld (pv 0) rfl) (pv 2) (fun _ _ => rfl)) rfl))
          (pss_one (ps_if (pt_cmpR op_eq (pv 1) pe_str (nomark _))
              (pss_one (ps_fld (pv 0) (pe_call GOnDesk (hr.mono (by first | omega | decide)) (by rfl) cOnDesk.m cOnDesk.F.kp cOnDesk.b .nil pass0 (pa_cons (pe_op op_add (pe_fld (pv 0) rfl) (pe_dget (hu_of hr) (pe_fld (pv 0) rfl) (pv 2) (fun _ _ => rfl))) pa_nil)) rfl))
              (pss_one (ps_if (pt_cmpR op_eq (pv 1) pe_str (nomark _))
                  (pss_one (ps_fld (pv 0) (pe_call GOnDesk (hr.mono (by first | omega | decide)) (by rfl) cOnDesk.m cOnDesk.F.kp cOnDesk.b .nil pass0 (pa_cons (pe_op op_sub (pe_fld (pv 0) rfl) (pe_dget (hu_of hr) (pe_fld (pv 0) rfl) (pv 2) (fun _ _ => rfl))) pa_nil)) rfl))
                  (pss_one (ps_dput (hu_of hr) (pe_fld (pv 0) rfl) (pv 2) (pe_fld (pv 0) rfl) rfl)))))))), ?_⟩
    obtain ⟨dx, fs, h1, h2, h3, h4, h5, h9⟩ := hM.ins
    obtain ⟨w1, w2, w3⟩ := Row.wd3 r
    have hb2 : H hb = some (.tup (([sq.1, sq.2] : List Nat).map nI)) := hb1
    have dg : DGet H aw (.ref hb) (some (.int v)) := by
      have q := LeftAt.get hM.ws hb2
      rwa [hv] at q
    refine ⟨_, rfl, rfl, r.isWd "load", rfl, ?_⟩
    cases r with
    | load x n =>
      rw [w1]
      refine iteT ⟨_, rfl, p, _, _, _, _, rfl, h1, TC.cl, TC.nW, h4, _, rfl, aw, .int v, rfl, dg, _, rfl, p, _, _, _, rfl, h1, TC.cl, TC.nN, Nat.lt_of_le_of_lt h2 (by decide), ?_⟩
      exact kk _ But3.upd1 (hM.put h1)
    | add x n =>
      rw [w1]
      refine iteF ⟨_, rfl, rfl, Row.isWd "add" (.add x n), rfl, ?_⟩
      rw [w2]
      refine iteT ⟨_, rfl, p, _, _, _, _, rfl, h1, TC.cl, TC.nN, h3, _, rfl, p, _, _, _, _, rfl, h1, TC.cl, TC.nW, h4, _, rfl, aw, .int v, rfl, dg, _, _, rfl, rfl, _, rfl, _, rfl, p, _, _, _, rfl, h1, TC.cl, TC.nN, Nat.lt_of_le_of_lt h2 (by decide), ?_⟩
      exact kk _ But3.upd1 (hM.put h1)
    | take x n =>
      rw [w1]
      refine iteF ⟨_, rfl, rfl, Row.isWd "add" (.take x n), rfl, ?_⟩
      rw [w2]
      refine iteF ⟨_, rfl, rfl, Row.isWd "take" (.take x n), rfl, ?_⟩
      rw [w3]
      refine iteT ⟨_, rfl, p, _, _, _, _, rfl, h1, TC.cl, TC.nN, h3, _, rfl, p, _, _, _, _, rfl, h1, TC.cl, TC.nW, h4, _, rfl, aw, .int v, rfl, dg, _, _, rfl, rfl, _, rfl, _, rfl, p, _, _, _, rfl, h1, TC.cl, TC.nN, Nat.lt_of_le_of_lt h2 (by decide), ?_⟩
      exact kk _ But3.upd1 (hM.put h1)
    | store x n =>
      rw [w1]
      refine iteF ⟨_, rfl, rfl, Row.isWd "add" (.store x n), rfl, ?_⟩
      rw [w2]
      refine iteF ⟨_, rfl, rfl, Row.isWd "take" (.store x n), rfl, ?_⟩
      rw [w3]
      refine iteF ?_
      refine ⟨_, rfl, p, _, _, _, _, rfl, h1, TC.cl, TC.nN, h3, _, rfl, p, _, _, _, _, rfl, h1, TC.cl, TC.nW, h4, _, rfl, aw, _, rfl, LeftAt.put hM.ws hb2 (szl (by omega)), ?_⟩
      refine kk _ But3.upd2 ⟨⟨dx, fs, by rw [upd_ne (ne_of h1 hM.ws (by intro z; cases z))]; exact h1, h2, h3, h4, h5, h9⟩, upd_same, by rw [upd_ne hM.ne.symm]; exact hM.said, hM.ne⟩
    | say n => cases hu
    | test a b => cases hu
    | stop => cases hu
theorem ok_donwardG {f : Addr} {fd : FuncData} (F : Fun K "onward" "Desk.onward" sDOnward f fd) (T : Bt mg) (TC : Dk K mg C0) : FnOk P w K mg base CX0 1 f fd ["self", "row"] (spDOnwardG C0) := by
  refine F.ok scDOnward (fun vs H Q E h => ?_) (fun cdv A outer s H vs Q E hr h => ?_)
  · obtain ⟨p, aw, as_, ra, k, sd, L, r, ts, rfl, _⟩ := h
    rfl
  · obtain ⟨p, aw, as_, ra, k, sd, L, r, ts, rfl, hM, hS, hu, hra, hts, kk⟩ := h
    refine ⟨_, (pss_cons (ps_if (pt_cmpR op_eq (pe_ix ix_tup (pv 1) pe_int (fun _ _ => rfl)) pe_str (nomark _))
          (pss_one (ps_ret pe_non))
          pss_nil)
      (pss_cons (ps_if (pt_cmpR op_eq (pe_ix ix_tup (pv 1) pe_int (fun _ _ => rfl)) pe_str (nomark _))
          (pss_one (ps_ret (pe_ifExp (pt_cmpR op_eq (pe_fld (pv 0) rfl) pe_int (nomark _)) (pe_ix ix_tup (pv 1) pe_int (fun _ _ => rfl)) (pe_ix ix_tup (pv 1) pe_int (fun _ _ => rfl)))))
          pss_nil)
      (pss_cons (ps_expr (pe_bm PySem.F.plainAttrs_list PySem.F.slot_list_append PySem.F.type_list_append mt_append (pe_fld (pv 0) rfl) (pa_cons (pe_fld (pv 0) rfl) pa_nil)))
      (pss_one (ps_ret (pe_ix ix_tup (pv 1) pe_int (fun _ _ => rfl))))))), ?_⟩
    obtain ⟨dx, fs, h1, h2, h3, h4, h5, h9⟩ := hM.ins
    obtain ⟨w1, w2, w3, w4⟩ := Row.wd_eq r
    refine ⟨_, rfl, ra, _, _, _, rfl, rfl, SqT.of hra, at0, rfl, r.isWd "stop", rfl, ?_⟩
    cases r with
    | load w n => cases hu
    | add w n => cases hu
    | take w n => cases hu
    | store w n => cases hu
    | say n =>
      obtain ⟨t, rfl⟩ : ∃ t, ts = [t] := by
        match ts, hts with
        | [t], _ => exact ⟨t, rfl⟩
      rw [w4]
      refine iteF ⟨_, rfl, ra, _, _, _, rfl, rfl, SqT.of hra, at0, rfl, Row.isWd "test" (.say n), rfl, ?_⟩
      rw [w1]
      refine iteF ⟨_, rfl, p, _, _, _, _, rfl, h1, TC.cl, TC.nS, h5, .inl ⟨rfl, _, SqL.of hM.said⟩, _, rfl, p, _, _, _, _, rfl, h1, TC.cl, TC.nN, h3, as_, _, _, rfl, rfl, hM.said, szl (by rw [List.length_map]; omega), ?_⟩
      have hra2 : (upd H as_ (.lst (sd.map V.int ++ [.int k]))) ra = some (.tup [.str (Row.word (.say n)), t]) := by
        rw [upd_ne (ne_of hra hM.said (by intro z; cases z))]; exact hra
      refine ⟨_, rfl, ra, _, _, _, rfl, rfl, SqT.of hra2, at1, kk _ But3.upd3 ⟨⟨dx, fs, by rw [upd_ne (ne_of h1 hM.said (by intro z; cases z))]; exact h1, h2, h3, h4, h5, h9⟩, by show _ = _; rw [upd_ne hM.ne]; exact hM.ws, ?_, hM.ne⟩⟩
      rw [upd_same]
      show _ = some (HO.lst ((sd ++ [k]).map V.int))
      rw [List.map_append]
      rfl
    | test a b =>
      obtain ⟨t, u, rfl⟩ : ∃ t u, ts = [t, u] := by
        match ts, hts with
        | [t, u], _ => exact ⟨t, u, rfl⟩
      rw [w4]
      refine iteF ⟨_, rfl, ra, _, _, _, rfl, rfl, SqT.of hra, at0, rfl, Row.isWd "test" (.test a b), rfl, ?_⟩
      rw [w1]
      refine iteT ⟨_, rfl, p, _, _, _, _, rfl, h1, TC.cl, TC.nN, h3, rfl, _, rfl, ?_⟩
      by_cases c : k = 0
      · rw [decide_eq_true (show V.int k = V.int 0 by rw [c])]
        refine iteT ⟨_, rfl, ra, _, _, _, rfl, rfl, SqT.of hra, at1, ?_⟩
        have q := kk _ (But3.of (Same.refl _)) hM
        have e : nxtV k [t, u] (.test a b) = t := by show (if k = 0 then t else u) = _; rw [if_pos c]
        rw [e] at q
        exact q
      · rw [decide_eq_false (show ¬ V.int k = V.int 0 from fun z => c (V.int.inj z))]
        refine iteF ⟨_, rfl, ra, _, _, _, rfl, rfl, SqT.of hra, at2, ?_⟩
        have q := kk _ (But3.of (Same.refl _)) hM
        have e : nxtV k [t, u] (.test a b) = u := by show (if k = 0 then t else u) = _; rw [if_neg c]
        rw [e] at q
        exact q
    | stop =>
      rw [w4]
      exact iteT (kk _ (But3.of (Same.refl _)) hM)
end
end DL
namespace DL
open PySem PySem.Spec L2 DLR
/-! ### a row that is done where it stands on the drum -/
abbrev sStepD : Stmt := top 48
abbrev nStepD : List Str := ["desk","row","read","wide","word","homes","to","used","place","_","under_head","beat","home"]
abbrev FStepD (K : Frg) (mg : Str → Option Value) := Fd K mg "step_on_drum" sStepD ["desk","row","read","wide"]
def spBeatsOfUseL : Sp := fun vs H Q _ => ∃ (x : Str) (a : Addr) (us : List Nat) (read : Int) (W : Nat), vs = [.str x, .ref a, .int read, .int (W : Int)] ∧ H a = some (.lst (us.map nI)) ∧ us.length ≤ 3 ∧ 0 < W ∧
  ∀ q ms H', Same1 H H' → H q = none → H' q = some (.lst (ms.map V.int)) → UseL (decide (V.str x = V.str "store")) us read W ms → Q (.ref q) H'
def storeL (k : Int) (L : Left) (q : List (Nat × Nat)) : Row → Left
  | .store _ _ => q.foldl (fun L s => setE L [s.1, s.2] k) L
  | _ => L
def spStepD (C : Addr) : Sp := fun vs H Q _ => ∃ (p aw as_ a : Addr) (k read : Int) (sd : List Int) (L : Left) (r : Row) (y : Lay), vs = [.ref p, .ref a, .int read, nI y.wide] ∧ DeskG C H p aw as_ k sd L ∧ sd.length ≤ 9000 ∧ L.length ≤ 900 ∧ 2 ≤ y.wide ∧
  ((r.uses = false ∧ ∃ ts : List V, H a = some (.tup (.str r.word :: ts)) ∧ ts.length = (nx r).length ∧ ∀ t H', But3 p aw as_ H H' → DeskG C H' p aw as_ k (saidF k sd r) L → H' t = some (.tup [nxtV k ts r, .int (read + work r + 1)]) → Q (.ref t) H') ∨
   (r.uses = true ∧ ∃ (hb : Addr) (us : List Addr) (q : List (Nat × Nat)) (v : Int) (tv : V), H a = some (.tup [.str r.word, .ref hb, tv]) ∧ H hb = some (.tup (us.map V.ref)) ∧ SpotsAt H us q ∧ HomeOk y.wide (q.map (·.1)) ∧ y.homes.getD r.wor [] = q.map (·.1) ∧ (∀ s ∈ q, getE L [s.1, s.2] = some v) ∧
    ∀ t H', But3 p aw as_ H H' → DeskG C H' p aw as_ (deskF k v r) sd (storeL k L q r) → H' t = some (.tup [tv, .int (behindF y r read)]) → Q (.ref t) H'))
theorem But3.same {a b c : Addr} {H H' : Hp} (s : Same1 H H') : But3 a b c H H' := fun x o _ _ _ e => s x o e
theorem But3.tr {a b c : Addr} {H H1 H2 : Hp} (s : But3 a b c H H1) (t : But3 a b c H1 H2) : But3 a b c H H2 := fun x o n1 n2 n3 e => t x o n1 n2 n3 (s x o n1 n2 n3 e)
theorem DeskG.kp {C : Addr} {H H' : Hp} {p aw as_ : Addr} {k : Int} {sd : List Int} {L : Left} (h : DeskG C H p aw as_ k sd L) (b : But3 p aw as_ H H') : Kp H H' := by
  obtain ⟨⟨dx, fs, h1, _⟩, h3, h4, _⟩ := h
  intro x xs e
  exact b _ _ (ne_of e h1 (by intro z; cases z)) (ne_of e h3 (by intro z; cases z)) (ne_of e h4 (by intro z; cases z)) e
def hitF (v : Int) (r : Row) (hd : Nat → Bool) (q : List (Nat × Nat)) (S : Int × Left) : Int × Left := q.foldl (fun S s => if hd s.1 = true then (deskF S.1 v r, leftU S.1 S.2 s r) else S) S
theorem hit_none {v : Int} {r : Row} {hd : Nat → Bool} : ∀ {q : List (Nat × Nat)} {S : Int × Left}, (∀ s ∈ q, hd s.1 = false) → hitF v r hd q S = S
  | [], _, _ => rfl
  | s :: q, S, h => by
    show hitF v r hd q (if hd s.1 = true then _ else S) = S
    rw [h s List.mem_cons_self, if_neg (by decide)]
    exact hit_none fun z hz => h z (List.mem_cons_of_mem _ hz)
theorem hit_one {v : Int} {r : Row} {h0 : Nat} : ∀ {q : List (Nat × Nat)} {S : Int × Left}, (q.map (·.1)).Nodup → h0 ∈ q.map (·.1) → (∀ (L : Left) (k : Int) s, leftU k L s r = L) → hitF v r (fun x => decide (x = h0)) q S = (deskF S.1 v r, S.2)
  | [], _, _, h, _ => by cases h
  | s :: q, S, nd, h, hl => by
    obtain ⟨n1, n2⟩ := List.nodup_cons.mp (show (s.1 :: q.map (·.1)).Nodup from nd)
    show hitF v r (fun x => decide (x = h0)) q (if decide (s.1 = h0) = true then (deskF S.1 v r, leftU S.1 S.2 s r) else S) = _
    by_cases e : s.1 = h0
    · rw [if_pos (decide_eq_true e), hl]
      exact hit_none fun z hz => decide_eq_false fun z2 => n1 (by rw [e, ← z2]; exact List.mem_map.mpr ⟨z, hz, rfl⟩)
    · rw [if_neg (by rw [decide_eq_false e]; decide)]
      exact hit_one n2 ((List.mem_cons.mp h).elim (fun z => absurd z.symm e) id) hl
theorem hit_all {v : Int} {x n : Nat} {hd : Nat → Bool} : ∀ {q : List (Nat × Nat)} {k : Int} {L : Left}, (∀ s ∈ q, hd s.1 = true) → hitF v (.store x n) hd q (k, L) = (k, q.foldl (fun L s => setE L [s.1, s.2] k) L)
  | [], _, _, _ => rfl
  | s :: q, k, L, h => by
    show hitF v (.store x n) hd q (if hd s.1 = true then (deskF k v (.store x n), leftU k L s (.store x n)) else (k, L)) = _
    rw [h s List.mem_cons_self, if_pos rfl]
    exact hit_all fun z hz => h z (List.mem_cons_of_mem _ hz)
theorem inV_int (j : Nat) : ∀ L : List Int, inV (nI j) (L.map V.int) = decide ((j : Int) ∈ L)
  | [] => rfl
  | x :: L => by
    show (eqV (V.int x) (nI j) || inV (nI j) (L.map V.int)) = _
    rw [inV_int j L]
    show ((x == (j : Int)) || _) = _
    by_cases e : x = (j : Int)
    · subst e; simp
    · have e1 : (x == (j : Int)) = false := beq_eq_false_iff_ne.mpr e
      rw [e1, Bool.false_or]
      refine decide_eq_decide.mpr ?_
      rw [List.mem_cons]
      exact ⟨.inr, fun z => z.resolve_left fun q => e q.symm⟩
def isStore : Row → Bool
  | .store _ _ => true
  | _ => false
theorem hit_inv {v : Int} {r : Row} {hd : Nat → Bool} : ∀ {q : List (Nat × Nat)} {S : Int × Left}, (∀ K, (getE (hitF v r hd q S).2 K).isSome = (getE S.2 K).isSome ∨ ∃ s ∈ q, K = [s.1, s.2]) ∧ (∀ K, (getE S.2 K).isSome = true → (getE (hitF v r hd q S).2 K).isSome = true) ∧ (isStore r = false → (hitF v r hd q S).2 = S.2) ∧ (hitF v r hd q S).2.length ≤ S.2.length + q.length
  | [], S => ⟨fun K => .inl rfl, fun K h => h, fun _ => rfl, Nat.le_refl _⟩
  | s :: q, S => by
    obtain ⟨S', hS'⟩ : ∃ S', S' = if hd s.1 = true then (deskF S.1 v r, leftU S.1 S.2 s r) else S := ⟨_, rfl⟩
    have e : hitF v r hd (s :: q) S = hitF v r hd q S' := by rw [hS']; rfl
    obtain ⟨a1, a2, a3, a4⟩ := hit_inv (v := v) (r := r) (hd := hd) (q := q) (S := S')
    have l : (∀ K, (getE S'.2 K).isSome = (getE S.2 K).isSome ∨ K = [s.1, s.2]) ∧ (∀ K, (getE S.2 K).isSome = true → (getE S'.2 K).isSome = true) ∧ (isStore r = false → S'.2 = S.2) ∧ S'.2.length ≤ S.2.length + 1 := by
      rw [hS']
      by_cases c : hd s.1 = true
      · rw [if_pos c]
        cases r with
        | store x n =>
          refine ⟨fun K => ?_, fun K h => ?_, fun z => (by cases z), (setE_len _ _ _).1⟩
          · show (getE (setE S.2 [s.1, s.2] S.1) K).isSome = _ ∨ _
            rw [getE_setE]
            by_cases e : [s.1, s.2] = K
            · exact .inr e.symm
            · rw [if_neg e]; exact .inl rfl
          · show (getE (setE S.2 [s.1, s.2] S.1) K).isSome = true
            rw [getE_setE]
            by_cases e : [s.1, s.2] = K
            · rw [if_pos e]; rfl
            · rw [if_neg e]; exact h
        | _ => exact ⟨fun K => .inl rfl, fun K h => h, fun _ => rfl, Nat.le_succ _⟩
      · rw [if_neg c]
        exact ⟨fun K => .inl rfl, fun K h => h, fun _ => rfl, Nat.le_succ _⟩
    rw [e]
    refine ⟨fun K => ?_, fun K h => a2 K (l.2.1 K h), fun h => (a3 h).trans (l.2.2.1 h), by have := l.2.2.2; rw [List.length_cons]; omega⟩
    rcases a1 K with q1 | ⟨z, hz, q1⟩
    · rcases l.1 K with q2 | q2
      · exact .inl (q1.trans q2)
      · exact .inr ⟨s, List.mem_cons_self, q2⟩
    · exact .inr ⟨z, List.mem_cons_of_mem _ hz, q1⟩
theorem hit_snoc {v : Int} {r : Row} {hd : Nat → Bool} {q : List (Nat × Nat)} {s : Nat × Nat} {S : Int × Left} : hitF v r hd (q ++ [s]) S = if hd s.1 = true then (deskF (hitF v r hd q S).1 v r, leftU (hitF v r hd q S).1 (hitF v r hd q S).2 s r) else hitF v r hd q S := by
  unfold hitF
  rw [List.foldl_append]
  rfl
section
variable {P : Program} {w : World} {K : PySem.W.Frag} {mg : Str → Option Value} {base : Heap} {C0 : Addr}
theorem ok_beatsOfUseL (c : FBeatsOfUse K mg) (cFirstBeat : FFirstBeat K mg) (T : Bt mg) : FnOk P w K mg base CX0 2 c.f c.fd ["word", "places", "read", "wide"] spBeatsOfUseL := by
  have GFirstBeat : FnOk P w K mg base CX0 1 cFirstBeat.f cFirstBeat.fd ["now", "place", "wide"] spFirstBeat := ok_firstBeat cFirstBeat
  refine c.F.ok scBeatsOfUse (fun vs H Q E h => ?_) (fun cdv A outer s H vs Q E hr h => ?_)
  · obtain ⟨x, a, us, read, W, rfl, _⟩ := h
    rfl
  · obtain ⟨x, a, us, read, W, rfl, ha, l3, w0, k⟩ := h
    refine ⟨_, (pss_cons (ps_set (i := 4) scBeatsOfUse.nd rfl (Or.inl rfl) (pe_callB cr_sortedI (by rfl) T.sorted (by decide +kernel) (pa_cons (pe_lc (own := [("place", 5)]) (g := gName 5) (tt := tYes) rfl scBeatsOfUse.nd (pi_list (pv 1)) (blkOk_by (N := nBeatsOfUse) (sc := defScope sBeatsOfUse) (by decide +kernel)) (fun _ _ _ _ _ => (pg_name (i := 5) scBeatsOfUse.nd rfl (Or.inl rfl))) (fun _ _ _ _ _ => pts_nil) (fun _ _ _ _ _ => (pe_call GFirstBeat (hr.mono (by first | omega | decide)) (by rfl) cFirstBeat.m cFirstBeat.F.kp cFirstBeat.b .nil pass0 (pa_cons (pe_op op_add (pv 2) pe_int) (pa_cons (pv 5) (pa_cons (pv 3) pa_nil)))))) pa_nil)))
      (pss_cons (ps_if (pt_cmpR op_eq (pv 0) pe_str (nomark _))
          (pss_one (ps_ret (pv 4)))
          pss_nil)
      (pss_one (ps_ret (pe_slice sl_list (pv 4) po_none (po_some pe_int)))))), ?_⟩
    refine ⟨_, rfl, a, rfl, ⟨_, SqL.of ha⟩, fun D hD => ?_⟩
    refine lc_list (K := K) (a := a) (xs := us.map nI) (fun i H' => Same1 H H' ∧ H' D = some (.lst (((comesL us read W).take i).map V.int))) ⟨Same.new hD, upd_same⟩ (fun i H' _ ⟨q, _⟩ => SqL.of (q _ _ ha)) ?_ ?_
    · rintro i z H1 hi ⟨s1, hD1⟩
      rw [List.getElem?_map] at hi
      cases hz : us[i]? with
      | none => rw [hz] at hi; cases hi
      | some h =>
        rw [hz] at hi
        have e : nI h = z := Option.some.inj hi
        subst e
        have hil := (List.getElem?_eq_some_iff.mp hz).1
        refine ⟨rfl, _, rfl, _, _, rfl, rfl, _, rfl, _, rfl, read + 1, h, W, rfl, w0, ?_⟩
        refine ⟨_, hD1, szl (by rw [List.length_map, List.length_take]; omega), Same.mut s1 hD, ?_⟩
        rw [upd_same, List.take_add_one]
        unfold comesL
        rw [List.getElem?_map, hz, List.map_append]
        rfl
    · rintro H1 ⟨s1, hD1⟩
      have hcl : (comesL us read W).length = us.length := by unfold comesL; rw [List.length_map]
      rw [List.length_map, ← hcl, List.take_length] at hD1
      refine ⟨D, _, rfl, SqL.of hD1, fun ns q pm up hq => ?_⟩
      have hnl : ns.length ≤ 3 := by rw [pm.length_eq, hcl]; exact l3
      refine alloc hq fun H2 s2 e2 => ?_
      refine ⟨_, rfl, rfl, _, rfl, ?_⟩
      cases hs : decide (V.str x = V.str "store") with
      | true =>
        rw [hs] at k
        exact iteT ⟨_, rfl, k q ns H2 (s1.trans s2) (s1.free hq) e2 ⟨ns, pm, up, rfl⟩⟩
      | false =>
        rw [hs] at k
        refine iteF ⟨_, rfl, _, rfl, q, _, rfl, SqL.of e2, fun t ht => ?_⟩
        refine alloc ht fun H3 s3 e3 => ?_
        refine k t (ns.take 1) H3 ((s1.trans s2).trans s3) (s1.free (s2.free ht)) ?_ ⟨ns, pm, up, rfl⟩
        rw [e3, cut1 hnl]
theorem scStepD : FnScope nStepD ["desk","row","read","wide"] (defScope sStepD) := ⟨rfl, rfl, rfl, by decide +kernel, rfl, by decide +kernel, by decide +kernel⟩
theorem ok_stepD (c : FStepD K mg) {fu : Addr} {fdu : FuncData} {fo : Addr} {fdo : FuncData} (FU : Fun K "use" "Desk.use" sDUse fu fdu) (mUse : Meth K C0 "use" fu) (bUse : Binds K fdu ["self", "word", "worth"] [])
    (FO : Fun K "onward" "Desk.onward" sDOnward fo fdo) (mOnward : Meth K C0 "onward" fo) (bOnward : Binds K fdo ["self", "row"] []) (cOnDesk : FOnDesk K mg) (cUsesWorth : FUsesWorth K mg) (cBeatsOfUse : FBeatsOfUse K mg) (cFirstBeat : FFirstBeat K mg) (T : Bt mg) (CD : Cd mg) (Z : Pt K w mg) (ZW : Pw K w mg) (TC : Dk K mg C0) :
    FnOk P w K mg base CX0 3 c.f c.fd ["desk","row","read","wide"] (spStepD C0) := by
  have GUse : FnOk P w K mg base CX0 2 fu fdu ["self", "word", "worth"] (spDUseG C0) := ok_duseG FU cOnDesk T CD TC
  have GOnward : FnOk P w K mg base CX0 1 fo fdo ["self", "row"] (spDOnwardG C0) := ok_donwardG FO T TC
  have GUsesWorth : FnOk P w K mg base CX0 1 cUsesWorth.f cUsesWorth.fd ["row"] spUsesG := ok_usesG cUsesWorth Z
  have GBeatsOfUse : FnOk P w K mg base CX0 2 cBeatsOfUse.f cBeatsOfUse.fd ["word", "places", "read", "wide"] spBeatsOfUseL := ok_beatsOfUseL cBeatsOfUse cFirstBeat T
  refine c.F.ok scStepD (fun vs H Q E h => ?_) (fun cdv A outer s H vs Q E hr h => ?_)
  · obtain ⟨p, aw, as_, a, k, read, sd, L, r, y, rfl, _⟩ := h
    rfl
  · obtain ⟨p, aw, as_, a, k, read, sd, L, r, y, rfl, hM, hS, hL, w2, h⟩ := h
    refine ⟨_, (pss_cons (ps_if (pt_not (pt_val (pe_call GUsesWorth (hr.mono (by first | omega | decide)) (by rfl) cUsesWorth.m cUsesWorth.F.kp cUsesWorth.b .nil pass0 (pa_cons (pv 1) pa_nil))))
          (pss_one (ps_ret (pe_tup (pa_cons (pe_meth (pv 0) TC.cl mOnward GOnward (hr.mono (by first | omega | decide)) bOnward .nil pass0 (pa_cons (pv 1) pa_nil)) (pa_cons (pe_op op_add (pe_op op_add (pv 2) (pe_ix ix_kdict (pe_glob (v := .ref ZW.d) rfl ZW.m rfl) (pe_ix ix_tup (pv 1) pe_int (fun _ _ => rfl)) (fun _ _ => rfl))) pe_int) pa_nil)))))
          pss_nil)
      (pss_cons (ps_asg (pv 1) (pg_tup rfl (pgs_cons (pg_name (i := 4) scStepD.nd rfl (Or.inl rfl)) (pgs_cons (pg_name (i := 5) scStepD.nd rfl (Or.inl rfl)) (pgs_cons (pg_name (i := 6) scStepD.nd rfl (Or.inl rfl)) pgs_nil)))))
      (pss_cons (ps_set (i := 7) scStepD.nd rfl (Or.inl rfl) (pe_call GBeatsOfUse (hr.mono (by first | omega | decide)) (by rfl) cBeatsOfUse.m cBeatsOfUse.F.kp cBeatsOfUse.b .nil pass0 (pa_cons (pv 4) (pa_cons (pe_lc (own := [("place", 8), ("_", 9)]) (g := gTup K 2 (gCons (gName 8) (gCons (gName 9) gNil))) (tt := tYes) rfl scStepD.nd (pi_tup (pv 5)) (blkOk_by (N := nStepD) (sc := defScope sStepD) (by decide +kernel)) (fun _ _ _ _ _ => (pg_tupK K rfl rfl (pgs_cons (pg_name (i := 8) scStepD.nd rfl (Or.inl rfl)) (pgs_cons (pg_name (i := 9) scStepD.nd rfl (Or.inl rfl)) pgs_nil)))) (fun _ _ _ _ _ => pts_nil) (fun _ _ _ _ _ => (pv 8))) (pa_cons (pv 2) (pa_cons (pv 3) pa_nil))))))
      (pss_cons (ps_setLc (i := 10) (own := [("beat", 11)]) (g := gName 11) (tt := tYes) rfl scStepD.nd rfl rfl (sw_true rfl rfl rfl (by decide +kernel)) (pi_list (pv 7)) (blkOk_by (N := nStepD) (sc := defScope sStepD) (by decide +kernel)) (fun _ _ _ _ _ => (pg_name (i := 11) scStepD.nd rfl (Or.inl rfl))) (fun _ _ _ _ _ => pts_nil) (fun _ _ _ _ _ => (pe_op op_mod (pv 11) (pv 3))))
      (pss_cons (ps_for PassesOwn.never rfl (pi_tup (pv 5)) (pg_name (i := 12) scStepD.nd rfl (Or.inl rfl))
          (pss_one (ps_if (pt_cmpR op_in_seq (pe_ix ix_tup (pv 12) pe_int (fun _ _ => rfl)) (pv 10) rfl)
              (pss_one (ps_expr (pe_meth (pv 0) TC.cl mUse GUse (hr.mono (by first | omega | decide)) bUse .nil pass0 (pa_cons (pv 4) (pa_cons (pv 12) pa_nil)))))
              pss_nil)))
      (pss_one (ps_ret (pe_tup (pa_cons (pv 6) (pa_cons (pe_op op_add (pe_op op_add (pe_ix ix_list (pv 7) (pe_un un_neg pe_int) (fun _ _ => rfl)) (pe_ix ix_kdict (pe_glob (v := .ref ZW.d) rfl ZW.m rfl) (pv 4) (fun _ _ => rfl))) pe_int) pa_nil)))))))))), ?_⟩
    obtain ⟨dx, fs, h1, h2, h3, h4, h5, h9⟩ := hM.ins
    rcases h with ⟨hu, ts, ha, hts, kk⟩ | ⟨hu, hb, us, q, v, tv, ha, hhb, hus, hok, hy, hv, kk⟩
    · refine ⟨_, rfl, a, r, ts, rfl, ha, _, rfl, ?_⟩
      rw [hu]
      refine iteT ?_
      refine ⟨_, rfl, p, dx, fs, rfl, h1, h9 _ (by decide +kernel) (by decide +kernel) (by decide +kernel), _, rfl, p, aw, as_, a, k, sd, L, r, ts, rfl, hM, hS, hu, ha, hts, fun H1 b1 m1 => ?_⟩
      have ha1 := hM.kp b1 _ _ ha
      refine ⟨_, rfl, _, rfl, a, _, _, _, rfl, rfl, SqT.of ha1, at0, ZW.d, _, _, rfl, rfl, ZW.get r, _, _, rfl, rfl, _, _, rfl, rfl, (by show 2 ≤ sizeLine; decide), fun t ht => ?_⟩
      refine alloc ht fun H2 s2 e2 => ?_
      exact kk t H2 (b1.tr (But3.same s2)) (m1.same s2) e2
    · refine ⟨_, rfl, a, r, _, rfl, ha, _, rfl, ?_⟩
      rw [hu]
      refine iteF ?_
      dsimp only [tNext]
      have l1 := hok.l1
      have l3 := hok.l3
      rw [List.length_map] at l1 l3
      have w0 : 0 < y.wide := by omega
      have hul := Paired.length hus
      refine ⟨_, rfl, a, _, rfl, SqT.of ha, rfl, _, _, rfl, _, _, rfl, _, _, rfl, rfl, ?_⟩
      dsimp only
      refine ⟨_, rfl, _, rfl, hb, rfl, ⟨_, SqT.of hhb⟩, fun D hD => ?_⟩
      refine lc_tup (K := K) (a := hb) (xs := us.map V.ref) (fun i H' => Same1 H H' ∧ H' D = some (.lst (((q.map (·.1)).take i).map nI))) ⟨Same.new hD, upd_same⟩ (fun i H' _ ⟨z, _⟩ => SqT.of (z _ _ hhb)) ?_ ?_
      · rintro i x H1 hi ⟨s1, d1⟩
        have hic : i < us.length := by
          have z := (List.getElem?_eq_some_iff.mp hi).1
          rwa [List.length_map] at z
        have ex : x = .ref us[i] := by
          rw [List.getElem?_map, List.getElem?_eq_getElem hic] at hi
          exact (Option.some.inj hi).symm
        subst ex
        obtain ⟨sq, hq1, hq2⟩ := Paired.get hus (List.getElem?_eq_getElem hic)
        refine ⟨us[i], _, rfl, SqT.of (s1 _ _ hq2), rfl, _, _, rfl, _, _, rfl, rfl, ?_⟩
        refine ⟨rfl, _, rfl, _, d1, szl (by rw [List.length_map, List.length_take, List.length_map]; omega), Same.mut s1 hD, ?_⟩
        rw [upd_same, take_snoc (show (q.map (·.1))[i]? = some sq.1 by rw [List.getElem?_map, hq1]; rfl), List.map_append]
        rfl
      rintro H1 ⟨s1, d1⟩
      rw [List.length_map, hul, ← List.length_map (as := q) (f := (·.1)), List.take_length] at d1
      refine ⟨_, rfl, _, rfl, r.word, D, q.map (·.1), read, y.wide, rfl, d1, by rw [List.length_map]; exact l3, w0, fun ul ms H2 s2 nul eul hU => ?_⟩
      dsimp only [gName]
      have S2 := s1.trans s2
      have msl : ms.length ≤ 3 := by
        obtain ⟨ns, pm, _, rfl⟩ := hU
        have e := pm.length_eq
        unfold comesL at e
        rw [List.length_map, List.length_map] at e
        split
        · omega
        · rw [List.length_take]; omega
      refine ⟨_, rfl, ul, rfl, ⟨_, SqL.of eul⟩, fun D2 hD2 => ?_⟩
      refine lc_list (K := K) (a := ul) (xs := ms.map V.int) (fun i H' => Same1 H2 H' ∧ H' D2 = some (.lst (((ms.take i).map (· % (y.wide : Int))).map V.int))) ⟨Same.new hD2, upd_same⟩ (fun i H' _ ⟨z, _⟩ => SqL.of (z _ _ eul)) ?_ ?_
      · rintro i x H3 hi ⟨s3, d3⟩
        rw [List.getElem?_map] at hi
        cases hz : ms[i]? with
        | none => rw [hz] at hi; cases hi
        | some b =>
          rw [hz] at hi
          have e : V.int b = x := Option.some.inj hi
          subst e
          refine ⟨rfl, _, rfl, _, rfl, _, _, rfl, rfl, (show (0 : Int) < (y.wide : Int) by omega), _, d3, szl (by rw [List.length_map, List.length_map, List.length_take]; omega), Same.mut s3 hD2, ?_⟩
          rw [upd_same, take_snoc hz, List.map_append, List.map_append]
          rfl
      rintro H3 ⟨s3, d3⟩
      rw [List.length_map, List.take_length] at d3
      dsimp only [gName]
      have S3 := S2.trans s3
      have hM3 := hM.same S3
      have nD2 : H D2 = none := S2.free hD2
      have nDp : D2 ≠ p := (ne_of_none h1 nD2).symm
      have nDw : D2 ≠ aw := (ne_of_none hM.ws nD2).symm
      have nDs : D2 ≠ as_ := (ne_of_none hM.said nD2).symm
      have nup : ul ≠ p := (ne_of_none h1 (s1.free nul)).symm
      have nuw : ul ≠ aw := (ne_of_none hM.ws (s1.free nul)).symm
      have nus : ul ≠ as_ := (ne_of_none hM.said (s1.free nul)).symm
      obtain ⟨hd, hhd⟩ : ∃ hd : Nat → Bool, hd = fun x : Nat => decide ((x : Int) ∈ ms.map (· % (y.wide : Int))) := ⟨_, rfl⟩
      refine ⟨_, rfl, hb, rfl, ⟨_, SqT.of (S3 _ _ hhb)⟩, ?_⟩
      refine for_tup (K := K) (a := hb) (xs := us.map V.ref) (fun i σ H' => ∃ x12 : Option V, σ = [some (.ref p), some (.ref a), some (.int read), some (nI y.wide), some (.str r.word), some (.ref hb), some tv, some (.ref ul), none, none, some (.ref D2), none, x12] ∧ But3 p aw as_ H3 H' ∧ DeskG C0 H' p aw as_ (hitF v r hd (q.take i) (k, L)).1 sd (hitF v r hd (q.take i) (k, L)).2)
        ⟨none, rfl, But3.of (Same.refl _), hM3⟩ (fun i σ H' _ ⟨_, _, z, m⟩ => SqT.of (hM3.kp z _ _ (S3 _ _ hhb))) ?_ ?_
      · rintro i x σ H4 hi ⟨x12, rfl, b4, m4⟩
        have hic : i < us.length := by
          have z := (List.getElem?_eq_some_iff.mp hi).1
          rwa [List.length_map] at z
        have ex : x = .ref us[i] := by
          rw [List.getElem?_map, List.getElem?_eq_getElem hic] at hi
          exact (Option.some.inj hi).symm
        subst ex
        obtain ⟨sq, hq1, hq2⟩ := Paired.get hus (List.getElem?_eq_getElem hic)
        have hq4 := hM3.kp b4 _ _ (S3 _ _ hq2)
        have d4 := b4 _ _ nDp nDw nDs d3
        dsimp only [gName]
        refine ⟨_, rfl, us[i], _, _, _, rfl, rfl, SqT.of hq4, at0, _, rfl, D2, _, rfl, .inl (SqL.of d4), rfl, ?_, _, rfl, ?_⟩
        · rw [List.all_eq_true]
          intro z hz
          obtain ⟨_, _, rfl⟩ := List.mem_map.mp hz
          rfl
        rw [if_neg (by decide)]
        have hin : inV (nI sq.1) ((ms.map (· % (y.wide : Int))).map V.int) = hd sq.1 := by
          rw [hhd]
          exact inV_int _ _
        rw [hin, take_snoc hq1, hit_snoc]
        cases hh : hd sq.1 with
        | false => exact iteF ⟨_, rfl, b4, m4⟩
        | true =>
          refine iteT ?_
          rw [if_pos rfl]
          obtain ⟨i1, i2, i3, i4⟩ := hit_inv (v := v) (r := r) (hd := hd) (q := q.take i) (S := (k, L))
          have hsome := i2 [sq.1, sq.2] (by show (getE L [sq.1, sq.2]).isSome = true; rw [hv sq (List.mem_of_getElem? hq1)]; rfl)
          obtain ⟨v', hv'⟩ := Option.isSome_iff_exists.mp hsome
          have hvv : deskF (hitF v r hd (q.take i) (k, L)).1 v' r = deskF (hitF v r hd (q.take i) (k, L)).1 v r := by
            cases hst : isStore r with
            | true => cases r <;> first | rfl | cases hst
            | false =>
              have e := hv sq (List.mem_of_getElem? hq1)
              rw [i3 hst] at hv'
              have z : some v' = some v := hv'.symm.trans e
              rw [Option.some.inj z]
          obtain ⟨dx4, fs4, g1, g2, g3, g4, g5, g9⟩ := m4.ins
          have ll : (hitF v r hd (q.take i) (k, L)).2.length ≤ 1000 := by
            rw [List.length_take] at i4
            have i4 : (hitF v r hd (q.take i) (k, L)).2.length ≤ L.length + min i q.length := i4
            omega
          refine ⟨_, rfl, p, dx4, fs4, rfl, g1, g9 _ (by decide +kernel) (by decide +kernel) (by decide +kernel), _, rfl, _, rfl, p, aw, as_, us[i], _, v', sd, _, r, sq, rfl, m4, hu, hq4, hv', ll, fun H5 b5 m5 => ?_⟩
          rw [hvv] at m5
          exact ⟨_, rfl, b4.tr b5, m5⟩
      · rintro σ H4 ⟨x12, rfl, b4, m4⟩
        rw [List.length_map, hul, List.take_length] at m4
        have u4 := b4 _ _ nup nuw nus (s3 _ _ eul)
        have st : decide (V.str r.word = V.str "store") = isStore r := by
          refine (Row.wd_eq r).2.1.trans ?_
          cases r <;> rfl
        have hlast := useL_last hU (by rw [List.length_map]; exact l1)
        rw [st] at hlast hU
        have huse : (if isStore r = true then maxL (comesL (q.map (·.1)) read y.wide) else minL (comesL (q.map (·.1)) read y.wide)) = useF y read r := by
          rw [← hy]
          cases r <;> first | rfl | cases hu
        rw [huse] at hlast
        refine ⟨_, rfl, _, rfl, _, rfl, ul, _, _, _, rfl, rfl, SqL.of u4, hlast, _, rfl, ZW.d, _, _, rfl, rfl, ZW.get r, _, _, rfl, rfl, _, _, rfl, rfl, (by show 2 ≤ sizeLine; decide), fun t ht => ?_⟩
        refine alloc ht fun H5 s5 e5 => ?_
        have fin : (hitF v r hd q (k, L)) = (deskF k v r, storeL k L q r) := by
          have nd : (q.map (·.1)).Nodup := hok.up.imp fun {a b} h => Nat.ne_of_lt h
          obtain ⟨ns, pm, up, ems⟩ := hU
          have cm : ∀ b, b ∈ comesL (q.map (·.1)) read y.wide → ∃ x ∈ q.map (·.1), b = fb (read + 1) x y.wide ∧ b % (y.wide : Int) = (x : Int) := fun b hb => by
            obtain ⟨x, hx, rfl⟩ := List.mem_map.mp hb
            exact ⟨x, hx, rfl, fb_mod (hok.lt x hx)⟩
          cases hst : isStore r with
          | true =>
            obtain ⟨x, n, rfl⟩ : ∃ x n, r = .store x n := by
              cases r <;> first | exact ⟨_, _, rfl⟩ | cases hst
            refine hit_all fun s hs => ?_
            rw [hhd]
            refine decide_eq_true (List.mem_map.mpr ⟨fb (read + 1) s.1 y.wide, ?_, fb_mod (hok.lt _ (List.mem_map.mpr ⟨s, hs, rfl⟩))⟩)
            rw [ems, if_pos hst, pm.mem_iff]
            exact List.mem_map.mpr ⟨s.1, List.mem_map.mpr ⟨s, hs, rfl⟩, rfl⟩
          | false =>
            rw [hst, if_neg (by decide)] at ems
            have nl : 0 < ns.length := by
              rw [pm.length_eq]
              unfold comesL
              rw [List.length_map, List.length_map]
              exact l1
            obtain ⟨b, nt, rfl⟩ : ∃ b nt, ns = b :: nt := by
              match ns, nl with
              | b :: nt, _ => exact ⟨b, nt, rfl⟩
            obtain ⟨h0, hh0, _, e0⟩ := cm b (pm.mem_iff.mp List.mem_cons_self)
            have ems : ms = [b] := ems
            have hdq : hd = fun x => decide (x = h0) := by
              rw [hhd]
              funext x
              rw [ems]
              show decide ((x : Int) ∈ [b % (y.wide : Int)]) = _
              rw [e0]
              refine decide_eq_decide.mpr ⟨fun z => by have := List.mem_singleton.mp z; omega, fun z => by rw [z]; exact List.mem_singleton.mpr rfl⟩
            rw [hdq, hit_one nd hh0 (fun L k s => by cases r <;> first | rfl | cases hst)]
            cases r <;> first | rfl | cases hst
        rw [fin] at m4
        exact kk t H5 (((But3.same S3).tr b4).tr (But3.same s5)) (m4.same s5) e5
end
end DL
namespace DL
open PySem PySem.Spec L2 DLR
/-! ### what stands on a drum, wherever its tracks are -/
structure Std (p : Prog) (y : Lay) (sp : Nat → Nat × Nat) (sw : Nat → List (Nat × Nat)) : Prop where
  pl : ∀ i, i < p.rows.length → (sp i).1 = y.places.getD i 0
  hm : ∀ x, x < p.ws.length → (sw x).map (·.1) = y.homes.getD x []
  nd : ((List.range p.rows.length).map sp ++ (List.range p.ws.length).flatMap sw).Nodup
def whatG (sp : Nat → Nat × Nat) (sw : Nat → List (Nat × Nat)) (r : Row) : D := .tup (.str r.word :: ((if r.uses = true then [homesD (sw r.wor)] else []) ++ (nx r).map fun t => spotD (sp t)))
def rowG (p : Prog) (sp : Nat → Nat × Nat) (sw : Nat → List (Nat × Nat)) (i : Nat) : Cell := (sp i, whatG sp sw (p.rows.getD i .stop))
def worG (p : Prog) (sw : Nat → List (Nat × Nat)) (x : Nat) : List Cell := (sw x).map fun s => (s, worD (p.ws.getD x 0))
def cellsG (p : Prog) (sp : Nat → Nat × Nat) (sw : Nat → List (Nat × Nat)) : List Cell := (List.range p.rows.length).map (rowG p sp sw) ++ (List.range p.ws.length).flatMap (worG p sw)
theorem cellsG_keys (p : Prog) (sp : Nat → Nat × Nat) (sw : Nat → List (Nat × Nat)) : (cellsG p sp sw).map (·.1) = (List.range p.rows.length).map sp ++ (List.range p.ws.length).flatMap sw := by
  unfold cellsG
  rw [List.map_append, List.map_map, List.map_flatMap]
  congr 1
  have e : ∀ l : List Nat, (l.flatMap fun x => (worG p sw x).map (·.1)) = l.flatMap sw := fun l => by
    congr 1
    funext x
    unfold worG
    rw [List.map_map]
    exact List.map_id _
  exact e _
theorem at_tup_inv {H : Hp} {v : V} {ds : List D} (h : At H v (.tup ds)) : ∃ a vs, v = .ref a ∧ H a = some (.tup vs) ∧ Ats H vs ds := by simpa only [At] using h
theorem at_int_inv {H : Hp} {v : V} {i : Int} (h : At H v (.int i)) : v = .int i := by simpa only [At] using h
theorem at_str_inv {H : Hp} {v : V} {x : Str} (h : At H v (.str x)) : v = .str x := by simpa only [At] using h
theorem ats_cons_inv {H : Hp} {vs : List V} {d : D} {ds : List D} (h : Ats H vs (d :: ds)) : ∃ v us, vs = v :: us ∧ At H v d ∧ Ats H us ds := by
  cases vs with
  | nil => simp only [Ats] at h
  | cons v us => simp only [Ats] at h; exact ⟨v, us, rfl, h⟩
theorem ats_nil_inv {H : Hp} {vs : List V} (h : Ats H vs []) : vs = [] := by
  cases vs with
  | nil => rfl
  | cons v us => simp only [Ats] at h
theorem spot_inv {H : Hp} {v : V} {s : Nat × Nat} (h : At H v (spotD s)) : ∃ t, v = .ref t ∧ H t = some (.tup [nI s.1, nI s.2]) := by
  obtain ⟨t, vs, rfl, ht, hv⟩ := at_tup_inv h
  obtain ⟨v1, us, rfl, h1, hv⟩ := ats_cons_inv hv
  obtain ⟨v2, us, rfl, h2, hv⟩ := ats_cons_inv hv
  have e0 := ats_nil_inv hv
  have e1 := at_int_inv h1
  have e2 := at_int_inv h2
  subst e0 e1 e2
  exact ⟨t, rfl, ht⟩
theorem spots_inv {H : Hp} : ∀ {q : List (Nat × Nat)} {vs : List V}, Ats H vs (q.map spotD) → ∃ ts : List Addr, vs = ts.map V.ref ∧ SpotsAt H ts q
  | [], vs, h => ⟨[], ats_nil_inv h, .nil⟩
  | s :: q, vs, h => by
    obtain ⟨v, us, rfl, h1, h2⟩ := ats_cons_inv h
    obtain ⟨t, rfl, ht⟩ := spot_inv h1
    obtain ⟨ts, rfl, hts⟩ := spots_inv h2
    exact ⟨t :: ts, rfl, .cons ht hts⟩
theorem homes_inv {H : Hp} {v : V} {q : List (Nat × Nat)} (h : At H v (homesD q)) : ∃ (hb : Addr) (us : List Addr), v = .ref hb ∧ H hb = some (.tup (us.map V.ref)) ∧ SpotsAt H us q := by
  obtain ⟨hb, vs, rfl, hh, hv⟩ := at_tup_inv h
  obtain ⟨us, rfl, hs⟩ := spots_inv hv
  exact ⟨hb, us, rfl, hh, hs⟩
theorem nx_use {r : Row} (h : r.uses = true) : ∃ n, nx r = [n] := by cases r <;> first | exact ⟨_, rfl⟩ | cases h
theorem what_use {H : Hp} {v : V} {sp : Nat → Nat × Nat} {sw : Nat → List (Nat × Nat)} {r : Row} (hu : r.uses = true) (h : At H v (whatG sp sw r)) :
    ∃ (a hb tb : Addr) (us : List Addr) (n : Nat), v = .ref a ∧ H a = some (.tup [.str r.word, .ref hb, .ref tb]) ∧ H hb = some (.tup (us.map V.ref)) ∧ SpotsAt H us (sw r.wor) ∧ nx r = [n] ∧ H tb = some (.tup [nI (sp n).1, nI (sp n).2]) := by
  obtain ⟨n, hn⟩ := nx_use hu
  unfold whatG at h
  rw [if_pos hu, hn] at h
  obtain ⟨a, vs, rfl, ha, hv1⟩ := at_tup_inv h
  obtain ⟨v1, us1, e1, h1, hv2⟩ := ats_cons_inv hv1
  obtain ⟨v2, us2, e2, h2, hv3⟩ := ats_cons_inv (show Ats H us1 (homesD (sw r.wor) :: [spotD (sp n)]) from hv2)
  obtain ⟨v3, us3, e3, h3, hv4⟩ := ats_cons_inv hv3
  obtain ⟨hb, ub, e4, e5, e6⟩ := homes_inv h2
  obtain ⟨tb, e7, e8⟩ := spot_inv h3
  rw [e1, e2, e3, ats_nil_inv hv4, at_str_inv h1, e4, e7] at ha
  exact ⟨a, hb, tb, ub, n, rfl, ha, e5, e6, hn, e8⟩
theorem word_ne (r : Row) : ¬ V.str r.word = V.str "worth" := by
  cases r with
  | load _ _ => exact (by decide +kernel : ¬ V.str "load" = V.str "worth")
  | add _ _ => exact (by decide +kernel : ¬ V.str "add" = V.str "worth")
  | take _ _ => exact (by decide +kernel : ¬ V.str "take" = V.str "worth")
  | store _ _ => exact (by decide +kernel : ¬ V.str "store" = V.str "worth")
  | say _ => exact (by decide +kernel : ¬ V.str "say" = V.str "worth")
  | test _ _ => exact (by decide +kernel : ¬ V.str "test" = V.str "worth")
  | stop => exact (by decide +kernel : ¬ V.str "stop" = V.str "worth")
theorem what_no {H : Hp} {v : V} {sp : Nat → Nat × Nat} {sw : Nat → List (Nat × Nat)} {r : Row} (hu : r.uses = false) (h : At H v (whatG sp sw r)) :
    ∃ (a : Addr) (ts : List Addr), v = .ref a ∧ H a = some (.tup (.str r.word :: ts.map V.ref)) ∧ SpotsAt H ts ((nx r).map sp) := by
  unfold whatG at h
  rw [hu, if_neg (by decide), List.nil_append] at h
  obtain ⟨a, vs, rfl, ha, hv⟩ := at_tup_inv h
  obtain ⟨v1, us, rfl, h1, hv⟩ := ats_cons_inv hv
  have e : ((nx r).map fun t => spotD (sp t)) = ((nx r).map sp).map spotD := by rw [List.map_map]; rfl
  rw [e] at hv
  obtain ⟨ts, rfl, hts⟩ := spots_inv hv
  have z1 := at_str_inv h1
  subst z1
  exact ⟨a, ts, rfl, ha, hts⟩
def Rel (p : Prog) (sw : Nat → List (Nat × Nat)) (L : Left) (ws : List Int) : Prop := ∀ x, x < p.ws.length → ∀ s ∈ sw x, getE L [s.1, s.2] = some (ws.getD x 0)
theorem getE_store (k : Int) : ∀ (q : List (Nat × Nat)) (L : Left) (s : Nat × Nat), getE (q.foldl (fun L s => setE L [s.1, s.2] k) L) [s.1, s.2] = if s ∈ q then some k else getE L [s.1, s.2]
  | [], L, s => by rw [if_neg (by simp)]; rfl
  | z :: q, L, s => by
    rw [List.foldl_cons, getE_store k q, getE_setE]
    by_cases e : s ∈ q
    · rw [if_pos e, if_pos (List.mem_cons_of_mem _ e)]
    · rw [if_neg e]
      by_cases e2 : z = s
      · subst e2
        rw [if_pos rfl, if_pos List.mem_cons_self]
      · have n : ¬ [z.1, z.2] = [s.1, s.2] := fun h => e2 (by
          have h1 := (List.cons.inj h).1
          have h2 := (List.cons.inj (List.cons.inj h).2).1
          exact Prod.ext h1 h2)
        rw [if_neg n, if_neg fun h => (List.mem_cons.mp h).elim (fun z => e2 z.symm) e]
theorem store_len (k : Int) : ∀ (q : List (Nat × Nat)) (L : Left), (∀ s ∈ q, (getE L [s.1, s.2]).isSome = true) → (q.foldl (fun L s => setE L [s.1, s.2] k) L).length = L.length
  | [], L, _ => rfl
  | z :: q, L, h => by
    have hz := h z List.mem_cons_self
    have e := congrArg List.length (setE_keys (v := k) hz)
    rw [List.length_map, List.length_map] at e
    rw [List.foldl_cons, store_len k q _ fun s hs => ?_, e]
    rw [getE_setE]
    by_cases e2 : [z.1, z.2] = [s.1, s.2]
    · rw [if_pos e2]; rfl
    · rw [if_neg e2]; exact h s (List.mem_cons_of_mem _ hs)
theorem Std.dis {p : Prog} {y : Lay} {sp : Nat → Nat × Nat} {sw : Nat → List (Nat × Nat)} (h : Std p y sp sw) {x z : Nat} (hx : x < p.ws.length) (hz : z < p.ws.length) {s : Nat × Nat} (h1 : s ∈ sw x) (h2 : s ∈ sw z) : x = z := by
  have nd := (List.nodup_append.mp h.nd).2.1
  have pw : (List.range p.ws.length).Pairwise fun a b => ∀ s ∈ sw a, ∀ t ∈ sw b, s ≠ t := (List.pairwise_flatMap.mp nd).2
  rcases Nat.lt_trichotomy x z with c | c | c
  · have q := List.pairwise_iff_getElem.mp pw x z (by rw [List.length_range]; exact hx) (by rw [List.length_range]; exact hz) c
    rw [List.getElem_range, List.getElem_range] at q
    exact absurd rfl (q s h1 s h2)
  · exact c
  · have q := List.pairwise_iff_getElem.mp pw z x (by rw [List.length_range]; exact hz) (by rw [List.length_range]; exact hx) c
    rw [List.getElem_range, List.getElem_range] at q
    exact absurd rfl (q s h2 s h1)
theorem rel_step {p : Prog} {y : Lay} {sp : Nat → Nat × Nat} {sw : Nat → List (Nat × Nat)} (h : Std p y sp sw) {m : Mach} {L : Left} (R : Rel p sw L m.ws) (ml : m.ws.length = p.ws.length) {r : Row} (hu : r.uses = true) (hx : r.wor < p.ws.length) :
    Rel p sw (storeL m.desk L (sw r.wor) r) (stepM m r).1.ws ∧ (storeL m.desk L (sw r.wor) r).length = L.length ∧ deskF m.desk (m.ws.getD r.wor 0) r = (stepM m r).1.desk := by
  cases r with
  | load x n => exact ⟨R, rfl, rfl⟩
  | add x n => exact ⟨R, rfl, rfl⟩
  | take x n => exact ⟨R, rfl, rfl⟩
  | store x n =>
    refine ⟨fun z hz s hs => ?_, store_len _ _ _ fun s hs => by rw [R x hx s hs]; rfl, rfl⟩
    show getE ((sw x).foldl (fun L s => setE L [s.1, s.2] m.desk) L) [s.1, s.2] = some ((m.ws.set x m.desk).getD z 0)
    rw [getE_store]
    by_cases e : z = x
    · subst e
      rw [if_pos hs, List.getD_eq_getElem?_getD, List.getElem?_set_self (by omega)]
      rfl
    · have n : s ∉ sw x := fun q => e (h.dis hz hx hs q)
      rw [if_neg n, R z hz s hs, List.getD_eq_getElem?_getD, List.getD_eq_getElem?_getD, List.getElem?_set_ne (fun q => e q.symm)]
  | say n => cases hu
  | test a b => cases hu
  | stop => cases hu
abbrev sReeled : Stmt := top 47
abbrev nReeled : List Str := ["told","fuel","wide","spot","cells","stands","desk","now","_","row","end","at","what"]
abbrev FReeled (K : Frg) (mg : Str → Option Value) := Fd K mg "reeled" sReeled ["told","fuel"]
def spReeled : Sp := fun vs H Q _ => ∃ (t s0 cl : Addr) (fuel : Nat) (p : Prog) (y : Lay) (sp : Nat → Nat × Nat) (sw : Nat → List (Nat × Nat)) (bs : List Addr) (cs : List Cell), vs = [.ref t, .int (fuel : Int)] ∧ H t = some (.tup [nI y.wide, .ref s0, .ref cl]) ∧ H s0 = some (.tup [nI (sp 0).1, nI (sp 0).2]) ∧ H cl = some (.lst (bs.map V.ref)) ∧ CellsAt H bs cs ∧ cs.Perm (cellsG p sp sw) ∧ Good p ∧ LayOk p y ∧ Std p y sp sw ∧ fuel ≤ 5000 ∧
  ∀ a ls le H', Same1 H H' → H ls = none → H' a = some (.tup [.ref ls, .ref le, .int (spinS p y fuel).now]) → H' ls = some (.lst ((runS p fuel).m.said.map V.int)) → H' le = some (.tup [.str (if (runS p fuel).here = none then "stop" else "long")]) → Q (.ref a) H'
abbrev smap (S : List (List Nat × V)) : List (List Key × V) := emap (fun h : List Nat => h.map kN) (fun v : V => v) S
theorem ckey_inj {a b : Nat × Nat} (h : ([a.1, a.2] : List Nat) = [b.1, b.2]) : a = b := Prod.ext (List.cons.inj h).1 (List.cons.inj (List.cons.inj h).2).1
theorem cells_le {p : Prog} {y : Lay} {sp : Nat → Nat × Nat} {sw : Nat → List (Nat × Nat)} (g : Good p) (yk : LayOk p y) (h : Std p y sp sw) : (cellsG p sp sw).length ≤ 64 := by
  have e := congrArg List.length (cellsG_keys p sp sw)
  rw [List.length_map, List.length_append, List.length_map, List.length_range] at e
  have q : ∀ l : List Nat, (∀ x ∈ l, x < p.ws.length) → (l.flatMap sw).length ≤ 3 * l.length := by
    intro l
    induction l with
    | nil => intro _; exact Nat.le_refl _
    | cons x l ih =>
      intro hl
      rw [List.flatMap_cons, List.length_append, List.length_cons]
      have i := ih fun z hz => hl z (List.mem_cons_of_mem _ hz)
      have hx := hl x List.mem_cons_self
      have e := congrArg List.length (h.hm x hx)
      rw [List.length_map] at e
      have hxl : x < y.homes.length := by rw [yk.hl]; exact hx
      have l3 := (yk.hok _ (List.getElem_mem hxl)).l3
      have eg : y.homes.getD x [] = y.homes[x] := by rw [List.getD_eq_getElem?_getD, List.getElem?_eq_getElem hxl]; rfl
      rw [eg] at e
      omega
  have q1 := q (List.range p.ws.length) fun x hx => List.mem_range.mp hx
  rw [List.length_range] at q1
  have := g.w8
  have := g.r40
  omega
section
variable {P : Program} {w : World} {K : PySem.W.Frag} {mg : Str → Option Value} {base : Heap}
theorem scReeled : FnScope nReeled ["told","fuel"] (defScope sReeled) := ⟨rfl, rfl, rfl, by decide +kernel, rfl, by decide +kernel, by decide +kernel⟩
theorem ok_reeled (c : FReeled K mg) (cCheckFuel : FCheckFuel K mg) (cStepD : FStepD K mg) (cFirstBeat : FFirstBeat K mg) (cOnDesk : FOnDesk K mg) (cUsesWorth : FUsesWorth K mg) (cBeatsOfUse : FBeatsOfUse K mg) (DM : DkM K mg) (T : Bt mg) (CD : Cd mg) (Z : Pt K w mg) (ZW : Pw K w mg)
    (GCheckFuel : FnOk P w K mg base CX0 3 cCheckFuel.f cCheckFuel.fd ["fuel"] spCheckFuel) : FnOk P w K mg base CX0 4 c.f c.fd ["told","fuel"] spReeled := by
  have TC := DM.d
  have GInit : FnOk P w K mg base CX0 1 DM.fi DM.fdi ["self", "worths"] (spDInit DM.C) := ok_dinit DM.FI T TC
  have GStepD : FnOk P w K mg base CX0 3 cStepD.f cStepD.fd ["desk","row","read","wide"] (spStepD DM.C) := ok_stepD cStepD DM.FU DM.mU DM.bU DM.FO DM.mO DM.bO cOnDesk cUsesWorth cBeatsOfUse cFirstBeat T CD Z ZW TC
  have GFirstBeat : FnOk P w K mg base CX0 1 cFirstBeat.f cFirstBeat.fd ["now", "place", "wide"] spFirstBeat := ok_firstBeat cFirstBeat
  refine c.F.ok scReeled (fun vs H Q E h => ?_) (fun cdv A outer s H vs Q E hr h => ?_)
  · obtain ⟨t, s0, cl, fuel, p, y, sp, sw, bs, cs, rfl, _⟩ := h
    rfl
  · obtain ⟨t, s0, cl, fuel, p, y, sp, sw, bs, cs, rfl, ht, hs0, hcl, hC, pm, g, yk, sd, hf, k⟩ := h
    refine ⟨_, (pss_cons (ps_expr (pe_call GCheckFuel (hr.mono (by first | omega | decide)) (by rfl) cCheckFuel.m cCheckFuel.F.kp cCheckFuel.b .nil pass0 (pa_cons (pv 1) pa_nil)))
      (pss_cons (ps_asg (pv 0) (pg_tup rfl (pgs_cons (pg_name (i := 2) scReeled.nd rfl (Or.inl rfl)) (pgs_cons (pg_name (i := 3) scReeled.nd rfl (Or.inl rfl)) (pgs_cons (pg_name (i := 4) scReeled.nd rfl (Or.inl rfl)) pgs_nil)))))
      (pss_cons (DLR.ps_setDcT (i := 5) (own := [("at", 11), ("what", 12)]) (g := (gTup K 2 (gCons (gName 11) (gCons (gName 12) gNil)))) (tt := tYes) rfl (hu_of hr) scReeled.nd rfl rfl (DLR.sw_trueD rfl rfl rfl (by decide +kernel)) (pi_list (pv 4)) (blkOk_by (N := nReeled) (sc := defScope sReeled) (by decide +kernel)) (fun _ _ _ _ _ => (pg_tupK K rfl rfl (pgs_cons (pg_name (i := 11) scReeled.nd rfl (Or.inl rfl)) (pgs_cons (pg_name (i := 12) scReeled.nd rfl (Or.inl rfl)) pgs_nil)))) (fun _ _ _ _ _ => pts_nil) (fun _ _ _ _ _ => (pv 11)) (fun _ _ _ _ _ => (pv 12)))
      (pss_cons (ps_set (i := 6) scReeled.nd rfl (Or.inl rfl) (pe_make DM.mkd GInit (hr.mono (by first | omega | decide)) (by rfl) TC.m DM.bI .nil pass0 (pa_cons (DLR.pe_dcT (own := [("at", 11), ("what", 12)]) (g := (gTup K 2 (gCons (gName 11) (gCons (gName 12) gNil)))) (tt := _) rfl (hu_of hr) scReeled.nd (pi_list (pv 4)) (blkOk_by (N := nReeled) (sc := defScope sReeled) (by decide +kernel)) (fun _ _ _ _ _ => (pg_tupK K rfl rfl (pgs_cons (pg_name (i := 11) scReeled.nd rfl (Or.inl rfl)) (pgs_cons (pg_name (i := 12) scReeled.nd rfl (Or.inl rfl)) pgs_nil)))) (fun _ _ _ _ _ => pts_one (pt_cmpR op_eq (pe_ix (ix_tupK K rfl) (pv 12) pe_int (fun _ _ => rfl)) pe_str (nomark _))) (fun _ _ _ _ _ => (pv 11)) (fun _ _ _ _ _ => (pe_ix (ix_tupK K rfl) (pv 12) pe_int (fun _ _ => rfl)))) pa_nil)))
      (pss_cons (ps_set (i := 7) scReeled.nd rfl (Or.inl rfl) pe_int)
      (pss_cons (ps_for PassesOwn.never rfl (pi_range1 rfl T.range (pa_cons (pv 1) pa_nil)) (pg_name (i := 8) scReeled.nd rfl (Or.inl rfl))
          (pss_cons (ps_set (i := 9) scReeled.nd rfl (Or.inl rfl) (pe_dget (hu_of hr) (pv 5) (pv 3) (fun _ _ => rfl)))
          (pss_cons (ps_set (i := 7) scReeled.nd rfl (Or.inl rfl) (pe_call GFirstBeat (hr.mono (by first | omega | decide)) (by rfl) cFirstBeat.m cFirstBeat.F.kp cFirstBeat.b .nil pass0 (pa_cons (pv 7) (pa_cons (pe_ix ix_tup (pv 3) pe_int (fun _ _ => rfl)) (pa_cons (pv 2) pa_nil)))))
          (pss_cons (ps_asg (pe_call GStepD (hr.mono (by first | omega | decide)) (by rfl) cStepD.m cStepD.F.kp cStepD.b .nil pass0 (pa_cons (pv 6) (pa_cons (pv 9) (pa_cons (pv 7) (pa_cons (pv 2) pa_nil))))) (pg_tup rfl (pgs_cons (pg_name (i := 3) scReeled.nd rfl (Or.inl rfl)) (pgs_cons (pg_name (i := 7) scReeled.nd rfl (Or.inl rfl)) pgs_nil))))
          (pss_one (ps_if (pt_cmpR op_isN (pv 3) pe_non (nomark _))
              (pss_one ps_break)
              pss_nil))))))
      (pss_cons (ps_set (i := 10) scReeled.nd rfl (Or.inl rfl) (pe_ifExp (pt_cmpR op_isN (pv 3) pe_non (nomark _)) (pe_tup (pa_cons pe_str pa_nil)) (pe_tup (pa_cons pe_str pa_nil))))
      (pss_one (ps_ret (pe_tup (pa_cons (pe_fld (pv 6) rfl) (pa_cons (pv 10) (pa_cons (pv 7) pa_nil))))))))))))), ?_⟩
    have r1 := g.r1
    have w2 := yk.w2
    have c64 : cs.length ≤ 64 := by rw [pm.length_eq]; exact cells_le g yk sd
    have hbl := Paired.length hC
    have knd : (cs.map (·.1)).Nodup := by
      have q := (pm.map (·.1)).nodup_iff
      rw [cellsG_keys] at q
      exact q.mpr sd.nd
    have knd2 : ∀ i j : Nat, ∀ (c d : Cell), cs[i]? = some c → cs[j]? = some d → c.1 = d.1 → i = j := fun i j c d hi hj e => by
      obtain ⟨li, ei⟩ := List.getElem?_eq_some_iff.mp hi
      obtain ⟨lj, ej⟩ := List.getElem?_eq_some_iff.mp hj
      refine nodup_ix knd (by rw [List.length_map]; exact li) (by rw [List.length_map]; exact lj) ?_
      rw [List.getElem_map, List.getElem_map, ei, ej]
      exact e
    refine ⟨_, rfl, (fuel : Int), rfl, by omega, by omega, ?_⟩
    refine ⟨_, rfl, t, _, rfl, SqT.of ht, rfl, _, _, rfl, _, _, rfl, _, _, rfl, rfl, ?_⟩
    dsimp only
    refine ⟨_, rfl, cl, rfl, ⟨_, SqL.of hcl⟩, fun d hd => ?_⟩
    -- all that stands there
    have stp : ∀ (i : Nat) (x : V) (H1 : Hp), i < cs.length → (∀ xs, SqL K H1 cl xs → xs[i]? = some x) → Same1 H H1 → ∃ (b sq : Addr) (cv : V) (c : Cell), x = .ref b ∧ bs[i]? = some b ∧ cs[i]? = some c ∧ H1 b = some (.tup [.ref sq, cv]) ∧ H1 sq = some (.tup (([c.1.1, c.1.2] : List Nat).map nI)) ∧ At H1 cv c.2 ∧ H b = some (.tup [.ref sq, cv]) := fun i x H1 hi hx s1 => by
      have hib : i < bs.length := by omega
      have q := hx _ (SqL.of (s1 _ _ hcl))
      rw [List.getElem?_map, List.getElem?_eq_getElem hib] at q
      obtain ⟨c, h1, sq, cv, h2, h3, h4, h5⟩ := Paired.get hC (List.getElem?_eq_getElem hib)
      exact ⟨bs[i], sq, cv, c, (Option.some.inj q).symm, List.getElem?_eq_getElem hib, h1, s1 _ _ h2, s1 _ _ h3, At.keep (Kp.same s1) _ _ h5 h4, h2⟩
    refine dcT_gen (n := cs.length) (fun i H' => ∃ SL : List (List Nat × V), Same1 H H' ∧ H' d = some (.dT (smap SL)) ∧ SL.length ≤ i ∧ ∀ (j : Nat) (b sq : Addr) (cv : V) (c : Cell), j < i → bs[j]? = some b → cs[j]? = some c → H b = some (.tup [.ref sq, cv]) → getE SL [c.1.1, c.1.2] = some cv)
      ⟨[], Same.new hd, upd_same, Nat.zero_le _, fun j _ _ _ _ h => absurd h (Nat.not_lt_zero j)⟩ (fun i H' hi ⟨_, q, _⟩ => ⟨_, _, SqL.of (q _ _ hcl), List.getElem?_eq_getElem (by rw [List.length_map]; omega)⟩) (fun H' ⟨_, q, _⟩ => ⟨_, SqL.of (q _ _ hcl), by rw [List.length_map]; omega⟩) ?_ ?_
    · rintro i x H1 H2 hi ⟨SL, s1, d1, sl, hS⟩ ⟨rfl, hx⟩
      obtain ⟨b, sq, cv, c, rfl, hb, hc, e1, e2, e3, e4⟩ := stp i x H2 hi hx s1
      refine ⟨b, _, rfl, SqT.of e1, rfl, _, _, rfl, _, _, rfl, rfl, rfl, ?_⟩
      dsimp only [tYes]
      rw [if_pos rfl]
      refine ⟨_, rfl, _, rfl, smap SL, ([c.1.1, c.1.2] : List Nat).map kN, sq, rfl, by rw [kNs_kV]; exact e2, d1, by unfold smap; rw [emap_len]; exact szl (by omega), setE SL [c.1.1, c.1.2] cv, Same.mut s1 hd, ?_, by have := (setE_len SL [c.1.1, c.1.2] cv).1; omega, fun j b2 sq2 cv2 c2 hj hb2 hc2 h2 => ?_⟩
      · rw [upd_same]
        exact congrArg (fun z => some (HO.dT z)) (emap_put (enc := fun h : List Nat => h.map kN) kNs_inj (fun v : V => v) SL [c.1.1, c.1.2] cv)
      · rw [getE_setE]
        by_cases e : j = i
        · subst e
          have z1 : b = b2 := Option.some.inj (hb.symm.trans hb2)
          have z2 : c = c2 := Option.some.inj (hc.symm.trans hc2)
          subst z1 z2
          rw [e4] at h2
          have z3 : cv = cv2 := by
            have z := HO.tup.inj (Option.some.inj h2)
            exact (List.cons.inj (List.cons.inj z).2).1
          rw [if_pos rfl, z3]
        · have n : ¬ [c.1.1, c.1.2] = [c2.1.1, c2.1.2] := fun z => e (knd2 j i c2 c hc2 hc (ckey_inj z).symm)
          rw [if_neg n]
          exact hS j b2 sq2 cv2 c2 (by omega) hb2 hc2 h2
    rintro H1 ⟨SL, s1, d1, sl, hS⟩
    dsimp only [gName]
    -- the worths
    refine ⟨_, rfl, cl, rfl, ⟨_, SqL.of (s1 _ _ hcl)⟩, fun d2 hd2 => ?_⟩
    refine dcT_gen (n := cs.length) (fun i H' => ∃ L : Left, Same1 H1 H' ∧ LeftAt H' d2 L ∧ L.length ≤ i ∧ ∀ (j : Nat) (c : Cell) (z : Int), j < i → cs[j]? = some c → c.2 = worD z → getE L [c.1.1, c.1.2] = some z)
      ⟨[], Same.new hd2, upd_same, Nat.zero_le _, fun j _ _ h => absurd h (Nat.not_lt_zero j)⟩ (fun i H' hi ⟨_, q, _⟩ => ⟨_, _, SqL.of (q _ _ (s1 _ _ hcl)), List.getElem?_eq_getElem (by rw [List.length_map]; omega)⟩) (fun H' ⟨_, q, _⟩ => ⟨_, SqL.of (q _ _ (s1 _ _ hcl)), by rw [List.length_map]; omega⟩) ?_ ?_
    · rintro i x H2 H3 hi ⟨L, s2, l2, ll, hL⟩ ⟨rfl, hx⟩
      obtain ⟨b, sq, cv, c, rfl, hb, hc, e1, e2, e3, e4⟩ := stp i x H3 hi hx (s1.trans s2)
      refine ⟨b, _, rfl, SqT.of e1, rfl, _, _, rfl, _, _, rfl, rfl, rfl, ?_⟩
      have keep : ¬ (∃ z, c.2 = worD z) → ∃ L : Left, Same1 H1 H3 ∧ LeftAt H3 d2 L ∧ L.length ≤ i + 1 ∧ ∀ (j : Nat) (c : Cell) (z : Int), j < i + 1 → cs[j]? = some c → c.2 = worD z → getE L [c.1.1, c.1.2] = some z := fun no => ⟨L, s2, l2, by omega, fun j c2 z hj hc2 hz => by
        by_cases e : j = i
        · subst e
          rw [hc] at hc2
          rw [← Option.some.inj hc2] at hz
          exact absurd ⟨z, hz⟩ no
        · exact hL j c2 z (by omega) hc2 hz⟩
      have cin := pm.mem_iff.mp (List.mem_of_getElem? hc)
      rcases List.mem_append.mp cin with q | q
      · obtain ⟨r, hr, rfl⟩ := List.mem_map.mp q
        obtain ⟨a, vs, rfl, ha, hv⟩ := at_tup_inv (show At H3 cv (whatG sp sw (p.rows.getD r .stop)) from e3)
        obtain ⟨v1, us, rfl, h1, hv⟩ := ats_cons_inv hv
        have z1 := at_str_inv h1
        subst z1
        refine ⟨_, rfl, a, _, _, _, rfl, rfl, SqT.of ha, at0, rfl, _, rfl, ?_⟩
        have nw := word_ne (p.rows.getD r .stop)
        rw [decide_eq_false nw]
        refine iteF ?_
        refine keep ?_
        rintro ⟨z, hz⟩
        have hz : whatG sp sw (p.rows.getD r .stop) = worD z := hz
        unfold whatG worD at hz
        have := (List.cons.inj (D.tup.inj hz)).1
        exact nw (congrArg V.str (D.str.inj this))
      · obtain ⟨x, hx, q⟩ := List.mem_flatMap.mp q
        obtain ⟨s, hs, rfl⟩ := List.mem_map.mp q
        obtain ⟨a, vs, rfl, ha, hv⟩ := at_tup_inv (show At H3 cv (worD (p.ws.getD x 0)) from e3)
        obtain ⟨v1, us, rfl, h1, hv⟩ := ats_cons_inv hv
        obtain ⟨v2, us, rfl, h2, hv⟩ := ats_cons_inv hv
        have z0 := ats_nil_inv hv
        have z1 := at_str_inv h1
        have z2 := at_int_inv h2
        subst z0 z1 z2
        refine ⟨_, rfl, a, _, _, _, rfl, rfl, SqT.of ha, at0, rfl, _, rfl, ?_⟩
        rw [decide_eq_true rfl]
        refine iteT ?_
        refine ⟨_, rfl, _, rfl, a, _, _, _, rfl, rfl, SqT.of ha, at1, lmap L, ([s.1, s.2] : List Nat).map kN, sq, rfl, by rw [kNs_kV]; exact e2, l2, by unfold lmap; rw [emap_len]; exact szl (by omega), setE L [s.1, s.2] (p.ws.getD x 0), Same.mut s2 hd2, ?_, by have := (setE_len L [s.1, s.2] (p.ws.getD x 0)).1; omega, fun j c2 z hj hc2 hz => ?_⟩
        · show _ = some (HO.dT _)
          rw [upd_same]
          exact congrArg (fun z => some (HO.dT z)) (emap_put (enc := fun h : List Nat => h.map kN) kNs_inj V.int L [s.1, s.2] (p.ws.getD x 0))
        · rw [getE_setE]
          by_cases e : j = i
          · subst e
            rw [hc] at hc2
            rw [← Option.some.inj hc2] at hz ⊢
            rw [if_pos rfl]
            have hz : worD (p.ws.getD x 0) = worD z := hz
            unfold worD at hz
            have := (List.cons.inj (List.cons.inj (D.tup.inj hz)).2).1
            rw [D.int.inj this]
          · have n : ¬ [s.1, s.2] = [c2.1.1, c2.1.2] := fun z => e (knd2 j i c2 _ hc2 hc (ckey_inj z).symm)
            rw [if_neg n]
            exact hL j c2 z (by omega) hc2 hz
    rintro H2 ⟨L, s2, l2, ll, hL⟩
    have S2 := s1.trans s2
    have R0 : Rel p sw L p.ws := fun x hx s hs => by
      have q : (s, worD (p.ws.getD x 0)) ∈ cs := pm.mem_iff.mpr (List.mem_append_right _ (List.mem_flatMap.mpr ⟨x, List.mem_range.mpr hx, List.mem_map.mpr ⟨s, hs, rfl⟩⟩))
      obtain ⟨j, hj, ej⟩ := List.getElem_of_mem q
      exact hL j _ _ hj (by rw [List.getElem?_eq_getElem hj, ej]) rfl
    have rowV : ∀ i, i < p.rows.length → ∃ cv, getE SL [(sp i).1, (sp i).2] = some cv ∧ At H cv (whatG sp sw (p.rows.getD i .stop)) ∧ (whatG sp sw (p.rows.getD i .stop)).flat := fun i hi => by
      have q : rowG p sp sw i ∈ cs := pm.mem_iff.mpr (List.mem_append_left _ (List.mem_map.mpr ⟨i, List.mem_range.mpr hi, rfl⟩))
      obtain ⟨j, hj, ej⟩ := List.getElem_of_mem q
      have hjc : cs[j]? = some (rowG p sp sw i) := by rw [List.getElem?_eq_getElem hj, ej]
      have hjb : j < bs.length := by omega
      obtain ⟨c, h1, sq, cv, h2, h3, h4, h5⟩ := Paired.get hC (List.getElem?_eq_getElem hjb)
      rw [hjc] at h1
      have e : rowG p sp sw i = c := Option.some.inj h1
      subst e
      exact ⟨cv, hS j bs[j] sq cv _ hj (List.getElem?_eq_getElem hjb) hjc h2, h4, h5⟩
    refine fun q dx hq hdx hne => ⟨q, dx, .ref d2, rfl, upd_same, fun as_ fs H3 b3 has e3 l3 f1 f2 f3 f4 e4 => ⟨rfl, ?_⟩⟩
    dsimp only [gName]
    have s3 : Same1 H2 H3 := fun x o e => b3 x o (ne_of_none e hq) (by rw [upd_ne (ne_of_none e hq), upd_ne (ne_of_none e hdx)]; exact e)
    have has2 : H2 as_ = none := upd_none (upd_none has)
    have S3 := S2.trans s3
    have nq : H q = none := S2.free hq
    have nas : H as_ = none := S2.free has2
    have nd2 : H d2 = none := s1.free hd2
    have dd2 : d ≠ d2 := ne_of_none d1 hd2
    have ddq : d ≠ q := ne_of_none (s2 _ _ d1) hq
    have dda : d ≠ as_ := ne_of_none (s2 _ _ d1) has2
    have hM3 : DeskG DM.C H3 q d2 as_ 0 [] L := ⟨⟨dx, fs, e3, l3, f1, f2, f3, f4⟩, s3 _ _ l2, e4, ne_of_none l2 has2⟩
    have d3 := (s2.trans s3) _ _ d1
    refine ⟨_, rfl, (fuel : Int), rfl, by omega, by omega, ?_⟩
    have dget : ∀ {H' : Hp} {t : Addr} {i : Nat} {cv : V}, H' d = some (.dT (smap SL)) → H' t = some (.tup [nI (sp i).1, nI (sp i).2]) → getE SL [(sp i).1, (sp i).2] = some cv → DGet H' d (.ref t) (some cv) := fun {H' t i cv} e et eg => by
      have z := DGet.t (k := ([(sp i).1, (sp i).2] : List Nat).map kN) e (by rw [kNs_kV]; exact et)
      unfold smap at z
      rw [emap_val (enc := fun h : List Nat => h.map kN) kNs_inj, eg] at z
      exact z
    have wlen : ∀ j, (runS p j).m.ws.length = p.ws.length := fun j => (runS_ok g j).w
    refine range_elim (lo := 0) (n := fuel) (fun j σ H' => ∃ (x8 x9 : Option V) (t1 : Addr) (r : Nat) (L : Left), σ = [some (.ref t), some (.int (fuel : Int)), some (nI y.wide), some (.ref t1), some (.ref cl), some (.ref d), some (.ref q), some (.int (spinS p y j).now), x8, x9, none, none, none] ∧ Same1 H H' ∧ H' d = some (.dT (smap SL)) ∧ (spinS p y j).here = some r ∧ r < p.rows.length ∧ H' t1 = some (.tup [nI (sp r).1, nI (sp r).2]) ∧ DeskG DM.C H' q d2 as_ (spinS p y j).m.desk (spinS p y j).m.said L ∧ Rel p sw L (spinS p y j).m.ws ∧ L.length ≤ 64)
      (fun σ H' => ∃ (x8 x9 : Option V) (hv : V) (L : Left), σ = [some (.ref t), some (.int (fuel : Int)), some (nI y.wide), some hv, some (.ref cl), some (.ref d), some (.ref q), some (.int (spinS p y fuel).now), x8, x9, none, none, none] ∧ Same1 H H' ∧ ((hv = .non ∧ (spinS p y fuel).here = none) ∨ ∃ t1 r, hv = .ref t1 ∧ (spinS p y fuel).here = some r) ∧ DeskG DM.C H' q d2 as_ (spinS p y fuel).m.desk (spinS p y fuel).m.said L)
      ⟨none, none, s0, 0, L, rfl, S3, d3, rfl, r1, S3 _ _ hs0, hM3, R0, by omega⟩ ?_ ?_ ?_
    · rintro σ H4 ⟨x8, x9, hv, L4, rfl, s4, hh, m4⟩
      obtain ⟨dx4, fs4, g1, g2, g3, g4, g5, g9⟩ := m4.ins
      obtain ⟨er1, er2⟩ := spin_run p y fuel
      have fin : ∀ le H5, Same1 H4 H5 → H5 le = some (.tup [.str (if (runS p fuel).here = none then "stop" else "long")]) → ∀ a H6, Same1 H5 H6 → H6 a = some (.tup [.ref as_, .ref le, .int (spinS p y fuel).now]) → Q (.ref a) H6 := fun le H5 s5 e5 a H6 s6 e6 =>
        k a as_ le H6 ((s4.trans s5).trans s6) nas e6 (by rw [← er1]; exact (s5.trans s6) _ _ m4.said) (s6 _ _ e5)
      rcases hh with ⟨rfl, hh⟩ | ⟨t1, r, rfl, hh⟩
      · refine ⟨_, rfl, rfl, _, rfl, iteT ⟨(by show 1 ≤ sizeLine; decide), fun le hle => ?_⟩⟩
        refine alloc hle fun H5 s5 e5 => ?_
        refine ⟨_, rfl, q, _, _, _, _, rfl, s5 _ _ g1, TC.cl, TC.nS, g5, _, rfl, _, rfl, (by show 3 ≤ sizeLine; decide), fun a ha => ?_⟩
        refine alloc ha fun H6 s6 e6 => ?_
        exact fin le H5 s5 (by rw [← er2, if_pos hh]; exact e5) a H6 s6 e6
      · refine ⟨_, rfl, rfl, _, rfl, iteF ⟨(by show 1 ≤ sizeLine; decide), fun le hle => ?_⟩⟩
        refine alloc hle fun H5 s5 e5 => ?_
        refine ⟨_, rfl, q, _, _, _, _, rfl, s5 _ _ g1, TC.cl, TC.nS, g5, _, rfl, _, rfl, (by show 3 ≤ sizeLine; decide), fun a ha => ?_⟩
        refine alloc ha fun H6 s6 e6 => ?_
        exact fin le H5 s5 (by rw [← er2, if_neg (by rw [hh]; intro z; cases z)]; exact e5) a H6 s6 e6
    · intro Nx hNx
      rintro j σ H4 hj ⟨x8, x9, t1, r, L4, rfl, s4, d4, hh, hr, ht1, m4, R4, ll4⟩
      dsimp only [gName]
      obtain ⟨cv, hcv, hat, hfl⟩ := rowV r hr
      have hat4 := At.keep (Kp.same s4) _ _ hfl hat
      obtain ⟨er1, er2⟩ := spin_run p y j
      have O := runS_ok g j
      have wl4 : (spinS p y j).m.ws.length = p.ws.length := by rw [er1]; exact O.w
      have sl4 : (spinS p y j).m.said.length ≤ 9000 := by rw [er1]; have := O.said; omega
      refine ⟨_, rfl, _, rfl, d, cv, rfl, dget d4 ht1 hcv, ?_⟩
      refine ⟨_, rfl, _, rfl, t1, _, _, _, rfl, rfl, SqT.of ht1, at0, _, rfl, (spinS p y j).now, (sp r).1, y.wide, rfl, by omega, ?_⟩
      dsimp only [gName]
      have hread : fb (spinS p y j).now (sp r).1 y.wide = readD y (spinS p y j) r := by unfold readD; rw [sd.pl r hr]
      rw [hread]
      have e1 : spinS p y (j + 1) = goD1 p y (spinS p y j) r := by
        show turnD p y (spinS p y j) = _
        unfold turnD
        rw [hh]
      obtain ⟨rr, hrr⟩ : ∃ rr, rr = p.rows.getD r .stop := ⟨_, rfl⟩
      have em : (spinS p y (j + 1)).m = (stepM (spinS p y j).m rr).1 := by rw [e1, hrr]; rfl
      have eh : (spinS p y (j + 1)).here = (stepM (spinS p y j).m rr).2 := by rw [e1, hrr]; rfl
      have en : (spinS p y (j + 1)).now = behindF y rr (readD y (spinS p y j) r) := by rw [e1, hrr]; rfl
      have okr : rr.ok p.ws.length p.rows.length := by
        rw [hrr, List.getD_eq_getElem?_getD, List.getElem?_eq_getElem hr]
        exact g.ok _ (List.getElem_mem hr)
      rw [← hrr] at hat4
      have keepS : ∀ {H5 : Hp}, But3 q d2 as_ H4 H5 → Same1 H H5 := fun b x o e => b x o (ne_of_none e nq) (ne_of_none e nd2) (ne_of_none e nas) (s4 x o e)
      obtain ⟨s, hs⟩ : ∃ s, s = spinS p y j := ⟨_, rfl⟩
      rw [← hs] at m4 R4 wl4 sl4 em eh en hh ⊢
      cases hu : rr.uses with
      | true =>
        obtain ⟨a, hb, tb, us, n, rfl, ha, hhb, hus, hn, htb⟩ := what_use hu hat4
        have hx := Row.wor_lt hu okr
        have hxl : rr.wor < y.homes.length := by rw [yk.hl]; exact hx
        have hok := yk.hok _ (List.getElem_mem hxl)
        have eg : y.homes.getD rr.wor [] = y.homes[rr.wor] := by rw [List.getD_eq_getElem?_getD, List.getElem?_eq_getElem hxl]; rfl
        have ehm := sd.hm _ hx
        have eq2 : y.homes[rr.wor] = (sw rr.wor).map (·.1) := by rw [← eg, ehm]
        obtain ⟨q1, q2, q3⟩ := rel_step sd R4 wl4 hu hx
        have hn2 : (stepM s.m rr).2 = some n := by
          cases rr <;> first | (injection hn with z; rw [← z]; rfl) | cases hu
        have hnl : n < p.rows.length := by
          have z : n ∈ nx rr := by rw [hn]; exact List.mem_singleton.mpr rfl
          exact nx_ltY okr n z
        refine ⟨_, rfl, _, rfl, _, rfl, _, rfl, q, d2, as_, a, s.m.desk, readD y s r, s.m.said, L4, rr, y, rfl, m4, sl4, by omega, w2, .inr ⟨hu, hb, us, sw rr.wor, s.m.ws.getD rr.wor 0, .ref tb, ha, hhb, hus, by rw [← eq2]; exact hok, by rw [ehm], fun z hz => R4 _ hx z hz, fun tt H5 b5 m5 e5 => ?_⟩⟩
        rw [q3] at m5
        refine ⟨tt, _, rfl, SqT.of e5, rfl, _, _, rfl, _, _, rfl, rfl, ?_⟩
        dsimp only
        refine ⟨_, rfl, rfl, _, rfl, ?_⟩
        refine iteF ?_
        have se : (stepM s.m rr).1.said = s.m.said := by cases rr <;> first | rfl | cases hu
        refine ⟨_, _, tb, n, storeL s.m.desk L4 (sw rr.wor) rr, by rw [en]; rfl, keepS b5, b5 _ _ ddq dd2 dda d4, eh.trans hn2, hnl, m4.kp b5 _ _ htb, by rw [em, se]; exact m5, by rw [em]; exact q1, by omega⟩
      | false =>
        obtain ⟨a, ts, rfl, ha, hts⟩ := what_no hu hat4
        have tl := Paired.length hts
        rw [List.length_map] at tl
        refine ⟨_, rfl, _, rfl, _, rfl, _, rfl, q, d2, as_, a, s.m.desk, readD y s r, s.m.said, L4, rr, y, rfl, m4, sl4, by omega, w2, .inl ⟨hu, ts.map V.ref, ha, by rw [List.length_map]; exact tl, fun tt H5 b5 m5 e5 => ?_⟩⟩
        refine ⟨tt, _, rfl, SqT.of e5, rfl, _, _, rfl, _, _, rfl, rfl, ?_⟩
        dsimp only
        have D5 := b5 _ _ ddq dd2 dda d4
        have go : ∀ (t2 : Addr) (n : Nat), nxtV s.m.desk (ts.map V.ref) rr = .ref t2 → (stepM s.m rr).2 = some n → n ∈ nx rr → H4 t2 = some (.tup [nI (sp n).1, nI (sp n).2]) → (stepM s.m rr).1.desk = s.m.desk → (stepM s.m rr).1.said = saidF s.m.desk s.m.said rr → (stepM s.m rr).1.ws = s.m.ws → behindF y rr (readD y s r) = readD y s r + work rr + 1 → True := fun _ _ _ _ _ _ _ _ _ _ => trivial
        cases rr with
        | load x n => cases hu
        | add x n => cases hu
        | take x n => cases hu
        | store x n => cases hu
        | say n =>
          obtain ⟨t2, rfl⟩ : ∃ t2, ts = [t2] := by
            match ts, tl with
            | [t2], _ => exact ⟨t2, rfl⟩
          have ht2 : H4 t2 = some (.tup [nI (sp n).1, nI (sp n).2]) := by cases hts with | cons h _ => exact h
          refine ⟨_, rfl, rfl, _, rfl, ?_⟩
          refine iteF ?_
          exact ⟨_, _, t2, n, L4, by rw [en]; rfl, keepS b5, D5, eh, okr, m4.kp b5 _ _ ht2, by rw [em]; exact m5, by rw [em]; exact R4, ll4⟩
        | test x z =>
          obtain ⟨t2, t3, rfl⟩ : ∃ t2 t3, ts = [t2, t3] := by
            match ts, tl with
            | [t2, t3], _ => exact ⟨t2, t3, rfl⟩
          have ht2 : H4 t2 = some (.tup [nI (sp x).1, nI (sp x).2]) ∧ H4 t3 = some (.tup [nI (sp z).1, nI (sp z).2]) := by
            cases hts with | cons h h2 => cases h2 with | cons h3 _ => exact ⟨h, h3⟩
          by_cases c0 : s.m.desk = 0
          · have e6 : nxtV s.m.desk ([t2, t3].map V.ref) (.test x z) = .ref t2 := by show (if s.m.desk = 0 then V.ref t2 else V.ref t3) = _; rw [if_pos c0]
            rw [e6]
            refine ⟨_, rfl, rfl, _, rfl, ?_⟩
            refine iteF ?_
            have e7 : (stepM s.m (.test x z)).2 = some x := by show some (if s.m.desk = 0 then x else z) = _; rw [if_pos c0]
            exact ⟨_, _, t2, x, L4, by rw [en]; rfl, keepS b5, D5, eh.trans e7, okr.1, m4.kp b5 _ _ ht2.1, by rw [em]; exact m5, by rw [em]; exact R4, ll4⟩
          · have e6 : nxtV s.m.desk ([t2, t3].map V.ref) (.test x z) = .ref t3 := by show (if s.m.desk = 0 then V.ref t2 else V.ref t3) = _; rw [if_neg c0]
            rw [e6]
            refine ⟨_, rfl, rfl, _, rfl, ?_⟩
            refine iteF ?_
            have e7 : (stepM s.m (.test x z)).2 = some z := by show some (if s.m.desk = 0 then x else z) = _; rw [if_neg c0]
            exact ⟨_, _, t3, z, L4, by rw [en]; rfl, keepS b5, D5, eh.trans e7, okr.2, m4.kp b5 _ _ ht2.2, by rw [em]; exact m5, by rw [em]; exact R4, ll4⟩
        | stop =>
          refine ⟨_, rfl, rfl, _, rfl, ?_⟩
          refine iteT ?_
          have eS := spin_stop eh (show j + 1 ≤ fuel by omega)
          refine hNx _ _ ⟨_, _, .non, L4, by rw [eS, en]; rfl, keepS b5, .inl ⟨rfl, by rw [eS]; exact eh⟩, by rw [eS, em]; exact m5⟩
    · rintro σ H4 ⟨x8, x9, t1, r, L4, rfl, s4, d4, hh, hr, ht1, m4, R4, ll4⟩
      exact ⟨_, _, .ref t1, L4, rfl, s4, .inr ⟨t1, r, rfl, hh⟩, m4⟩

end
end DL
namespace DL
open PySem PySem.Spec L2 DLR
/-! ### tracks of a place exchanged, in data -/
mutual
theorem at_sm {H H' : Hp} (s : Same1 H H') : ∀ (d : D) (v : V), At H v d → At H' v d
  | .non, v, h => by simpa [At] using h
  | .bl b, v, h => by simpa [At] using h
  | .int i, v, h => by simpa [At] using h
  | .str x, v, h => by simpa [At] using h
  | .lst ds, v, h => by
    obtain ⟨a, vs, rfl, h1, h2⟩ : ∃ a vs, v = .ref a ∧ H a = some (.lst vs) ∧ Ats H vs ds := by simpa [At] using h
    have q := ats_sm s ds vs h2
    simp only [At]
    exact ⟨a, vs, rfl, s _ _ h1, q⟩
  | .tup ds, v, h => by
    obtain ⟨a, vs, rfl, h1, h2⟩ : ∃ a vs, v = .ref a ∧ H a = some (.tup vs) ∧ Ats H vs ds := by simpa [At] using h
    have q := ats_sm s ds vs h2
    simp only [At]
    exact ⟨a, vs, rfl, s _ _ h1, q⟩
theorem ats_sm {H H' : Hp} (s : Same1 H H') : ∀ (ds : List D) (vs : List V), Ats H vs ds → Ats H' vs ds
  | [], [], _ => by simp [Ats]
  | d :: ds, v :: vs, h => by
    have h : At H v d ∧ Ats H vs ds := by simpa [Ats] using h
    simp only [Ats]
    exact ⟨at_sm s d v h.1, ats_sm s ds vs h.2⟩
  | [], _ :: _, h => by simp [Ats] at h
  | _ :: _, [], h => by simp [Ats] at h
end
mutual
def D.plain : D → Prop
  | .int _ => True
  | .str _ => True
  | .tup ds => plainL ds
  | _ => False
def plainL : List D → Prop
  | [] => True
  | d :: ds => d.plain ∧ plainL ds
end
def swp (pl one oth : Int) : List D → Option (List D)
  | [.int a, .int b] => if a = pl ∧ (b = one ∨ b = oth) then some [.int pl, .int (one + oth - b)] else none
  | _ => none
mutual
def exD (pl one oth : Int) : D → D
  | .tup ds => .tup ((swp pl one oth ds).getD (exL pl one oth ds))
  | .lst ds => .lst (exL pl one oth ds)
  | d => d
def exL (pl one oth : Int) : List D → List D
  | [] => []
  | d :: ds => exD pl one oth d :: exL pl one oth ds
end
theorem exL_map (pl one oth : Int) : ∀ ds : List D, exL pl one oth ds = ds.map (exD pl one oth)
  | [] => by simp [exL]
  | d :: ds => by simp [exL, exL_map pl one oth ds]
theorem plainL_iff : ∀ {ds : List D}, plainL ds ↔ ∀ x ∈ ds, x.plain
  | [] => by simp [plainL]
  | d :: ds => by simp [plainL, plainL_iff (ds := ds)]
abbrev sEx : Stmt := top 63
abbrev pEx : List Str := ["_law_told","_law_place","_law_one","_law_other"]
abbrev nEx : List Str := ["_law_told","_law_place","_law_one","_law_other","_law_found","_law_part"]
abbrev FEx (K : Frg) (mg : Str → Option Value) := Fd K mg "_law_exchanged" sEx pEx
def spEx (n : Nat) : Sp := fun vs H Q _ => ∃ (v : V) (pl one oth : Int) (d : D), vs = [v, .int pl, .int one, .int oth] ∧ At H v d ∧ d.plain ∧ d.fit ∧ d.dep ≤ n ∧ ∀ v' H', Same1 H H' → At H' v' (exD pl one oth d) → Q v' H'
def spExL (n : Nat) : Sp := fun vs H Q _ => ∃ (a : Addr) (ws : List V) (pl one oth : Int) (ds : List D), vs = [.ref a, .int pl, .int one, .int oth] ∧ H a = some (.lst ws) ∧ Ats H ws ds ∧ plainL ds ∧ ds.length ≤ 100000 ∧ fitL ds ∧ (∀ x ∈ ds, x.dep ≤ n) ∧ ∀ a' ws' H', Same1 H H' → H a' = none → H' a' = some (.lst ws') → Ats H' ws' (ds.map (exD pl one oth)) → Q (.ref a') H'
mutual
theorem plain_flat : ∀ d : D, d.plain → d.flat
  | .int _, _ => by simp [D.flat]
  | .str _, _ => by simp [D.flat]
  | .tup ds, h => by
    have := plainL_flat ds (by simpa [D.plain] using h)
    simpa [D.flat] using this
  | .non, h => by simp [D.plain] at h
  | .bl _, h => by simp [D.plain] at h
  | .lst _, h => by simp [D.plain] at h
theorem plainL_flat : ∀ ds : List D, plainL ds → flatD ds
  | [], _ => by simp [flatD]
  | d :: ds, h => by
    have h : d.plain ∧ plainL ds := by simpa [plainL] using h
    simp only [flatD]
    exact ⟨plain_flat d h.1, plainL_flat ds h.2⟩
end
theorem szl' {n : Nat} (h : n < 100001) : n < sizeLine := Nat.lt_of_lt_of_le h (by decide)
theorem swp_plain {pl one oth : Int} {ds es : List D} (h : swp pl one oth ds = some es) : plainL es := by
  unfold swp at h
  split at h
  · split at h
    · rw [← Option.some.inj h]; simp [plainL, D.plain]
    · cases h
  · cases h
mutual
theorem ex_plain (pl one oth : Int) : ∀ d : D, d.plain → (exD pl one oth d).plain
  | .int _, _ => by simp [exD, D.plain]
  | .str _, _ => by simp [exD, D.plain]
  | .tup ds, h => by
    have q := exL_plain pl one oth ds (by simpa [D.plain] using h)
    cases e : swp pl one oth ds with
    | none => simp only [exD, e, D.plain]; exact q
    | some es => simp only [exD, e, D.plain]; exact swp_plain e
  | .non, h => by simp [D.plain] at h
  | .bl _, h => by simp [D.plain] at h
  | .lst _, h => by simp [D.plain] at h
theorem exL_plain (pl one oth : Int) : ∀ ds : List D, plainL ds → plainL (exL pl one oth ds)
  | [], _ => by simp [exL, plainL]
  | d :: ds, h => by
    have h : d.plain ∧ plainL ds := by simpa [plainL] using h
    simp only [exL, plainL]
    exact ⟨ex_plain pl one oth d h.1, exL_plain pl one oth ds h.2⟩
end
theorem Ats.at {H : Hp} {vs : List V} {ds : List D} {i : Nat} {x : V} (h : Ats H vs ds) (e : vs[i]? = some x) : ∃ d, ds[i]? = some d ∧ At H x d := by
  have hl := h.len
  have hi := (List.getElem?_eq_some_iff.mp e).1
  obtain ⟨v, d, h1, h2, h3⟩ := Ats.get i h (by omega)
  rw [e] at h1
  rw [Option.some.inj h1]
  exact ⟨d, h2, h3⟩
theorem ats_snoc {H : Hp} {vs : List V} {ds : List D} {v : V} {d : D} (h : Ats H vs ds) (g : At H v d) : Ats H (vs ++ [v]) (ds ++ [d]) := ats_app h (ats_cons g ats_nil)
section
variable {P : Program} {w : World} {K : PySem.W.Frag} {mg : Str → Option Value} {base : Heap}
theorem scEx : FnScope nEx pEx (defScope sEx) := ⟨rfl, rfl, rfl, by decide +kernel, rfl, by decide +kernel, by decide +kernel⟩
theorem kit_tl {t : String} {b : Bool} (h : kitB t "tuple" = some false) (h2 : kitB t "list" = some b) : PySem.W.kitAny K (.type t) [.type "tuple", .type "list"] = some b := by
  refine kitAny_cons (kit_ty h) (fun _ => kitAny_cons (kit_ty h2) (fun e => ?_) (fun e => e)) (fun z => by cases z)
  rw [e]; rfl
theorem kit_tl1 {t : String} (h : kitB t "tuple" = some true) : PySem.W.kitAny K (.type t) [.type "tuple", .type "list"] = some true :=
  kitAny_cons (kit_ty h) (fun z => by cases z) (fun _ => rfl)
theorem ex_one {f : Addr} {fd : FuncData} {k n : Nat} {sp : Sp} (F : Fun K "_law_exchanged" "_law_exchanged" sEx f fd) (b : Binds K fd pEx []) (m : mg "_law_exchanged" = some (.ref f)) (T : Bt mg)
    (G : FnOk P w K mg base CX0 k f fd pEx sp) (hk : ∀ (v : V) (pl one oth : Int) (d : D) H (Q : VK) E, At H v d → d.plain → d.fit → d.dep + 1 ≤ n → (∀ v' H', Same1 H H' → At H' v' (exD pl one oth d) → Q v' H') → sp [v, .int pl, .int one, .int oth] H Q E) :
    FnOk P w K mg base CX0 (k + 1) f fd pEx (spEx n) := by
  refine F.ok scEx (fun vs H Q E h => ?_) (fun cdv A outer s H vs Q E hr h => ?_)
  · obtain ⟨v, pl, one, oth, d, rfl, _⟩ := h
    rfl
  · obtain ⟨v, pl, one, oth, d, rfl, hv, hp, hf, hn, kk⟩ := h
    refine ⟨_, (pss_cons (ps_if (PW.pt (pw_and (pt_val (pe_callB call_isi (by rfl) T.isinstance (by decide +kernel) (pa_cons (pv 0) (pa_cons (pe_bltn (v := .ty "tuple") (by rfl) T.tuple (by decide +kernel) rfl) pa_nil)))) (pw_and (pt_cmpR op_eq (pe_callB call_len_seq (by rfl) T.len PySem.boot_len (pa_cons (pv 0) pa_nil)) pe_int (nomark _)) (pw_and (pt_val (pe_callB call_isi (by rfl) T.isinstance (by decide +kernel) (pa_cons (pe_ix ix_tup (pv 0) pe_int (fun _ _ => rfl)) (pa_cons (pe_bltn (v := .ty "int") (by rfl) T.int (by decide +kernel) rfl) pa_nil)))) (pw_and1 (pt_val (pe_callB call_isi (by rfl) T.isinstance (by decide +kernel) (pa_cons (pe_ix ix_tup (pv 0) pe_int (fun _ _ => rfl)) (pa_cons (pe_bltn (v := .ty "int") (by rfl) T.int (by decide +kernel) rfl) pa_nil)))))))))
          (pss_cons (ps_if (PW.pt (pw_and (pt_cmpR op_eq (pe_ix ix_tup (pv 0) pe_int (fun _ _ => rfl)) (pv 1) (nomark _)) (pw_and1 (pt_cmpR op_in_seq (pe_ix ix_tup (pv 0) pe_int (fun _ _ => rfl)) (pe_tup (pa_cons (pv 2) (pa_cons (pv 3) pa_nil))) rfl))))
              (pss_one (ps_ret (pe_tup (pa_cons (pv 1) (pa_cons (pe_op op_sub (pe_op op_add (pv 2) (pv 3)) (pe_ix ix_tup (pv 0) pe_int (fun _ _ => rfl))) pa_nil)))))
              pss_nil)
          (pss_one (ps_ret (pv 0))))
          pss_nil)
      (pss_cons (ps_if (pt_val (pe_callB call_isiT (by rfl) T.isinstance (by decide +kernel) (pa_cons (pv 0) (pa_cons (pe_tup (pa_cons (pe_bltn (v := .ty "tuple") (by rfl) T.tuple (by decide +kernel) rfl) (pa_cons (pe_bltn (v := .ty "list") (by rfl) T.list (by decide +kernel) rfl) pa_nil))) pa_nil))))
          (pss_cons (ps_setLc (i := 4) (own := [("_law_part", 5)]) (g := gName 5) (tt := tYes) rfl scEx.nd rfl rfl (sw_true rfl rfl rfl (by decide +kernel)) (pi_tup (pv 0)) (blkOk_by (N := nEx) (sc := defScope sEx) (by decide +kernel)) (fun _ _ _ _ _ => (pg_name (i := 5) scEx.nd rfl (Or.inl rfl))) (fun _ _ _ _ _ => pts_nil) (fun _ _ _ _ _ => (pe_call G hr (by rfl) m F.kp b .nil pass0 (pa_cons (pv 5) (pa_cons (pv 1) (pa_cons (pv 2) (pa_cons (pv 3) pa_nil)))))))
          (pss_one (ps_ret (pe_ifExp (pt_val (pe_callB call_isi (by rfl) T.isinstance (by decide +kernel) (pa_cons (pv 0) (pa_cons (pe_bltn (v := .ty "tuple") (by rfl) T.tuple (by decide +kernel) rfl) pa_nil)))) (pe_callTy call_tuple_of (by rfl) T.tuple (by decide +kernel) (pa_cons (pv 4) pa_nil)) (pv 4)))))
          pss_nil)
      (pss_one (ps_ret (pv 0))))), ?_⟩
    have leaf : ∀ (t : String) (d : D), d.ty = t → At H v d → kitB t "tuple" = some false → kitB t "list" = some false → (∀ H', Same1 H H' → Q v H') → True := fun _ _ _ _ _ _ _ => trivial
    cases d with
    | non => simp [D.plain] at hp
    | bl b => simp [D.plain] at hp
    | lst ds => simp [D.plain] at hp
    | int i =>
      have e := at_int_inv hv
      subst e
      refine ⟨_, rfl, _, _, _, _, false, rfl, .ty _, hv.ty, kit_ty (by dsimp only [D.ty]; decide +kernel), _, rfl, iteF ?_⟩
      refine iteF ?_
      dsimp only [tNext]
      refine ⟨_, rfl, (by show 2 ≤ sizeLine; decide), fun tp htp => ?_⟩
      refine alloc htp fun H1 s1 e1 => ?_
      have hv1 := at_sm s1 _ _ hv
      refine ⟨_, tp, _, _, _, false, rfl, e1, .cons (.ty _) (.cons (.ty _) .nil), hv1.ty, kit_tl (by dsimp only [D.ty]; decide +kernel) (by dsimp only [D.ty]; decide +kernel), _, rfl, iteF ?_⟩
      dsimp only [tNext]
      exact ⟨_, rfl, kk _ H1 s1 (by simpa only [exD] using hv1)⟩
    | str z =>
      have e := at_str_inv hv
      subst e
      refine ⟨_, rfl, _, _, _, _, false, rfl, .ty _, hv.ty, kit_ty (by dsimp only [D.ty]; decide +kernel), _, rfl, iteF ?_⟩
      refine iteF ?_
      dsimp only [tNext]
      refine ⟨_, rfl, (by show 2 ≤ sizeLine; decide), fun tp htp => ?_⟩
      refine alloc htp fun H1 s1 e1 => ?_
      have hv1 := at_sm s1 _ _ hv
      refine ⟨_, tp, _, _, _, false, rfl, e1, .cons (.ty _) (.cons (.ty _) .nil), hv1.ty, kit_tl (by dsimp only [D.ty]; decide +kernel) (by dsimp only [D.ty]; decide +kernel), _, rfl, iteF ?_⟩
      dsimp only [tNext]
      exact ⟨_, rfl, kk _ H1 s1 (by simpa only [exD] using hv1)⟩
    | tup ds =>
      have hv0 := hv
      obtain ⟨a, us, rfl, ha, hus⟩ := at_tup_inv hv
      have hlen := hus.len
      have hpl : plainL ds := by simpa only [D.plain] using hp
      obtain ⟨hfl, hfL⟩ := D.fit_of (.inr rfl) hf
      have hdn : depL ds + 1 ≤ n := hn
      refine seq_elim (fun σ H' => σ = [some (.ref a), some (.int pl), some (.int one), some (.int oth), none, none] ∧ H' = H ∧ swp pl one oth ds = none) ?_ ?_
      · rintro σ H' ⟨rfl, rfl, hsw⟩
        refine ⟨_, rfl, (by show 2 ≤ sizeLine; decide), fun tp htp => ?_⟩
        refine alloc htp fun H1 s1 e1 => ?_
        have hv1 := at_sm s1 _ _ hv0
        refine ⟨_, tp, _, _, _, true, rfl, e1, .cons (.ty _) (.cons (.ty _) .nil), hv1.ty, kit_tl1 (by dsimp only [D.ty]; decide +kernel), _, rfl, iteT ?_⟩
        refine ⟨_, rfl, a, rfl, ⟨_, SqT.of (s1 _ _ ha)⟩, fun D hD => ?_⟩
        refine lc_tup (K := K) (a := a) (xs := us) (fun i H' => ∃ ws : List V, Same1 H1 H' ∧ H' D = some (.lst ws) ∧ Ats H' ws ((exL pl one oth ds).take i)) ⟨[], Same.new hD, upd_same, ats_nil⟩ (fun i H' _ ⟨_, q, _⟩ => SqT.of (q _ _ (s1 _ _ ha))) ?_ ?_
        · rintro i x H2 hi ⟨ws, s2, d2, hws⟩
          obtain ⟨d, hd, hat⟩ := (ats_sm (s1.trans s2) _ _ hus).at hi
          have hdm := List.mem_of_getElem? hd
          have hil := (List.getElem?_eq_some_iff.mp hd).1
          have dd := depL_get hd
          have hdp := plainL_iff.mp hpl d hdm
          refine ⟨rfl, _, rfl, _, rfl, _, rfl, _, rfl, ?_⟩
          refine hk x pl one oth d H2 _ _ hat hdp (fitL_iff.mp hfL d hdm) (by omega) fun v' H3 s3 hat3 => ?_
          have d3 := s3 _ _ d2
          have wl := hws.len
          rw [List.length_take] at wl
          have ex : (exL pl one oth ds)[i]? = some (exD pl one oth d) := by rw [exL_map, List.getElem?_map, hd]; rfl
          refine ⟨ws, d3, szl' (by omega), ws ++ [v'], Same.mut (s2.trans s3) hD, upd_same, ?_⟩
          rw [take_snoc ex]
          have q : Ats H3 (ws ++ [v']) ((exL pl one oth ds).take i ++ [exD pl one oth d]) := ats_snoc (ats_sm s3 _ _ hws) hat3
          refine Ats.keep (Kp.lst d3) _ _ ?_ q
          refine flatD_iff.mpr fun z hz => ?_
          have all : ∀ z ∈ exL pl one oth ds, z.flat := fun z hz => plain_flat _ (plainL_iff.mp (exL_plain pl one oth ds hpl) z hz)
          rcases List.mem_append.mp hz with m | m
          · exact all z (List.mem_of_mem_take m)
          · rw [List.mem_singleton.mp m]
            exact all _ (List.mem_of_getElem? ex)
        · rintro H2 ⟨ws, s2, d2, hws⟩
          have el : (exL pl one oth ds).length = ds.length := by rw [exL_map, List.length_map]
          rw [hlen, ← el, List.take_length] at hws
          dsimp only [gName]
          have hv2 := at_sm (s1.trans s2) _ _ hv0
          have kt : kitB "tuple" "tuple" = some true := by decide +kernel
          refine ⟨_, rfl, _, _, _, _, true, rfl, .ty _, hv2.ty, kit_ty kt, _, rfl, iteT ?_⟩
          refine ⟨_, rfl, D, _, rfl, .inl ⟨SqL.of d2, fun l hl => ?_⟩⟩
          refine alloc hl fun H3 s3 e3 => ?_
          refine kk _ H3 ((s1.trans s2).trans s3) ?_
          simp only [exD, hsw]
          exact at_tup e3 (ats_sm s3 _ _ hws)
      intro N hN
      refine if_elim (fun bb H' => H' = H ∧ (bb = true → ∃ i j, ds = [.int i, .int j]) ∧ (bb = false → swp pl one oth ds = none)) ?_ ?_
      · rintro bb H' ⟨rfl, h1, h2⟩
        cases bb with
        | false => exact iteF (hN _ _ ⟨rfl, rfl, h2 rfl⟩)
        | true =>
          obtain ⟨i, j, rfl⟩ := h1 rfl
          refine iteT ?_
          have hl2 : us.length = 2 := hlen
          obtain ⟨v1, u1, rfl, g1, g2⟩ := ats_cons_inv hus
          obtain ⟨v2, u2, rfl, g3, g4⟩ := ats_cons_inv g2
          have z0 := ats_nil_inv g4
          have z1 := at_int_inv g1
          have z2 := at_int_inv g3
          subst z0 z1 z2
          refine seq_elim (fun σ H1 => σ = [some (.ref a), some (.int pl), some (.int one), some (.int oth), none, none] ∧ Same1 H' H1 ∧ swp pl one oth [.int i, .int j] = none) ?_ ?_
          · rintro σ H1 ⟨rfl, s1, hsw⟩
            refine ⟨_, rfl, kk _ H1 s1 ?_⟩
            have e : exD pl one oth (.tup [.int i, .int j]) = .tup [.int i, .int j] := by simp only [exD, hsw, exL]; rfl
            rw [e]
            exact at_sm s1 _ _ hv0
          intro N2 hN2
          refine if_elim (fun bb H1 => Same1 H' H1 ∧ bb = decide (i = pl ∧ (j = one ∨ j = oth))) ?_ ?_
          · rintro bb H1 ⟨s1, rfl⟩
            by_cases c : i = pl ∧ (j = one ∨ j = oth)
            · rw [decide_eq_true c]
              refine iteT ?_
              refine ⟨_, rfl, _, rfl, _, rfl, _, _, rfl, rfl, _, rfl, a, _, _, _, rfl, rfl, SqT.of (s1 _ _ ha), at1, _, _, rfl, rfl, (by show 2 ≤ sizeLine; decide), fun t2 ht2 => ?_⟩
              refine alloc ht2 fun H2 s2 e2 => ?_
              refine kk _ H2 (s1.trans s2) ?_
              have e : exD pl one oth (.tup [.int i, .int j]) = .tup [.int pl, .int (one + oth - j)] := by
                simp only [exD, swp, if_pos c]
                rfl
              rw [e]
              exact at_tup e2 (ats_cons at_int (ats_cons at_int ats_nil))
            · rw [decide_eq_false c]
              refine iteF (hN2 _ _ ⟨rfl, s1, ?_⟩)
              simp only [swp, if_neg c]
          · intro F' hF
            refine ⟨_, rfl, a, _, _, _, rfl, rfl, SqT.of ha, at0, _, rfl, rfl, _, rfl, ?_⟩
            by_cases c1 : i = pl
            · rw [decide_eq_true (show V.int i = V.int pl by rw [c1])]
              refine iteT ?_
              refine ⟨_, rfl, a, _, _, _, rfl, rfl, SqT.of ha, at1, _, rfl, _, rfl, (by show 2 ≤ sizeLine; decide), fun t ht => ?_⟩
              refine alloc ht fun H1 s1 e1 => ?_
              refine ⟨t, _, rfl, .inr (SqT.of e1), rfl, rfl, _, rfl, ?_⟩
              refine hF _ _ ⟨s1, ?_⟩
              show (((one == j) || ((oth == j) || false))) = _
              rw [Bool.eq_iff_iff, Bool.or_false, Bool.or_eq_true, beq_iff_eq, beq_iff_eq, decide_eq_true_iff]
              exact ⟨fun h => ⟨c1, h.elim (fun z => .inl z.symm) fun z => .inr z.symm⟩, fun h => h.2.elim (fun z => .inl z.symm) fun z => .inr z.symm⟩
            · rw [decide_eq_false (show ¬ V.int i = V.int pl from fun z => c1 (V.int.inj z))]
              refine iteF (hF _ _ ⟨Same.refl _, ?_⟩)
              exact (decide_eq_false fun h => c1 h.1).symm
      · intro F' hF
        refine ⟨_, rfl, _, _, _, _, true, rfl, .ty _, hv0.ty, kit_ty (by dsimp only [D.ty]; decide +kernel), _, rfl, iteT ?_⟩
        refine ⟨_, rfl, a, _, rfl, .inr (SqT.of ha), rfl, _, rfl, ?_⟩
        have no : ∀ {b : Bool}, (b = true → False) → True := fun _ => trivial
        by_cases c2 : us.length = 2
        · rw [decide_eq_true (show V.int (us.length : Int) = V.int 2 by rw [c2]; rfl)]
          refine iteT ?_
          obtain ⟨x, y, rfl⟩ : ∃ x y, ds = [x, y] := by
            match ds, (hlen.symm.trans c2 : ds.length = 2) with
            | [x, y], _ => exact ⟨x, y, rfl⟩
          obtain ⟨v1, u1, rfl, g1, g2⟩ := ats_cons_inv hus
          obtain ⟨v2, u2, rfl, g3, g4⟩ := ats_cons_inv g2
          have hp2 : x.plain ∧ y.plain ∧ True := by simpa [plainL] using hpl
          refine ⟨_, rfl, a, _, _, _, rfl, rfl, SqT.of ha, at0, ?_⟩
          have isi : ∀ {d : D} {v : V}, d.plain → At H v d → ∃ b, kitB d.ty "int" = some b ∧ (b = true ↔ ∃ i, d = .int i) := fun {d v} hd _ => by
            cases d with
            | int i => exact ⟨true, by dsimp only [D.ty]; decide +kernel, fun _ => ⟨i, rfl⟩, fun _ => rfl⟩
            | str z => exact ⟨false, by dsimp only [D.ty]; decide +kernel, (fun h => by cases h), fun ⟨i, h⟩ => by cases h⟩
            | tup z => exact ⟨false, by dsimp only [D.ty]; decide +kernel, (fun h => by cases h), fun ⟨i, h⟩ => by cases h⟩
            | _ => simp [D.plain] at hd
          obtain ⟨b1, k1, i1⟩ := isi hp2.1 g1
          obtain ⟨b2, k2, i2⟩ := isi hp2.2.1 g3
          refine ⟨_, _, _, _, b1, rfl, .ty _, g1.ty, kit_ty k1, _, rfl, ?_⟩
          have none_of : (¬ ∃ i j, [x, y] = [D.int i, D.int j]) → swp pl one oth [x, y] = none := fun h => by
            unfold swp
            split
            · rename_i i j e
              exact absurd ⟨i, j, e⟩ h
            · rfl
          cases b1 with
          | false =>
            refine iteF (hF _ _ ⟨rfl, (fun z => by cases z), fun _ => none_of ?_⟩)
            rintro ⟨i, j, e⟩
            have := i1.mpr ⟨i, (List.cons.inj e).1⟩
            cases this
          | true =>
            refine iteT ?_
            refine ⟨_, rfl, a, _, _, _, rfl, rfl, SqT.of ha, at1, ?_⟩
            refine ⟨_, _, _, _, b2, rfl, .ty _, g3.ty, kit_ty k2, _, rfl, ?_⟩
            refine hF _ _ ⟨rfl, fun z => ?_, fun z => none_of ?_⟩
            · obtain ⟨i, ei⟩ := i1.mp rfl
              obtain ⟨j, ej⟩ := i2.mp z
              exact ⟨i, j, by rw [ei, ej]⟩
            · rintro ⟨i, j, e⟩
              have q := i2.mpr ⟨j, (List.cons.inj (List.cons.inj e).2).1⟩
              rw [z] at q
              cases q
        · rw [decide_eq_false (show ¬ V.int (us.length : Int) = V.int 2 from fun z => c2 (by have := V.int.inj z; omega))]
          refine iteF (hF _ _ ⟨rfl, (fun z => by cases z), fun _ => ?_⟩)
          unfold swp
          split
          · exact absurd hlen c2
          · rfl
theorem ok_ex {f : Addr} {fd : FuncData} (F : Fun K "_law_exchanged" "_law_exchanged" sEx f fd) (b : Binds K fd pEx []) (m : mg "_law_exchanged" = some (.ref f)) (T : Bt mg) :
    ∀ n : Nat, FnOk P w K mg base CX0 (n + 1) f fd pEx (spEx n)
  | 0 => ex_one F b m T (ok_no (k := 0)) (fun _ _ _ _ _ _ _ _ _ _ _ h _ => by omega)
  | n + 1 => ex_one F b m T (ok_ex F b m T n) (fun v pl one oth d H Q E h1 h2 h3 h4 q => ⟨v, pl, one, oth, d, rfl, h1, h2, h3, by omega, q⟩)
theorem ok_exL {f : Addr} {fd : FuncData} {n : Nat} (F : Fun K "_law_exchanged" "_law_exchanged" sEx f fd) (b : Binds K fd pEx []) (m : mg "_law_exchanged" = some (.ref f)) (T : Bt mg) : FnOk P w K mg base CX0 (n + 2) f fd pEx (spExL n) := by
  have G : FnOk P w K mg base CX0 (n + 1) f fd pEx (spEx n) := ok_ex F b m T n
  refine F.ok scEx (fun vs H Q E h => ?_) (fun cdv A outer s H vs Q E hr h => ?_)
  · obtain ⟨a, ws, pl, one, oth, ds, rfl, _⟩ := h
    rfl
  · obtain ⟨a, us, pl, one, oth, ds, rfl, ha, hus, hpl, hfl, hfL, hdn, kk⟩ := h
    refine ⟨_, (pss_cons (ps_if (PW.pt (pw_and (pt_val (pe_callB call_isi (by rfl) T.isinstance (by decide +kernel) (pa_cons (pv 0) (pa_cons (pe_bltn (v := .ty "tuple") (by rfl) T.tuple (by decide +kernel) rfl) pa_nil)))) (pw_and (pt_cmpR op_eq (pe_callB call_len_seq (by rfl) T.len PySem.boot_len (pa_cons (pv 0) pa_nil)) pe_int (nomark _)) (pw_and (pt_val (pe_callB call_isi (by rfl) T.isinstance (by decide +kernel) (pa_cons (pe_ix ix_tup (pv 0) pe_int (fun _ _ => rfl)) (pa_cons (pe_bltn (v := .ty "int") (by rfl) T.int (by decide +kernel) rfl) pa_nil)))) (pw_and1 (pt_val (pe_callB call_isi (by rfl) T.isinstance (by decide +kernel) (pa_cons (pe_ix ix_tup (pv 0) pe_int (fun _ _ => rfl)) (pa_cons (pe_bltn (v := .ty "int") (by rfl) T.int (by decide +kernel) rfl) pa_nil)))))))))
          (pss_cons (ps_if (PW.pt (pw_and (pt_cmpR op_eq (pe_ix ix_tup (pv 0) pe_int (fun _ _ => rfl)) (pv 1) (nomark _)) (pw_and1 (pt_cmpR op_in_seq (pe_ix ix_tup (pv 0) pe_int (fun _ _ => rfl)) (pe_tup (pa_cons (pv 2) (pa_cons (pv 3) pa_nil))) rfl))))
              (pss_one (ps_ret (pe_tup (pa_cons (pv 1) (pa_cons (pe_op op_sub (pe_op op_add (pv 2) (pv 3)) (pe_ix ix_tup (pv 0) pe_int (fun _ _ => rfl))) pa_nil)))))
              pss_nil)
          (pss_one (ps_ret (pv 0))))
          pss_nil)
      (pss_cons (ps_if (pt_val (pe_callB call_isiT (by rfl) T.isinstance (by decide +kernel) (pa_cons (pv 0) (pa_cons (pe_tup (pa_cons (pe_bltn (v := .ty "tuple") (by rfl) T.tuple (by decide +kernel) rfl) (pa_cons (pe_bltn (v := .ty "list") (by rfl) T.list (by decide +kernel) rfl) pa_nil))) pa_nil))))
          (pss_cons (ps_setLc (i := 4) (own := [("_law_part", 5)]) (g := gName 5) (tt := tYes) rfl scEx.nd rfl rfl (sw_true rfl rfl rfl (by decide +kernel)) (pi_list (pv 0)) (blkOk_by (N := nEx) (sc := defScope sEx) (by decide +kernel)) (fun _ _ _ _ _ => (pg_name (i := 5) scEx.nd rfl (Or.inl rfl))) (fun _ _ _ _ _ => pts_nil) (fun _ _ _ _ _ => (pe_call G hr (by rfl) m F.kp b .nil pass0 (pa_cons (pv 5) (pa_cons (pv 1) (pa_cons (pv 2) (pa_cons (pv 3) pa_nil)))))))
          (pss_one (ps_ret (pe_ifExp (pt_val (pe_callB call_isi (by rfl) T.isinstance (by decide +kernel) (pa_cons (pv 0) (pa_cons (pe_bltn (v := .ty "tuple") (by rfl) T.tuple (by decide +kernel) rfl) pa_nil)))) (pe_callTy call_tuple_of (by rfl) T.tuple (by decide +kernel) (pa_cons (pv 4) pa_nil)) (pv 4)))))
          pss_nil)
      (pss_one (ps_ret (pv 0))))), ?_⟩
    have hlen := hus.len
    have tl : ∀ {H' : Hp}, H' a = some (.lst us) → TyX K H' (.ref a) (.type "list") := fun e => .base (.lst e)
    have kt : kitB "list" "tuple" = some false := by decide +kernel
    refine ⟨_, rfl, _, _, _, _, false, rfl, .ty _, tl ha, kit_ty kt, _, rfl, iteF ?_⟩
    refine iteF ?_
    dsimp only [tNext]
    refine ⟨_, rfl, (by show 2 ≤ sizeLine; decide), fun tp htp => ?_⟩
    refine alloc htp fun H1 s1 e1 => ?_
    refine ⟨_, tp, _, _, _, true, rfl, e1, .cons (.ty _) (.cons (.ty _) .nil), tl (s1 _ _ ha), kit_tl kt (by decide +kernel), _, rfl, iteT ?_⟩
    refine ⟨_, rfl, a, rfl, ⟨_, SqL.of (s1 _ _ ha)⟩, fun D hD => ?_⟩
    refine lc_list (K := K) (a := a) (xs := us) (fun i H' => ∃ ws : List V, Same1 H1 H' ∧ H' D = some (.lst ws) ∧ Ats H' ws ((ds.map (exD pl one oth)).take i)) ⟨[], Same.new hD, upd_same, ats_nil⟩ (fun i H' _ ⟨_, q, _⟩ => SqL.of (q _ _ (s1 _ _ ha))) ?_ ?_
    · rintro i x H2 hi ⟨ws, s2, d2, hws⟩
      obtain ⟨d, hd, hat⟩ := (ats_sm (s1.trans s2) _ _ hus).at hi
      have hdm := List.mem_of_getElem? hd
      have hil := (List.getElem?_eq_some_iff.mp hd).1
      have hdp := plainL_iff.mp hpl d hdm
      refine ⟨rfl, _, rfl, _, rfl, _, rfl, _, rfl, x, pl, one, oth, d, rfl, hat, hdp, fitL_iff.mp hfL d hdm, hdn d hdm, fun v' H3 s3 hat3 => ?_⟩
      have d3 := s3 _ _ d2
      have wl := hws.len
      rw [List.length_take] at wl
      have ex : (ds.map (exD pl one oth))[i]? = some (exD pl one oth d) := by rw [List.getElem?_map, hd]; rfl
      refine ⟨ws, d3, szl' (by omega), ws ++ [v'], Same.mut (s2.trans s3) hD, upd_same, ?_⟩
      rw [take_snoc ex]
      have q : Ats H3 (ws ++ [v']) ((ds.map (exD pl one oth)).take i ++ [exD pl one oth d]) := ats_snoc (ats_sm s3 _ _ hws) hat3
      refine Ats.keep (Kp.lst d3) _ _ ?_ q
      refine flatD_iff.mpr fun z hz => ?_
      have all : ∀ z ∈ ds.map (exD pl one oth), z.flat := fun z hz => by
        obtain ⟨y, hy, rfl⟩ := List.mem_map.mp hz
        exact plain_flat _ (ex_plain pl one oth y (plainL_iff.mp hpl y hy))
      rcases List.mem_append.mp hz with m | m
      · exact all z (List.mem_of_mem_take m)
      · rw [List.mem_singleton.mp m]
        exact all _ (List.mem_of_getElem? ex)
    · rintro H2 ⟨ws, s2, d2, hws⟩
      rw [hlen, ← List.length_map (as := ds) (f := exD pl one oth), List.take_length] at hws
      dsimp only [gName]
      refine ⟨_, rfl, _, _, _, _, false, rfl, .ty _, tl ((s1.trans s2) _ _ ha), kit_ty kt, _, rfl, iteF ?_⟩
      exact ⟨_, rfl, kk D ws H2 (s1.trans s2) (s1.free hD) d2 hws⟩
end
end DL
namespace DLR
open PySem PySem.Spec PyProof.Rows L2 LamX
/-! ### a lambda as a value: with or without one default, kept in lists, called later by a def that gets it -/
abbrev lamFd (q : Str) (ps : Arguments) (b : Expr) (sc : Scope) (cl : List (Str × Addr)) (dV doc pm cdv ct : Value) : FuncData := PySem.W.kdv_fn "<lambda>" q ps (.expr b) sc cl dV doc pm cdv ct
abbrev lamOb (q : Str) (ps : Arguments) (b : Expr) (sc : Scope) (cl : List (Str × Addr)) (dV doc pm : Value) (c' : Addr) (ct : Value) : Obj := PySem.W.kdv_obj "<lambda>" q ps (.expr b) sc cl dV doc pm c' ct
def LamO (f : Addr) (o : Obj) : HO := .ext fun h => h.get? f = some o
theorem lamO_ne {f : Addr} {o : Obj} (ps : Array Value) : LamO f o ≠ .tbl ps := fun z => by
  unfold LamO at z
  cases z
section
variable {X : Cx} {pins : List (Addr × Obj)} {σ : L2.St} {H : Hp} {s : Shared}
theorem tabs_more {T : List (Addr × Str)} {P c' : Addr} {q : Str} {pos : Pos} {ps : Array Value} (hT : Tabs T H) (hP : H P = some (.tbl ps)) (ht : TriplesOk ps.toList) (hu : ∀ p ∈ T, p.1 = P → p.2 = q)
    (ha : ∀ (pos : Pos) (cv : Value), codeAmong pos ps.toList = some cv → ∃ c, cv = .ref c ∧ H c = some (CodeO c q)) (nC : H c' = none) :
    ExtN H (upd (upd H P (.tbl (ps ++ #[rawInt pos.line, rawInt pos.col, .ref c']))) c' (CodeO c' q)) ∧ Tabs T (upd (upd H P (.tbl (ps ++ #[rawInt pos.line, rawInt pos.col, .ref c']))) c' (CodeO c' q)) := by
  have nPc : P ≠ c' := ne_of_none hP nC
  have ext : ExtN H (upd (upd H P (.tbl (ps ++ #[rawInt pos.line, rawInt pos.col, .ref c']))) c' (CodeO c' q)) := fun b o e n => by
    have n1 : b ≠ c' := ne_of_none e nC
    have n2 : b ≠ P := fun z => by
      subst z
      exact n ps (Option.some.inj (e.symm.trans hP))
    rw [upd_ne n1, upd_ne n2, e]
  refine ⟨ext, fun p hp => ?_⟩
  have eL : (ps ++ #[rawInt pos.line, rawInt pos.col, .ref c']).toList = ps.toList ++ [rawInt pos.line, rawInt pos.col, .ref c'] := by simp
  by_cases hb : p.1 = P
  · refine ⟨ps ++ #[rawInt pos.line, rawInt pos.col, .ref c'], ?_, ?_, fun p' cv hcv => ?_⟩
    · rw [hb, upd_ne nPc, upd_same]
    · rw [eL]
      exact PySem.TriplesOk_snoc _ _ _ _ ht
    · rw [eL] at hcv
      rw [hu p hp hb]
      rcases among_app _ ht hcv with z | rfl
      · obtain ⟨c0, rfl, e2⟩ := ha p' cv z
        exact ⟨c0, rfl, ext _ _ e2 codeO_ne⟩
      · exact ⟨c', rfl, upd_same⟩
  · obtain ⟨ps', a1, a2, a3⟩ := hT p hp
    refine ⟨ps', ?_, a2, fun p' cv hcv => ?_⟩
    · rw [upd_ne (ne_of_none a1 nC), upd_ne hb, a1]
    · obtain ⟨c0, rfl, e2⟩ := a3 p' cv hcv
      exact ⟨c0, rfl, ext _ _ e2 codeO_ne⟩
theorem lam_tail {T : List (Addr × Str)} {c P : Addr} {params : Arguments} {body : Expr} {scope : Scope} {pos : Pos} {E : Value → Shared → Prop} {Q : Value → Shared → Prop} {dV : Value} (I : Inv X pins σ H s) (TB : TabB X.base X.mg c P) (hcode : X.env.code = .ref c)
    (hm : (P, X.env.qual ++ "<lambda>") ∈ T) (hu : ∀ p ∈ T, p.1 = P → p.2 = X.env.qual ++ "<lambda>") (hT : Tabs T H) (hfree : ∀ y ∈ scope.names, y.2 = .free → ∃ c, X.env.cells.lookup y.1 = some c)
    (h : ∀ (f c' : Addr) (doc pm ctv : Value) (H1 : Hp) (s' : Shared), Inv X pins σ H1 s' → ExtN H H1 → Tabs T H1 → H f = none →
      H1 f = some (LamO f (lamOb (X.env.qual ++ "<lambda>") params body scope (cloFrom X.env.cells scope.names []) dV doc pm c' ctv)) → H1 c' = some (CodeO c' (X.env.qual ++ "<lambda>")) → Q (.ref f) s') :
    wpAny (model X.prog X.w) X.A (makeTail "<lambda>" (X.env.qual ++ "<lambda>") params (.expr body) scope X.env dV .none none pos pos.line) Q E s := by
  obtain ⟨ps, hP, ht, ha⟩ := hT _ hm
  have bP : s.heap.BuiltinsAt X.mg P := TB.bm.keeps I.bk
  have hP' : s.heap.get? P = some { cls := .none, data := .fields ps } := I.hok P _ hP
  have fin : ∀ (h' : Heap) (tk tk2 : Nat) (H' : Hp) (c' : Addr) (doc pm ctv : Value), s.heap.objs.size ≤ h'.objs.size → Inv X pins σ H' { s with heap := h', toks := tk } → ExtN H H' → Tabs T H' → H' c' = some (CodeO c' (X.env.qual ++ "<lambda>")) →
      Q (.ref h'.objs.size) { s with heap := h'.push (lamOb (X.env.qual ++ "<lambda>") params body scope (cloFrom X.env.cells scope.names []) dV doc pm c' ctv), toks := tk2 } := by
    intro h' tk tk2 H' c' doc pm ctv hsz J e1 t1 hc
    have nF : H' h'.objs.size = none := J.hok.fresh (Nat.le_refl _)
    have J2 := J.laid (a := h'.objs.size) (o := LamO h'.objs.size (lamOb (X.env.qual ++ "<lambda>") params body scope (cloFrom X.env.cells scope.names []) dV doc pm c' ctv))
      (h' := h'.push (lamOb (X.env.qual ++ "<lambda>") params body scope (cloFrom X.env.cells scope.names []) dV doc pm c' ctv)) (t' := tk2)
      (fun b u e => Heap.get?_push_of_some _ e) (Nat.le_refl _) ⟨Heap.get?_push_size _ rfl, ⟨_, Heap.get?_push_size _ rfl⟩, fun h1 h2 p st => st _ p⟩
    have st : ∀ b o, H' b = some o → upd H' h'.objs.size (LamO h'.objs.size (lamOb (X.env.qual ++ "<lambda>") params body scope (cloFrom X.env.cells scope.names []) dV doc pm c' ctv)) b = some o := fun b o e => by
      rw [upd_ne (ne_of_none e nF), e]
    exact h _ c' doc pm ctv _ _ J2 (e1.trans (ExtN.of st)) (t1.ext st) (I.hok.fresh hsz) upd_same (st _ _ hc)
  cases hc : codeAmong pos ps.toList with
  | none =>
    refine PySem.W.kdv_makeTail (mg := X.mg) (c := c) (P := P) (ps := ps) (closure_ok hfree) I.ok.glob (I.mod.glob.keeps I.bk) hcode (TB.code.keeps I.bk) hP' ht hc TB.gP bP fun c' ctv doc h' tk hx hge hlt hrec htb => ?_
    obtain ⟨c2, oc, vs, t, e2, hoc, hd, hv⟩ := hrec
    cases e2
    have nC : H c' = none := I.hok.fresh hge
    obtain ⟨x1, x2⟩ := tabs_more (pos := pos) hT hP ht hu ha nC
    exact fin h' tk tk _ c' doc _ ctv (Nat.le_trans hge (Nat.le_of_lt hlt)) (inv_table (t' := tk) (more := #[rawInt pos.line, rawInt pos.col, .ref c']) I hP hx htb hge ⟨oc, vs, t, hoc, hd, hv⟩) x1 x2 upd_same
  | some cv =>
    obtain ⟨c', rfl, hco⟩ := ha pos cv hc
    refine PySem.W.kdv_makeTailHit (mg := X.mg) (c := c) (P := P) (ps := ps) (closure_ok hfree) I.ok.glob (I.mod.glob.keeps I.bk) hcode (TB.code.keeps I.bk) hP' ht hc bP fun ctv doc h' tk hx hsz => ?_
    exact fin h' s.toks tk H c' doc _ ctv hsz (I.kept (t' := s.toks) hx) (ExtN.refl H) hT hco
end
structure LamN (N : List Str) (sc scope : Scope) : Prop where
  kind : scope.kind = .function
  co : scope.isCoroutine = false
  gen : scope.isGenerator = false
  own : ∀ y ∈ scope.names, y.2 ≠ .cell ∧ (y.2 = .local → y.1 ∉ N)
  free : ∀ y ∈ scope.names, y.2 = .free → sc.names.lookup y.1 = some .cell ∨ sc.names.lookup y.1 = some .free
def lamNB (N : List Str) (sc scope : Scope) : Bool :=
  decide (scope.kind = .function) && !scope.isCoroutine && !scope.isGenerator && scope.names.all fun y => !decide (y.2 = .cell) && (!decide (y.2 = .local) || !decide (y.1 ∈ N)) && (!decide (y.2 = .free) || decide (sc.names.lookup y.1 = some .cell) || decide (sc.names.lookup y.1 = some .free))
theorem lamN_by {N : List Str} {sc scope : Scope} (h : lamNB N sc scope = true) : LamN N sc scope := by
  unfold lamNB at h
  simp only [Bool.and_eq_true, Bool.or_eq_true, Bool.not_eq_true', decide_eq_true_eq, decide_eq_false_iff_not, List.all_eq_true] at h
  obtain ⟨⟨⟨h1, h2⟩, h3⟩, h4⟩ := h
  refine ⟨h1, h2, h3, fun y hy => ⟨(h4 y hy).1.1, fun e => ?_⟩, fun y hy e => ?_⟩
  · rcases (h4 y hy).1.2 with z | z
    · exact absurd e z
    · exact z
  · rcases (h4 y hy).2 with (z | z) | z
    · exact absurd e z
    · exact .inl z
    · exact .inr z
theorem LamN.has {X : Cx} {N : List Str} {scope : Scope} (L : LamN N X.env.scope scope) (ok : X.Ok) : ∀ y ∈ scope.names, y.2 = .free → ∃ c, X.env.cells.lookup y.1 = some c := fun y hy e => by
  rcases L.free y hy e with k | k
  · exact ok.has _ (.inl k)
  · exact ok.has _ (.inr k)
def dvOf : Option Addr → Value
  | none => .none
  | some T => .ref T
def DvAt (H : Hp) : Option Addr → Prop
  | none => True
  | some T => H T = some (.tup [.int 0])
def LamB (q : Str) (ps : Arguments) (b : Expr) (sc : Scope) : Option Addr → Prop
  | none => ∀ (cl : List (Str × Addr)) (doc pm cdv ct : Value), bindArgs (lamFd q ps b sc cl .none doc pm cdv ct) ⟨[], []⟩ = pure []
  | some T => ∃ a, sc.names.lookup a = some .local ∧ ∀ (cl : List (Str × Addr)) (doc pm cdv ct u : Value), ∃ k, bindArgs (lamFd q ps b sc cl (.ref T) doc pm cdv ct) ⟨[], []⟩ = seqItems? (.ref T) >>= k ∧ k (some #[u]) = pure [(a, u)]
abbrev lamEn (q : Str) (scope : Scope) (cl : List (Str × Addr)) (L f c' : Addr) : Env := PySem.W.envX q scope L f (.ref c') cl
def lamC (P : Program) (w : World) (K : PySem.W.Frag) (mg : Str → Option Value) (base : Heap) (N : List Str) (q : Str) (cl : List (Str × Addr)) (A : Around) (outer : List Env) (s : Shared) (H : Hp) (E : XK) (scope : Scope) (f c' : Addr) : Cx where
  prog := P
  w := w
  K := K
  mg := mg
  base := base
  A := A.deeper (lamEn q scope cl s.heap.objs.size f c')
  N := N
  s_0 := s
  H_0 := H
  env := lamEn q scope cl s.heap.objs.size f c'
  outer := outer
  stack := lamEn q scope cl s.heap.objs.size f c' :: outer
  ex := []
  fn := fun _ => false
  calm := true
  pn := []
  xe := fun e s' => wpAny (model P w) (A.deeper (lamEn q scope cl s.heap.objs.size f c')) (leaving (lamEn q scope cl s.heap.objs.size f c') e) (fun _ s'' => L2.CX P w outer H s E e s'') (fun e' s'' => L2.CX P w outer H s E e' s'') s'
structure CloAt (N : List Str) (cl : List (Str × Addr)) (scope : Scope) (σ : L2.St) (H : Hp) (h : Heap) : Prop where
  len : σ.length = N.length
  own : ∀ y ∈ scope.names, y.2 ≠ .cell ∧ (y.2 = .local → y.1 ∉ N)
  kind : scope.kind = .function
  inj : ∀ x y c, cl.lookup x = some c → cl.lookup y = some c → x = y
  has : ∀ y, scope.names.lookup y = some .free → ∃ c, cl.lookup y = some c
  cell : ∀ y c, cl.lookup y = some c → H c = none ∧ ∃ v, h.IsCell c v
  val : ∀ (i : Nat) (y : Str) (v : V), N[i]? = some y → σ[i]? = some (some v) → scope.names.lookup y = some .free → ∃ c u, cl.lookup y = some c ∧ h.IsCell c (some u) ∧ RelV v u
section
variable {P : Program} {w : World} {K : PySem.W.Frag} {mg : Str → Option Value} {base : Heap}
theorem lam_enter {N : List Str} {q : Str} {cl : List (Str × Addr)} {A : Around} {outer : List Env} {E : XK} {scope : Scope} {f c' : Addr} {h₁ : Heap} {tk : Nat} {σ : L2.St} {H : Hp} {s : Shared} {m : Str → Option Value}
    (C : CloAt N cl scope σ H s.heap) (e0 : Env0 P w K mg base A outer s H) (hd : A.handled = none) (hns : h₁.Ns s.heap.objs.size m) (kp : ∀ b o, s.heap.get? b = some o → h₁.get? b = some o) :
    Inv (lamC P w K mg base N q cl A outer s H E scope f c') [] σ H { s with heap := h₁, toks := tk } := by
  have noA : ∀ b : Addr, b ∉ (lamC P w K mg base N q cl A outer s H E scope f c').ex := fun b z => absurd (show b ∈ ([] : List Addr) from z) (by simp)
  have up : ∀ {c : Addr} {v : Option Value}, s.heap.IsCell c v → h₁.IsCell c v := fun {c v} ⟨o, ho, hc⟩ => ⟨o, kp _ _ ho, hc⟩
  have nocell : ∀ {y}, scope.names.lookup y = some .cell → False := fun {y} k => (C.own _ (PySem.mem_of_lookup k)).1 rfl
  have okk : (lamC P w K mg base N q cl A outer s H E scope f c').Ok := by
    refine ⟨e0.mod, C.kind, rfl, rfl, Nat.le_refl _, C.inj, fun y hy => ?_, fun y c z _ => ?_, fun _ => hd, Around.frames_deeper e0.frames, .inr ⟨rfl, rfl⟩, fun b z => absurd z (noA b), e0.bs, e0.bsz, fun b _ _ => noA b, fun b z => absurd z (noA b), e0.funs, e0.frf⟩
    · rcases (show scope.names.lookup y = some .cell ∨ scope.names.lookup y = some .free from hy) with k | k
      · exact (nocell k).elim
      · exact C.has y k
    · cases (show false = true from z)
  refine ⟨okk, rfl, e0.bare, Un.kept kp, ⟨_, hns, fun i y v e1 e2 e3 => ?_⟩, fun y c e => ?_, e0.hok.fresh (Nat.le_refl _), fun y c e => (C.cell y c e).1, fun p hp => absurd (show p ∈ ([] : List (Addr × Obj)) ++ [] from hp) (by simp), e0.hok.kept kp, C.len⟩
  · rcases (show Vis scope y from e3) with k | k | k
    · exact absurd (List.mem_of_getElem? e1) ((C.own _ (PySem.mem_of_lookup k)).2 rfl)
    · exact (nocell k).elim
    · obtain ⟨c, u, h1, h2, r⟩ := C.val i y v e1 e2 k
      exact ⟨u, r, .inr ⟨.inr k, c, h1, up h2⟩⟩
  · obtain ⟨_, v, z⟩ := C.cell y c e
    exact ⟨v, up z⟩
theorem CloAt.here {X : Cx} {pins : List (Addr × Obj)} {σ : L2.St} {H : Hp} {s : Shared} {scope : Scope} (I : Inv X pins σ H s) (L : LamN X.N X.env.scope scope) : CloAt X.N (cloFrom X.env.cells scope.names []) scope σ H s.heap := by
  have hfree := L.has I.ok
  have cm : ∀ {y c}, (cloFrom X.env.cells scope.names []).lookup y = some c → X.env.cells.lookup y = some c := fun {y c} e => by
    rcases cloFrom_mem (PySem.mem_of_lookup e) with hm | ⟨h1, h2⟩
    · cases hm
    · obtain ⟨c1, hc⟩ := hfree _ h1 rfl
      have hc : X.env.cells.lookup y = some c1 := hc
      have e2 : c = c1 := by
        rw [h2, hc] <;> rfl
      rw [e2, hc]
  have look : ∀ {y}, scope.names.lookup y = some .free → ∃ c, (cloFrom X.env.cells scope.names []).lookup y = some c := fun {y} hl => mem_lookup (cloFrom_has (cells := X.env.cells) (acc := []) (PySem.mem_of_lookup hl))
  refine ⟨I.len, L.own, L.kind, fun x y c a b => I.ok.inj x y c (cm a) (cm b), fun y k => look k, fun y c e => ⟨I.freeC y c (cm e), I.cell y c (cm e)⟩, fun i y v e1 e2 k => ?_⟩
  obtain ⟨m, _, hl⟩ := I.loc
  have hk := L.free _ (PySem.mem_of_lookup k) rfl
  obtain ⟨u, r, z⟩ := hl i y v e1 e2 (hk.elim (fun k => .inr (.inl k)) fun k => .inr (.inr k))
  obtain ⟨c, h2⟩ := look k
  rcases z with ⟨k1, _⟩ | ⟨_, c3, e3, z⟩
  · have k1 : X.env.scope.names.lookup y = some .local := k1
    rcases hk with k2 | k2 <;> rw [show X.env.scope.names.lookup y = _ from k2] at k1 <;> cases k1
  · rw [cm h2] at e3
    cases e3
    exact ⟨c, u, h2, z, r⟩
theorem CloAt.un {N : List Str} {cl : List (Str × Addr)} {scope : Scope} {σ : L2.St} {H H' : Hp} {h h' : Heap} {fs : List Addr} (C : CloAt N cl scope σ H h) (u : Un fs [] H H' h h') : CloAt N cl scope σ H' h' := by
  have ck : ∀ {c : Addr} {v : Option Value}, H c = none → h.IsCell c v → h'.IsCell c v := fun {c v} n ⟨o, ho, hd⟩ => by
    obtain ⟨sl, q⟩ := u.any ho n (by simp)
    exact ⟨_, q, hd⟩
  refine ⟨C.len, C.own, C.kind, C.inj, C.has, fun y c e => ?_, fun i y v e1 e2 k => ?_⟩
  · obtain ⟨n, v, o, ho, hd⟩ := C.cell y c e
    exact ⟨u.free c o ho n (by simp), v, ck n ⟨o, ho, hd⟩⟩
  · obtain ⟨c, x, h1, h2, r⟩ := C.val i y v e1 e2 k
    exact ⟨c, x, h1, ck (C.cell y c h1).1 h2, r⟩
structure LamP (P : Program) (w : World) (K : PySem.W.Frag) (mg : Str → Option Value) (base : Heap) (N : List Str) (q : Str) (cl : List (Str × Addr)) (scope : Scope) (o : Obj) (c' : Addr) (dT : Option Addr) (k : Nat) (t : XK → TE) : Prop where
  co : scope.isCoroutine = false
  gen : scope.isGenerator = false
  cells : ∀ y ∈ scope.names, y.2 ≠ .cell
  kind : scope.kind = .function
  ex : ∃ (params : Arguments) (body : Expr) (doc pm ctv : Value), o = lamOb q params body scope cl (dvOf dT) doc pm c' ctv ∧ LamB q params body scope dT ∧
    ∀ (A : Around) (outer : List Env) (s : Shared) (H : Hp) (E : XK) (f : Addr), Room k (A.deeper (lamEn q scope cl s.heap.objs.size f c')) → PE (lamC P w K mg base N q cl A outer s H E scope f c') body (t E)
theorem lam_binds {s : Shared} {H : Hp} {q : Str} {ps : Arguments} {b : Expr} {sc : Scope} {cl : List (Str × Addr)} {doc pm cdv ct : Value} {dT : Option Addr} (B : LamB q ps b sc dT) (hT : DvAt H dT) (hok : HOk P w H s.heap) :
    ∃ binds, (∀ y ∈ binds, sc.names.lookup y.1 = some .local) ∧ BindsTo s (lamFd q ps b sc cl (dvOf dT) doc pm cdv ct) ⟨[], []⟩ binds := by
  cases dT with
  | none => exact ⟨[], fun y hy => absurd hy (by simp), BindsTo.of_eq (B cl doc pm cdv ct)⟩
  | some T =>
    obtain ⟨a, ha, hB⟩ := B
    obtain ⟨_, its, r, ob, e1, e2, n, e3⟩ := hok T _ hT
    match its, r with
    | [u], _ =>
      obtain ⟨k, k1, k2⟩ := hB cl doc pm cdv ct u
      refine ⟨[(a, u)], fun y hy => by rw [List.mem_singleton.mp hy]; exact ha, ?_⟩
      exact BindsTo.of_defaults (T := T) rfl e1 e3 k1 k2
end
end DLR
namespace DLR
open PySem PySem.Spec PyProof.Rows L2 LamX
def LamV (X : Cx) (k : Nat) (H : Hp) (v : V) (t : XK → TE) : Prop :=
  ∃ (f c' : Addr) (o : Obj) (scope : Scope) (dT : Option Addr), v = .ref f ∧ H f = some (LamO f o) ∧ H c' = some (CodeO c' (X.env.qual ++ "<lambda>")) ∧ DvAt H dT ∧ LamN X.N X.env.scope scope ∧
    LamP X.prog X.w X.K X.mg X.base X.N (X.env.qual ++ "<lambda>") (cloFrom X.env.cells scope.names []) scope o c' dT k t
theorem codeO_lst {c : Addr} {q : Str} (ps : List V) : CodeO c q ≠ .lst ps := fun z => by
  unfold CodeO at z
  cases z
theorem lamO_lst {f : Addr} {o : Obj} (ps : List V) : LamO f o ≠ .lst ps := fun z => by
  unfold LamO at z
  cases z
theorem LamV.keep {X : Cx} {k : Nat} {H H' : Hp} {v : V} {t : XK → TE} (L : LamV X k H v t) (h : ∀ b o, H b = some o → (∀ ps, o ≠ .tbl ps) → (∀ xs, o ≠ .lst xs) → H' b = some o) : LamV X k H' v t := by
  obtain ⟨f, c', o, scope, dT, e1, e2, e3, e4, e5, e6⟩ := L
  refine ⟨f, c', o, scope, dT, e1, h _ _ e2 lamO_ne lamO_lst, h _ _ e3 codeO_ne codeO_lst, ?_, e5, e6⟩
  cases dT with
  | none => exact True.intro
  | some T => exact h _ _ e4 (fun ps z => by cases z) (fun xs z => by cases z)
section
variable {X : Cx}
def tMk (X : Cx) (k : Nat) (T : List (Addr × Str)) (t : XK → TE) : TE := fun _ H Q => Tabs T H ∧ ∀ v H1, ExtN H H1 → Tabs T H1 → LamV X k H1 v t → Q v H1
variable {T : List (Addr × Str)} {c P : Addr} {k : Nat} {params : Arguments} {body : Expr} {scope : Scope} {t : XK → TE} {lpos : Pos}
theorem LamN.p (L : LamN X.N X.env.scope scope) {dT : Option Addr} {dV doc pm ctv : Value} {c' : Addr} (e : dV = dvOf dT) (hbind : LamB (X.env.qual ++ "<lambda>") params body scope dT)
    (hbody : ∀ (A : Around) (outer : List Env) (s : Shared) (H : Hp) (E : XK) (f c' : Addr), Room k (A.deeper (lamEn (X.env.qual ++ "<lambda>") scope (cloFrom X.env.cells scope.names []) s.heap.objs.size f c')) →
      PE (lamC X.prog X.w X.K X.mg X.base X.N (X.env.qual ++ "<lambda>") (cloFrom X.env.cells scope.names []) A outer s H E scope f c') body (t E)) :
    LamP X.prog X.w X.K X.mg X.base X.N (X.env.qual ++ "<lambda>") (cloFrom X.env.cells scope.names []) scope (lamOb (X.env.qual ++ "<lambda>") params body scope (cloFrom X.env.cells scope.names []) dV doc pm c' ctv) c' dT k t := by
  subst e
  exact ⟨L.co, L.gen, fun y hy => (L.own y hy).1, L.kind, params, body, doc, pm, ctv, rfl, hbind, fun A outer s H E f hr => hbody A outer s H E f c' hr⟩
theorem pe_lam0 (TB : TabB X.base X.mg c P) (hcode : X.env.code = .ref c) (hmT : (P, X.env.qual ++ "<lambda>") ∈ T) (hu : ∀ p ∈ T, p.1 = P → p.2 = X.env.qual ++ "<lambda>") (L : LamN X.N X.env.scope scope) (hdef : defaultsOf params X.env = ([], []))
    (hbind : LamB (X.env.qual ++ "<lambda>") params body scope none)
    (hbody : ∀ (A : Around) (outer : List Env) (s : Shared) (H : Hp) (E : XK) (f c' : Addr), Room k (A.deeper (lamEn (X.env.qual ++ "<lambda>") scope (cloFrom X.env.cells scope.names []) s.heap.objs.size f c')) →
      PE (lamC X.prog X.w X.K X.mg X.base X.N (X.env.qual ++ "<lambda>") (cloFrom X.env.cells scope.names []) A outer s H E scope f c') body (t E)) :
    PE X (.Lambda params body scope lpos) (tMk X k T t) := by
  refine ⟨fun pins s σ H Q I h => ?_⟩
  obtain ⟨hT, h⟩ := h
  refine PySem.W.kla_eval hdef ?_
  rw [makeFunction_eq]
  simp only [List.zip_nil_right, List.filterMap_nil, List.isEmpty_nil, if_true, pure_bind]
  refine lam_tail I TB hcode hmT hu hT (L.has I.ok) fun f c' doc pm ctv H1 s' I1 eN T1 hf hfo hco => ?_
  exact ⟨.ref f, H1, I1, rfl, h _ H1 eN T1 ⟨f, c', _, scope, none, rfl, hfo, hco, True.intro, L, L.p rfl hbind hbody⟩⟩
theorem pe_lam1 {j : Nat} {p0 : Pos} (TB : TabB X.base X.mg c P) (hcode : X.env.code = .ref c) (hmT : (P, X.env.qual ++ "<lambda>") ∈ T) (hu : ∀ p ∈ T, p.1 = P → p.2 = X.env.qual ++ "<lambda>") (L : LamN X.N X.env.scope scope)
    (hps : params.defaults = [.Constant (.int 0) j p0]) (hk0 : params.kw_defaults = []) (hbind : ∀ D, LamB (X.env.qual ++ "<lambda>") params body scope (some D))
    (hbody : ∀ (A : Around) (outer : List Env) (s : Shared) (H : Hp) (E : XK) (f c' : Addr), Room k (A.deeper (lamEn (X.env.qual ++ "<lambda>") scope (cloFrom X.env.cells scope.names []) s.heap.objs.size f c')) →
      PE (lamC X.prog X.w X.K X.mg X.base X.N (X.env.qual ++ "<lambda>") (cloFrom X.env.cells scope.names []) A outer s H E scope f c') body (t E)) :
    PE X (.Lambda params body scope lpos) (tMk X k T t) := by
  refine ⟨fun pins s σ H Q I h => ?_⟩
  obtain ⟨hT, h⟩ := h
  refine PySem.W.kdv_lam (by rw [hps]; rfl) hk0 ?_
  rw [hps]
  refine PySem.W.kdv_all1 (thn ((pe_int (X := X) (i := 0) (j := j) (pos := p0)).run pins s σ H (fun v H1 => v = .int 0 ∧ H1 = H) I ⟨rfl, rfl⟩) fun u s1 ⟨v, H1, I1, r1, e1, e2⟩ => PySem.W.kdv_all0 ?_)
  subst e1 e2
  rw [makeFunction_eq]
  simp only [List.zip_nil_right, List.filterMap_nil, List.isEmpty_nil, if_true, pure_bind, List.isEmpty_cons, Bool.false_eq_true, if_false]
  refine wpAny_bind (wpAny_newTextTuple ?_)
  generalize hD : s1.heap.objs.size = D
  have nD : H1 D = none := I1.hok.fresh (Nat.le_of_eq hD)
  have hD' : (s1.heap.push { cls := .type "tuple", data := .seq [u].toArray }).get? D = some { cls := .type "tuple", data := .seq [u].toArray } := by
    rw [← hD]
    exact Heap.get?_push_size _ rfl
  have J : Inv X pins σ (upd H1 D (.tup [.int 0])) { s1 with heap := s1.heap.push { cls := .type "tuple", data := .seq [u].toArray } } :=
    I1.laid (t' := s1.toks) (fun b o e => Heap.get?_push_of_some _ e) (Nat.le_of_eq hD) ⟨by show 1 ≤ sizeLine; decide, [u], .cons r1 .nil, _, hD', rfl, _, rfl⟩
  have st : ∀ b o, H1 b = some o → upd H1 D (.tup [.int 0]) b = some o := fun b o e => by rw [upd_ne (ne_of_none e nD), e]
  refine lam_tail J TB hcode hmT hu (hT.ext st) (L.has J.ok) fun f c' doc pm ctv H2 s' I2 eN T2 hf hfo hco => ?_
  exact ⟨.ref f, H2, I2, rfl, h _ H2 ((ExtN.of st).trans eN) T2 ⟨f, c', _, scope, some D, rfl, hfo, hco, eN _ _ upd_same (fun ps z => by cases z), L, L.p rfl (hbind D) hbody⟩⟩
end
section
variable {X : Cx} {pins : List (Addr × Obj)} {σ : L2.St} {H : Hp} {s : Shared}
theorem lam_act {CXg : CXT} {Eg : XK} {Ng N : List Str} {qg q a : Str} {sg scope : Scope} {g f c' : Addr} {cdg : Value} {cl : List (Str × Addr)} {o : Obj} {dT : Option Addr} {t : XK → TE} {k i : Nat} {pn : List (Addr × Obj)} {xe : Value → Shared → Prop} {W : WX} {E : XK} {p1 p2 : Pos}
    (C : CloAt N cl scope σ H s.heap) (LP : LamP X.prog X.w X.K X.mg X.base N q cl scope o c' dT k t)
    (tk : Takes ((cxOf CXg X.prog X.w X.K X.mg X.base Ng qg sg g cdg X.A X.stack s H Eg).tr pn xe) W) (hW : ∀ cls d σ' H', E cls d H' → W cls d σ' H') (hr : Room (k + 1) (X.A.deeper (envOfC qg sg s.heap.objs.size g cdg)))
    (hN : Ng[i]? = some a) (hv : Vis sg a) (hd : (a == ("__debug__" : Str)) = false := by decide) (hcd : (a == ("__classdict__" : Str)) = false := by decide) :
    PE ((cxOf CXg X.prog X.w X.K X.mg X.base Ng qg sg g cdg X.A X.stack s H Eg).tr pn xe) (.Call (.Name a p1) [] [] p2)
      (fun σZ HZ Q => σZ[i]? = some (some (.ref f)) ∧ HZ c' = some (CodeO c' q) ∧ HZ f = some (LamO f o) ∧ DvAt HZ dT ∧ t E σ HZ Q) := by
  obtain ⟨lco, lgen, lcells, lkind, params, body, doc, pm, ctv, rfl, hB, hbody⟩ := LP
  refine ⟨fun pinsZ sZ σZ HZ Q IZ ⟨h1, h2, h3, h4, ht⟩ => ?_⟩
  refine wpAny_Call_Name_kw (thn ((pe_var (pos := p1) (i := i) hN hv hd hcd).run pinsZ sZ σZ HZ (fun v H1 => v = .ref f ∧ H1 = HZ) IZ ⟨.ref f, h1, rfl, rfl⟩) fun u s1 hu => ?_)
  obtain ⟨v, H1, I1, r1, rfl, rfl⟩ := hu
  cases r1
  obtain ⟨fo, _, _⟩ := I1.hok f _ h3
  obtain ⟨⟨oc, vs, tq, hoc, hdc, hvc⟩, _, _⟩ := I1.hok c' _ h2
  have C1 : CloAt N cl scope σ H1 s1.heap := C.un (show Un (frs X.stack) [] H H1 s.heap s1.heap from I1.base)
  obtain ⟨binds, b1, b2⟩ := lam_binds (s := s1) (cl := cl) (doc := doc) (pm := pm) (cdv := .ref c') (ct := ctv) hB h4 I1.hok
  refine PySem.W.callWith_F0 ⟨_, _, _, _, fo⟩ (wpAny_call (codeAny_mono (R := CR (L2.CX X.prog X.w) (envOfC qg sg s.heap.objs.size g cdg :: X.stack) X.prog X.w H1 s1 Q E) ?_ fun r s' hq => ?_))
  · refine PySem.W.kla_callFunE hr.depth fo rfl lco lgen rfl ⟨c', oc, vs, tq, rfl, hoc, hdc, hvc⟩ (b2 _ _ _ _ (wpAny_newFunctionEnv lcells b1 (fun h₁ hns hsb => ⟨I1.nolimit.fresh _ hsb, ?_⟩) lkind))
    have kp : ∀ b o, s1.heap.get? b = some o → h₁.get? b = some o := fun b o e => hsb.extBut b o (Nat.ne_of_lt (Heap.lt_size e)) (Heap.get?_push_of_some _ e)
    have J := lam_enter (q := q) (E := E) (f := f) (c' := c') (tk := s1.toks + binds.length) C1 I1.env0 hr.hd hns kp
    have run := (hbody _ _ s1 H1 E f (hr.deeper _)).run [] _ _ H1 Q J ht
    exact PySem.W.kla_codeExpr (wpAny_mono run (fun v s' ⟨w', H', J', rv, hq⟩ => ⟨w', H', J'.os, J'.bare, J'.base, J'.hok, rv, hq⟩) fun e s' hq => hq)
  · cases r with
    | error e => exact passes_call tk hW pinsZ σZ H1 s1 e s' I1 hq
    | ok fl =>
      cases fl with
      | ret u => exact I1.after hq
      | next => exact hq.elim
      | brk => exact hq.elim
      | cont => exact hq.elim
end
section
variable {X : Cx}
def tTold (X : Cx) (k : Nat) (TT : (XK → Hp → VK → Prop) → Hp → VK → Prop) (te : TE) : TE := fun σ H Q => te σ H fun v H1 => ∃ (f c' : Addr) (o : Obj) (scope : Scope) (dT : Option Addr) (t : XK → TE), v = .ref f ∧ H1 c' = some (CodeO c' (X.env.qual ++ "<lambda>")) ∧ LamN X.N X.env.scope scope ∧
  LamP X.prog X.w X.K X.mg X.base X.N (X.env.qual ++ "<lambda>") (cloFrom X.env.cells scope.names []) scope o c' dT k t ∧ TT (fun E H' Q' => H' f = some (LamO f o) ∧ DvAt H' dT ∧ t E σ H' Q') H1 Q
theorem pe_told {TT : (XK → Hp → VK → Prop) → Hp → VK → Prop} {x a : Str} {g : Addr} {k : Nat} {pg : Arguments} {bg : List Stmt} {sg : Scope} {dV kV doc pm cdv ct oc : Value} {an od : Option Addr} {osl : Array (Option Value)} {Ng : List Str} {e : Expr} {te : TE} {p pos : Pos}
    (hg : Gl X x) (hm : X.mg x = some (.ref g)) (hk : PySem.W.keepIn X.K (.ref g) = true) (lk : X.K.lookup g = some ⟨oc, od, .func (PySem.W.fnOf x x pg bg sg dV kV doc pm an cdv ct), osl⟩) (hcg : PySem.W.codeIn X.K cdv x = true)
    (hb : L2.Binds X.K (PySem.W.fnOf x x pg bg sg dV kV doc pm an cdv ct) [a] []) (Sg : FnScope Ng [a] sg) (hNg : Ng[0]? = some a) (hva : Vis sg a) (hG : GivesTo X Ng x sg g cdv bg a (X.env.qual ++ "<lambda>") TT) (hr : Room (k + 2) X.A) (he : PE X e te)
    (hdb : (x == ("__debug__" : Str)) = false := by decide) (hd : (a == ("__debug__" : Str)) = false := by decide) (hcd : (a == ("__classdict__" : Str)) = false := by decide)
    (hs : starEach [e] X.env = (false, eval e X.env) :: starEach [] X.env := by rfl) (hpl : (backTo pos (starEach [] X.env)).any (·.1) = false := by rfl) :
    PE X (.Call (.Name x p) [e] [] pos) (tTold X k TT te) := by
  refine ⟨fun pins s σ H Q I h => ?_⟩
  refine wpAny_Call_Name_kw (ld_glob I hg hm ?_ hdb)
  have arg := (pa_cons he pa_nil hs).run pos pins s σ H (fun vs H1 => match vs with
    | [v] => ∃ (f c' : Addr) (o : Obj) (scope : Scope) (dT : Option Addr) (t : XK → TE), v = .ref f ∧ H1 c' = some (CodeO c' (X.env.qual ++ "<lambda>")) ∧ LamN X.N X.env.scope scope ∧
      LamP X.prog X.w X.K X.mg X.base X.N (X.env.qual ++ "<lambda>") (cloFrom X.env.cells scope.names []) scope o c' dT k t ∧ TT (fun E H' Q' => H' f = some (LamO f o) ∧ DvAt H' dT ∧ t E σ H' Q') H1 Q
    | _ => False) I h
  refine PySem.W.callWith_K (h₀ := X.base) I.ok.mod.kin hk (thn arg fun us s1 ⟨vs, H1, I1, r, q0⟩ => ⟨I1.kIn, ?_⟩) hs hpl
  match vs, r, q0 with
  | [v], r, q0 =>
    obtain ⟨f, c', o, scope, dT, t, rfl, hc, L, LP, q⟩ := q0
    obtain ⟨u, rfl, ru⟩ := r.one
    cases ru
    have rc : codeAny (model X.prog X.w) X.A (.call (.ref g) ⟨[.ref f], []⟩) (CR C8.CX0 X.stack X.prog X.w H1 s1 Q C8.E0) s1 := by
      refine run_ofS (N := Ng) (ps := [a]) (us := [.ref f]) (vs := [.ref f]) lk hcg Sg hr I1.env0 (hb s1 [.ref f] I1.kIn rfl) (.cons rfl .nil) rfl fun hr' => ?_
      obtain ⟨t', ht', hq'⟩ := hG f c' s1 H1 Q (fun E H' Q' => H' f = some (LamO f o) ∧ DvAt H' dT ∧ t E σ H' Q') (fun W pn xe E p1 p2 tk hW => lam_act (i := 0) (CloAt.here I1 L) LP tk hW hr' hNg hva hd hcd) hc q
      exact ⟨t', ht'.nox, hq'⟩
    refine wpAny_call (codeAny_mono rc fun r s2 hq => ?_)
    cases r with
    | error e => exact (show False from hq).elim
    | ok fl =>
      cases fl with
      | ret u => exact I1.after hq
      | next => exact hq.elim
      | brk => exact hq.elim
      | cont => exact hq.elim
end
end DLR
namespace DLR
open PySem PySem.Spec PyProof.Rows L2
theorem lookup_rel {f : Str × NameKind → Str × NameKind} (hf : ∀ p, (f p).1 = p.1 ∧ ((p.2 = .cell ∨ p.2 = .free) → ((f p).2 = .cell ∨ (f p).2 = .free))) : ∀ {names : List (Str × NameKind)} {x : Str}, names.lookup x = some .cell ∨ names.lookup x = some .free →
    (names.map f).lookup x = some .cell ∨ (names.map f).lookup x = some .free
  | [], x, h => by simp at h
  | (n, k) :: r, x, h => by
    obtain ⟨h1, h2⟩ := hf (n, k)
    obtain ⟨n', k', e⟩ : ∃ n' k', f (n, k) = (n', k') := ⟨_, _, rfl⟩
    rw [e] at h1 h2
    have h1 : n' = n := h1
    subst h1
    rw [List.map_cons, e]
    rw [List.lookup_cons] at h ⊢
    cases c : x == n' with
    | true =>
      rw [c] at h
      have h : k = .cell ∨ k = .free := h.imp (fun z => Option.some.inj z) fun z => Option.some.inj z
      exact (h2 h).imp (congrArg some) (congrArg some)
    | false =>
      rw [c] at h
      exact lookup_rel hf h
theorem blkRel {N : List Str} {sc scope : Scope} {own : List (Str × Nat)} {env : Env} (h : BlkOk N sc scope own) : BlkOk N (relabel sc env) scope own := by
  refine ⟨h.kind, h.uniq, h.ix, fun y hy e => ?_, h.own⟩
  unfold relabel
  refine lookup_rel (fun p => ?_) (h.free y hy e)
  obtain ⟨n, k⟩ := p
  dsimp only
  split
  · exact ⟨rfl, fun _ => .inl rfl⟩
  · exact ⟨rfl, fun z => z⟩
theorem pi_tupK {X : Cx} {tg e : Expr} {te : TE} (K0 : PySem.W.Frag) (hK : X.K = K0) (h : PE X e te) : PI X tg e (iTup K0 te) := by
  subst hK
  exact pi_tup h
theorem cr_sortedIK {X : Cx} (K0 : PySem.W.Frag) (hK : X.K = K0) : CallR X (.builtin "sorted") (rSortedI K0) := hK ▸ cr_sortedI
theorem call_tuple_ofK {X : Cx} (K0 : PySem.W.Frag) (hK : X.K = K0) : CallR X (.type "tuple") (fun xs H Q => ∃ p ys, xs = [.ref p] ∧ ((SqL K0 H p ys ∧ ∀ l, H l = none → Q (.ref l) (upd H l (.tup ys))) ∨ (SqT K0 H p ys ∧ Q (.ref p) H))) := by
  subst hK
  exact call_tuple_of
end DLR
namespace DL
open PySem L2 DLR LamX
theorem refs_ne_dice {H : Hp} {d sa la : Addr} {gs : List Addr} (dv : DiceV H d sa) (h : H la = some (.lst (gs.map V.ref))) : la ≠ d := fun e => by
  subst e
  obtain ⟨i, m, r, z, _⟩ := dv
  rw [z] at h
  have q : ([.ref sa, .int i, .int m, .int r] : List V) = gs.map V.ref := by injection (Option.some.inj h)
  match gs, q with
  | [], q => cases q
  | [_], q => cases q
  | _ :: _ :: _, q => cases (List.cons.inj (List.cons.inj q).2).1
def noTb (H : Hp) : Hp := fun a => match H a with
  | some (.tbl _) => none
  | x => x
theorem noTb_of {H : Hp} {a : Addr} {o : HO} (h : noTb H a = some o) : H a = some o ∧ ∀ ps, o ≠ .tbl ps := by
  unfold noTb at h
  split at h
  · cases h
  · rename_i n
    exact ⟨h, fun ps z => n ps (by rw [h, z])⟩
theorem noTb_at {H : Hp} {a : Addr} {o : HO} (h : H a = some o) (n : ∀ ps, o ≠ .tbl ps) : noTb H a = some o := by
  unfold noTb
  split
  · rename_i ps e
    rw [h] at e
    exact absurd (Option.some.inj e) (n ps)
  · exact h
theorem noTb_none {H : Hp} {a : Addr} (h : H a = none) : noTb H a = none := by
  unfold noTb
  rw [h]
theorem Ent.noTb {K : Frg} {H : Hp} {d sa : Addr} {ns : List Int} (h : Ent K H d sa ns) : Ent K (noTb H) d sa ns := by
  refine ⟨?_, ?_, h.len⟩
  · obtain ⟨i, m, r, z, q⟩ := h.dice
    exact ⟨i, m, r, noTb_at z (fun ps q => by cases q), q⟩
  · rcases h.scr with (g | ⟨o, g⟩) | g
    · exact .inl (.inl (noTb_at g (fun ps q => by cases q)))
    · exact .inl (.inr ⟨o, noTb_at g (fun ps q => by cases q)⟩)
    · exact .inr g
theorem Dc.ext {K : Frg} {H0 H H' : Hp} {d sa : Addr} {ns : List Int} (h : Dc K (DL.noTb H0) H d sa ns) (e : ExtN H H') : Dc K (DL.noTb H0) H' d sa ns := by
  refine ⟨h.e0, fun x o n g => e x o (h.but x o n g) (noTb_of g).2, ?_⟩
  obtain ⟨i, m, r, z, q⟩ := h.dice
  exact ⟨i, m, r, e _ _ z (fun ps q => by cases q), q⟩
theorem tabS_dice {K : Frg} {H H' : Hp} {d sa P : Addr} {ns : List Int} {q : Str} (t : TabS H P q) (c : Dc K H H' d sa ns) : TabS H' P q := by
  obtain ⟨j, m, r, z, _⟩ := c.e0.dice
  obtain ⟨ps, h1, h2, h3⟩ := t
  refine ⟨ps, c.but _ _ (ne_of h1 z (by intro q; cases q)) h1, h2, fun pos cv hc => ?_⟩
  obtain ⟨k, e1, e2⟩ := h3 pos cv hc
  exact ⟨k, e1, c.but _ _ (ne_of e2 z (by intro q; unfold CodeO at q; cases q)) e2⟩
def forB : Stmt → List Stmt
  | .For _ _ b .. => b
  | _ => []
def ifB : Stmt → List Stmt
  | .If _ b .. => b
  | _ => []
def asgV : Stmt → Expr
  | .Assign _ v _ => v
  | _ => .Name "x" ⟨0, 0, 0, 0⟩
def callA : Expr → Expr
  | .Call _ (a :: _) _ _ => a
  | e => e
def lcS (d : Scope) : Expr → Scope
  | .ListComp _ _ sc _ => sc
  | _ => d
abbrev qP : Str := (("law" : Str) ++ (".<locals>." : Str))
abbrev qL : Str := qP ++ ("<lambda>" : Str)
theorem tab_mem {Pt : Addr} {q : Str} (h : q = qP) : (Pt, q ++ "<lambda>") ∈ [(Pt, qL)] := by
  rw [h]
  exact List.mem_singleton.mpr rfl
theorem tab_one {Pt : Addr} {q : Str} (h : q = qP) : ∀ p ∈ [(Pt, qL)], p.1 = Pt → p.2 = q ++ "<lambda>" := by
  rw [h]
  intro p hp _
  rw [List.mem_singleton.mp hp]
structure Ct (K : Frg) (Hb H : Hp) (d sa Pt : Addr) (ns : List Int) : Prop where
  ent : Dc K Hb H d sa ns
  tab : TabS H Pt qL
theorem Ct.same {K : Frg} {Hb H H' : Hp} {d sa Pt : Addr} {ns : List Int} (h : Ct K Hb H d sa Pt ns) (s : Same1 H H') : Ct K Hb H' d sa Pt ns := ⟨h.ent.same s, h.tab.ext s⟩
theorem Ct.dice {K : Frg} {Hb H H' : Hp} {d sa Pt : Addr} {ns : List Int} (h : Ct K Hb H d sa Pt ns) (c : Dc K H H' d sa ns) : Ct K Hb H' d sa Pt ns := ⟨h.ent.trans c, tabS_dice h.tab c⟩
theorem Ct.ext {K : Frg} {H0 H H' : Hp} {d sa Pt : Addr} {ns : List Int} (h : Ct K (noTb H0) H d sa Pt ns) (e : ExtN H H') (t : Tabs [(Pt, qL)] H') : Ct K (noTb H0) H' d sa Pt ns := ⟨h.ent.ext e, t _ (List.mem_singleton.mpr rfl)⟩
theorem Ct.tabs {K : Frg} {Hb H : Hp} {d sa Pt : Addr} {ns : List Int} (h : Ct K Hb H d sa Pt ns) : Tabs [(Pt, qL)] H := fun q hq => by rw [List.mem_singleton.mp hq]; exact h.tab
theorem Kp.ext {H H' : Hp} (e : ExtN H H') : Kp H H' := fun a xs g => e _ _ g (fun ps z => by cases z)
end DL
namespace DLR
open PySem PySem.Spec PyProof.Rows L2 LamX
/-! ### sorted(cells, key=lambda c: c[0]) -/
abbrev keyB (x : Str) (kd : Nat) (p1 p2 p3 : Pos) : Expr := .Subscript (.Name x p1) (.Constant (.int 0) kd p2) p3
section
variable {P : Program} {w : World} {A : Around} {s : Shared}
theorem key_turn {f c' : Addr} {q x : Str} {ps : Arguments} {sc : Scope} {kd : Nat} {p1 p2 p3 : Pos} {doc pm ctv v : Value} {i j : Int}
    (hf : s.heap.get? f = some (lamOb q ps (keyB x kd p1 p2 p3) sc [] .none doc pm c' ctv)) (hcd : s.heap.CodeRec (.ref c') q) (hlim : s.heap.NoLimit) (hroom : A.depth < recursionLimit)
    (hbind : ∀ (doc pm cdv ct v : Value), bindArgs (lamFd q ps (keyB x kd p1 p2 p3) sc [] .none doc pm cdv ct) ⟨[v], []⟩ = pure [(x, v)])
    (hk : sc.kind = .function) (hco : sc.isCoroutine = false) (hgen : sc.isGenerator = false) (hn : sc.names = [(x, .local)]) (hdb : (x == ("__debug__" : Str)) = false) (ht : CellIn s.heap v i j) :
    wpAny (model P w) A (call (.ref f) [v]) (PySem.W.KeyPure (.tuple [.int i, .int j]) s) (fun _ _ => False) s := by
  refine wpAny_call ?_
  refine PySem.W.kla_callFunE hroom hf rfl hco hgen rfl hcd ?_
  rw [hbind]
  have hx : sc.names.lookup x = some .local := by rw [hn]; simp [List.lookup]
  refine wpAny_pure (wpAny_newFunctionEnv (fun y hy => by rw [hn] at hy; rw [List.mem_singleton.mp hy]; exact fun z => by cases z) (fun y hy => by rw [List.mem_singleton.mp hy]; exact hx) (fun h₁ hns hsb => ⟨hlim.fresh _ hsb, ?_⟩) hk)
  have kp : ∀ b o, s.heap.get? b = some o → h₁.get? b = some o := fun b o e => hsb.extBut b o (Nat.ne_of_lt (Heap.lt_size e)) (Heap.get?_push_of_some _ e)
  obtain ⟨a, sp, wv, t, u, rfl, ha, hs⟩ := ht
  refine PySem.W.kla_codeExpr ?_
  refine Subscript_ (wpAny_Name (wpAny_loadName_local (v := .ref a) hk hx hns (by simp [List.lookup]) ?_) hdb)
  refine wpAny_Constant_int ?_
  refine item_tuple (j := 0) (x := .ref sp) (ha.keeps kp) (by decide) (by decide) (by rfl) (by rfl) ?_
  obtain ⟨o, ho, hc, n, hd⟩ := hs
  refine ⟨h₁, _, rfl, kp, ?_⟩
  exact .tuple (kp _ _ ho) hc hd (.cons (.int _ _) (.cons (.int _ _) .nil))
end
def LamK (X : Cx) (x : Str) (H : Hp) (v : V) : Prop :=
  ∃ (f c' : Addr) (ps : Arguments) (sc : Scope) (kd : Nat) (p1 p2 p3 : Pos) (doc pm ctv : Value), v = .ref f ∧ H f = some (LamO f (lamOb (X.env.qual ++ "<lambda>") ps (keyB x kd p1 p2 p3) sc [] .none doc pm c' ctv)) ∧ H c' = some (CodeO c' (X.env.qual ++ "<lambda>")) ∧
    sc.kind = .function ∧ sc.isCoroutine = false ∧ sc.isGenerator = false ∧ sc.names = [(x, .local)] ∧
    ∀ (doc pm cdv ct v : Value), bindArgs (lamFd (X.env.qual ++ "<lambda>") ps (keyB x kd p1 p2 p3) sc [] .none doc pm cdv ct) ⟨[v], []⟩ = pure [(x, v)]
def tMkK (X : Cx) (x : Str) (T : List (Addr × Str)) : TE := fun _ H Q => Tabs T H ∧ ∀ v H1, ExtN H H1 → Tabs T H1 → LamK X x H1 v → Q v H1
section
variable {X : Cx} {T : List (Addr × Str)} {c P : Addr} {x : Str} {params : Arguments} {scope : Scope} {kd : Nat} {p1 p2 p3 lpos : Pos}
theorem pe_lamK (TB : TabB X.base X.mg c P) (hcode : X.env.code = .ref c) (hmT : (P, X.env.qual ++ "<lambda>") ∈ T) (hu : ∀ p ∈ T, p.1 = P → p.2 = X.env.qual ++ "<lambda>") (hdef : defaultsOf params X.env = ([], []))
    (hk : scope.kind = .function) (hco : scope.isCoroutine = false) (hgen : scope.isGenerator = false) (hn : scope.names = [(x, .local)])
    (hbind : ∀ (doc pm cdv ct v : Value), bindArgs (lamFd (X.env.qual ++ "<lambda>") params (keyB x kd p1 p2 p3) scope [] .none doc pm cdv ct) ⟨[v], []⟩ = pure [(x, v)]) :
    PE X (.Lambda params (keyB x kd p1 p2 p3) scope lpos) (tMkK X x T) := by
  refine ⟨fun pins s σ H Q I h => ?_⟩
  obtain ⟨hT, h⟩ := h
  refine PySem.W.kla_eval hdef ?_
  rw [makeFunction_eq]
  simp only [List.zip_nil_right, List.filterMap_nil, List.isEmpty_nil, if_true, pure_bind]
  have ecl : cloFrom X.env.cells scope.names [] = [] := by rw [hn]; rfl
  refine lam_tail I TB hcode hmT hu hT (fun y hy e => by rw [hn] at hy; rw [List.mem_singleton.mp hy] at e; cases e) fun f c' doc pm ctv H1 s' I1 eN T1 hf hfo hco2 => ?_
  rw [ecl] at hfo
  exact ⟨.ref f, H1, I1, rfl, h _ H1 eN T1 ⟨f, c', params, scope, kd, p1, p2, p3, doc, pm, ctv, rfl, hfo, hco2, hk, hco, hgen, hn, hbind⟩⟩
def rSortK (X : Cx) (x : Str) : List V → List V → Hp → VK → Prop := fun vs zs H Q => ∃ (v : V) (a : Addr) (bs : List Addr) (ks : List (Nat × Nat)), vs = [V.ref a] ∧ zs = [v] ∧ LamK X x H v ∧ SqL X.K H a (bs.map V.ref) ∧ Paired (CellK H) bs ks ∧ ks.Nodup ∧
  ∀ (o : List Nat) (p : Addr), IsOrd ks o → H p = none → Q (.ref p) (upd H p (.lst (o.map fun i => V.ref (bs.getD i 0))))
theorem each_range {f : Nat → Value} : ∀ {l : List Nat} {out : List Value}, PySem.W.EachIs (fun v i => v = f i) out l → out = l.map f
  | [], _, .nil => rfl
  | i :: l, _, .cons h t => by rw [h, each_range t]; rfl
theorem each_of {f : Nat → Value} : ∀ l : List Nat, PySem.W.EachIs (fun v i => v = f i) (l.map f) l
  | [] => .nil
  | i :: l => .cons rfl (each_of l)
theorem cr_sortedK {k : Nat} (hr : Room k X.A) (hdb : (x == ("__debug__" : Str)) = false) : CallRK X (.builtin "sorted") [Str.ofString "key"] (rSortK X x) := by
  intro pins s σ H vs zs us ws Q I r rz h
  obtain ⟨v, a, bs, ks, rfl, rfl, hL, hs, hT, nd, q⟩ := h
  obtain ⟨f, c', ps, sc, kd, p1, p2, p3, doc, pm, ctv, rfl, hf, hc, hk, hco, hgen, hn, hb⟩ := hL
  obtain ⟨its, rv, hl, hz⟩ := I.list hs
  rw [Vals.ref1 r, Vals.ref1 rz]
  have ei := vals_refs rv
  subst ei
  have hlen : bs.length = ks.length := Paired.length hT
  rw [List.length_map] at hz
  have fo : s.heap.get? f = _ := (I.hok f _ hf).1
  obtain ⟨⟨oc, vs, tq, hoc, hdc, hvc⟩, _, _⟩ := I.hok c' _ hc
  have un := hr.un
  have dp := hr.dp
  have ebs : bs.map Value.ref = (List.range ks.length).map fun i => Value.ref (bs.getD i 0) := by
    conv => lhs; rw [← DL.range_getD 0 bs, List.map_map]
    rw [hlen]
    rfl
  refine PySem.W.sorted_key_data (b := false) (β := Nat) (bs := List.range ks.length) (R := fun v i => v = Value.ref (bs.getD i 0)) (fun i => .tuple [.int ((ks.getD i (0, 0)).1 : Nat), .int ((ks.getD i (0, 0)).2 : Nat)]) hl.isList ?_ (PySem.W.AllAlike.of fun _ _ => by simp [PySem.W.alike, PySem.W.alikeAll]) (PySem.W.Sortable.tuples fun _ => ⟨_, _, rfl⟩) (by rw [List.length_range]; omega) (fun p _ => ?_) (ksk_s1 _ _) (fun _ => ksk_l1 _ _) (fun _ => ksk_t1 _ _) (fun v i hv hi h' tk kp => ?_) fun out cc h' tk kp hnew hD hol eo => ?_
  · rw [ebs]
    exact each_of _
  · have hd : (PyData.tuple [.int ((ks.getD p (0, 0)).1 : Nat), .int ((ks.getD p (0, 0)).2 : Nat)]).depth = 1 := by simp [PyData.depth, PyData.depthAll]
    omega
  · subst hv
    have hi := List.mem_range.mp hi
    obtain ⟨b, g1, g2⟩ := DL.Paired.getR hT (List.getElem?_eq_getElem hi)
    rw [List.getD_eq_getElem?_getD, g1, List.getD_eq_getElem?_getD, List.getElem?_eq_getElem hi]
    have ci := CellIn.keeps (cellK_in I g2) fun b o e _ => kp b o e
    exact key_turn (A := X.A.in1.in1) (kp _ _ fo) ⟨c', oc, vs, tq, rfl, kp _ _ hoc, hdc, hvc⟩ (I.nolimit.keeps kp) (show X.A.depth < _ by omega) hb hk hco hgen hn hdb ci
  · rw [PySem.W.dataLe_ii (β := Nat) (fun i => ((ks.getD i (0, 0)).1 : Int)) (fun i => ((ks.getD i (0, 0)).2 : Int))] at eo
    have eout := each_range (f := fun i => Value.ref (bs.getD i 0)) eo
    generalize ho : (List.range ks.length).mergeSort (fun p q => decide (((ks.getD p (0, 0)).1 : Int) < ((ks.getD q (0, 0)).1 : Int) ∨ (((ks.getD p (0, 0)).1 : Int) = ((ks.getD q (0, 0)).1 : Int) ∧ ((ks.getD p (0, 0)).2 : Int) ≤ ((ks.getD q (0, 0)).2 : Int)))) = o at eout
    have pm : o.Perm (List.range ks.length) := by rw [← ho]; exact List.mergeSort_perm _ _
    have on : o.Nodup := pm.nodup_iff.mpr List.nodup_range
    have so : o.Pairwise fun p q => spotLt (ks.getD p (0, 0)) (ks.getD q (0, 0)) := by
      have z := List.pairwise_mergeSort (le := fun p q => decide (((ks.getD p (0, 0)).1 : Int) < ((ks.getD q (0, 0)).1 : Int) ∨ (((ks.getD p (0, 0)).1 : Int) = ((ks.getD q (0, 0)).1 : Int) ∧ ((ks.getD p (0, 0)).2 : Int) ≤ ((ks.getD q (0, 0)).2 : Int))))
        (fun a b c h1 h2 => by simp only [decide_eq_true_eq] at h1 h2 ⊢; omega) (fun a b => by simp only [Bool.or_eq_true, decide_eq_true_eq]; omega) (List.range ks.length)
      rw [ho] at z
      refine (z.and on).imp_of_mem fun {i j} hi hj h => ?_
      have hi := List.mem_range.mp (pm.mem_iff.mp hi)
      have hj := List.mem_range.mp (pm.mem_iff.mp hj)
      have h1 := of_decide_eq_true h.1
      have ne : ¬ ((ks.getD i (0, 0)).1 = (ks.getD j (0, 0)).1 ∧ (ks.getD i (0, 0)).2 = (ks.getD j (0, 0)).2) := fun ⟨z1, z2⟩ => h.2 (by
        have e : ks.getD i (0, 0) = ks.getD j (0, 0) := Prod.ext z1 z2
        rw [List.getD_eq_getElem?_getD, List.getD_eq_getElem?_getD, List.getElem?_eq_getElem hi, List.getElem?_eq_getElem hj] at e
        exact nodup_ix nd hi hj e)
      unfold spotLt
      omega
    have ov := refs_at bs o _ eout
    have ol : o.length = bs.length := by rw [pm.length_eq, List.length_range, hlen]
    refine ⟨.ref _, upd H (s.heap.objs.size + 1) (.lst (o.map fun i => V.ref (bs.getD i 0))), I.laid (t' := tk) kp (Nat.le_succ _) ⟨?_, out, cc, ov, hD⟩, rfl, q _ _ ⟨pm, so⟩ (I.hok.fresh (Nat.le_succ _))⟩
    rw [List.length_map, ol]
    exact hz
end
end DLR
namespace DL
open PySem PySem.Spec L2 DLR
/-! ### tracks exchanged: what stands there then -/
def exS (pl one oth : Nat) (s : Nat × Nat) : Nat × Nat := if s.1 = pl ∧ (s.2 = one ∨ s.2 = oth) then (pl, one + oth - s.2) else s
theorem exS_fst (pl one oth : Nat) (s : Nat × Nat) : (exS pl one oth s).1 = s.1 := by
  unfold exS
  split
  · rename_i h
    exact h.1.symm
  · rfl
theorem exS_exS (pl one oth : Nat) (s : Nat × Nat) : exS pl one oth (exS pl one oth s) = s := by
  by_cases h : s.1 = pl ∧ (s.2 = one ∨ s.2 = oth)
  · have e : exS pl one oth s = (pl, one + oth - s.2) := if_pos h
    have h2 : (pl, one + oth - s.2).1 = pl ∧ ((pl, one + oth - s.2).2 = one ∨ (pl, one + oth - s.2).2 = oth) := ⟨rfl, by show one + oth - s.2 = one ∨ one + oth - s.2 = oth; omega⟩
    rw [e]
    have e2 : exS pl one oth (pl, one + oth - s.2) = (pl, one + oth - (one + oth - s.2)) := if_pos h2
    rw [e2]
    refine Prod.ext h.1.symm ?_
    show one + oth - (one + oth - s.2) = s.2
    omega
  · have e : exS pl one oth s = s := if_neg h
    rw [e, e]
theorem exS_inj (pl one oth : Nat) {s t : Nat × Nat} (h : exS pl one oth s = exS pl one oth t) : s = t := by rw [← exS_exS pl one oth s, h, exS_exS]
theorem swp_head {pl one oth : Int} {d : D} {ds : List D} (h : ∀ i, d ≠ .int i) : swp pl one oth (d :: ds) = none := by
  unfold swp
  split
  · rename_i a b e
    exact absurd (List.cons.inj e).1 (h a)
  · rfl
theorem exD_head {pl one oth : Int} {d : D} {ds : List D} (h : ∀ i, d ≠ .int i) : exD pl one oth (.tup (d :: ds)) = .tup ((d :: ds).map (exD pl one oth)) := by
  simp only [exD, swp_head h, exL_map]
  rfl
theorem exD_spot (pl one oth : Nat) (s : Nat × Nat) : exD pl one oth (spotD s) = spotD (exS pl one oth s) := by
  unfold spotD exS
  by_cases h : s.1 = pl ∧ (s.2 = one ∨ s.2 = oth)
  · have c : ((s.1 : Nat) : Int) = (pl : Int) ∧ (((s.2 : Nat) : Int) = (one : Int) ∨ ((s.2 : Nat) : Int) = (oth : Int)) := by omega
    simp only [exD, swp, if_pos c, if_pos h]
    show D.tup [.int pl, .int ((one : Int) + oth - s.2)] = .tup [.int (pl : Nat), .int ((one + oth - s.2 : Nat) : Int)]
    rw [show ((one : Int) + oth - s.2) = ((one + oth - s.2 : Nat) : Int) by omega]
  · have c : ¬ (((s.1 : Nat) : Int) = (pl : Int) ∧ (((s.2 : Nat) : Int) = (one : Int) ∨ ((s.2 : Nat) : Int) = (oth : Int))) := fun z => h (by omega)
    simp only [exD, swp, if_neg c, if_neg h, exL]
    rfl
theorem exD_homes (pl one oth : Nat) (l : List (Nat × Nat)) : exD pl one oth (homesD l) = homesD (l.map (exS pl one oth)) := by
  cases l with
  | nil => simp only [homesD, List.map_nil, exD, swp, exL]; rfl
  | cons s l =>
    unfold homesD
    rw [List.map_cons, exD_head fun i z => by unfold spotD at z; cases z]
    congr 1
    rw [← List.map_cons (f := spotD), List.map_map, List.map_map]
    exact List.map_congr_left fun t _ => exD_spot pl one oth t
theorem exD_wor (pl one oth : Int) (z : Int) : exD pl one oth (worD z) = worD z := by
  unfold worD
  rw [exD_head (fun i z => by cases z)]
  simp only [List.map_cons, List.map_nil, exD]
theorem exD_what (pl one oth : Nat) (sp : Nat → Nat × Nat) (sw : Nat → List (Nat × Nat)) (r : Row) : exD pl one oth (whatG sp sw r) = whatG (fun i => exS pl one oth (sp i)) (fun x => (sw x).map (exS pl one oth)) r := by
  unfold whatG
  rw [exD_head (fun i z => by cases z), List.map_cons, List.map_append, List.map_map]
  have e1 : exD pl one oth (.str r.word) = .str r.word := by simp only [exD]
  rw [e1]
  congr 2
  congr 1
  · by_cases h : r.uses = true
    · rw [if_pos h, if_pos h]
      show [exD pl one oth (homesD (sw r.wor))] = [homesD _]
      rw [exD_homes]
    · rw [if_neg h, if_neg h]
      rfl
  · exact List.map_congr_left fun t _ => exD_spot pl one oth (sp t)
def exC (pl one oth : Nat) (c : Cell) : Cell := (exS pl one oth c.1, exD pl one oth c.2)
theorem exD_cell (pl one oth : Nat) (c : Cell) : exD pl one oth (cellD c) = cellD (exC pl one oth c) := by
  unfold cellD exC
  rw [exD_head (fun i z => by unfold spotD at z; cases z)]
  simp only [List.map_cons, List.map_nil, exD_spot]
theorem cellsG_ex (pl one oth : Nat) (p : Prog) (sp : Nat → Nat × Nat) (sw : Nat → List (Nat × Nat)) :
    (cellsG p sp sw).map (exC pl one oth) = cellsG p (fun i => exS pl one oth (sp i)) (fun x => (sw x).map (exS pl one oth)) := by
  unfold cellsG
  rw [List.map_append, List.map_map, List.map_flatMap]
  congr 1
  · refine List.map_congr_left fun i _ => ?_
    show exC pl one oth (rowG p sp sw i) = _
    unfold rowG exC
    rw [exD_what]
  · congr 1
    funext x
    unfold worG
    rw [List.map_map, List.map_map]
    refine List.map_congr_left fun s _ => ?_
    show exC pl one oth (s, worD _) = _
    unfold exC
    rw [exD_wor]
    rfl
theorem Std.ex {p : Prog} {y : Lay} {sp : Nat → Nat × Nat} {sw : Nat → List (Nat × Nat)} (h : Std p y sp sw) (pl one oth : Nat) : Std p y (fun i => exS pl one oth (sp i)) (fun x => (sw x).map (exS pl one oth)) := by
  refine ⟨fun i hi => by rw [exS_fst]; exact h.pl i hi, fun x hx => ?_, ?_⟩
  · rw [← h.hm x hx, List.map_map]
    exact List.map_congr_left fun s _ => exS_fst pl one oth s
  · have e : (List.range p.rows.length).map (fun i => exS pl one oth (sp i)) ++ (List.range p.ws.length).flatMap (fun x => (sw x).map (exS pl one oth)) = ((List.range p.rows.length).map sp ++ (List.range p.ws.length).flatMap sw).map (exS pl one oth) := by
      rw [List.map_append, List.map_map, List.map_flatMap]
      rfl
    rw [e]
    exact List.pairwise_map.mpr (h.nd.imp fun n z => n (exS_inj pl one oth z))
theorem spF_fst : ∀ (l : List Nat) (c : Nat → Nat), (spF c l).map (·.1) = l
  | [], _ => rfl
  | x :: l, c => by
    show x :: (spF _ l).map (·.1) = _
    rw [spF_fst l]
theorem std_image {p : Prog} {y : Lay} (yk : LayOk p y) : Std p y (fun i => (rowSp y).getD i (0, 0)) (fun x => (worSp y).getD x []) := by
  refine ⟨fun i hi => ?_, fun x hx => ?_, ?_⟩
  · have hp : i < y.places.length := by rw [yk.pl]; exact hi
    have q := spF_get y.places (fun _ => 0) i _ (List.getElem?_eq_getElem hp)
    show ((rowSp y).getD i (0, 0)).1 = _
    rw [List.getD_eq_getElem?_getD, show (rowSp y)[i]? = some _ from q, List.getD_eq_getElem?_getD, List.getElem?_eq_getElem hp]
    rfl
  · have hh : x < y.homes.length := by rw [yk.hl]; exact hx
    have q := liesF_get y.homes (fun z => y.places.count z) x _ (List.getElem?_eq_getElem hh)
    show ((worSp y).getD x []).map (·.1) = _
    rw [List.getD_eq_getElem?_getD, show (worSp y)[x]? = some _ from q, List.getD_eq_getElem?_getD, List.getElem?_eq_getElem hh]
    exact spF_fst _ _
  · rw [← cellsG_keys]
    have e : cellsG p (fun i => (rowSp y).getD i (0, 0)) (fun x => (worSp y).getD x []) = cellsF p y := rfl
    rw [e, keys_cells yk]
    exact keys_nodup y
theorem Std.l3 {p : Prog} {y : Lay} {sp : Nat → Nat × Nat} {sw : Nat → List (Nat × Nat)} (h : Std p y sp sw) (yk : LayOk p y) {x : Nat} (hx : x < p.ws.length) : (sw x).length ≤ 3 := by
  have hh : x < y.homes.length := by rw [yk.hl]; exact hx
  have e := congrArg List.length (h.hm x hx)
  rw [List.length_map, List.getD_eq_getElem?_getD, List.getElem?_eq_getElem hh] at e
  rw [e]
  exact (yk.hok _ (List.getElem_mem hh)).l3
theorem plain_spot (s : Nat × Nat) : (spotD s).plain := by simp [spotD, D.plain, plainL]
theorem plain_homes (l : List (Nat × Nat)) : (homesD l).plain := by
  unfold homesD
  simp only [D.plain]
  exact plainL_iff.mpr fun x hx => by
    obtain ⟨s, _, rfl⟩ := List.mem_map.mp hx
    exact plain_spot s
theorem plain_what (sp : Nat → Nat × Nat) (sw : Nat → List (Nat × Nat)) (r : Row) : (whatG sp sw r).plain := by
  unfold whatG
  simp only [D.plain]
  refine plainL_iff.mpr fun x hx => ?_
  rcases List.mem_cons.mp hx with rfl | hx
  · simp [D.plain]
  · rcases List.mem_append.mp hx with hx | hx
    · split at hx
      · rw [List.mem_singleton.mp hx]
        exact plain_homes _
      · cases hx
    · obtain ⟨t, _, rfl⟩ := List.mem_map.mp hx
      exact plain_spot _
theorem fine_whatG {sp : Nat → Nat × Nat} {sw : Nat → List (Nat × Nat)} {r : Row} (h : r.uses = true → (sw r.wor).length ≤ 3) : Fine 3 (whatG sp sw r) := by
  have hn := nx_len r
  refine fine_tup ?_ fun x hx => ?_
  · cases r.uses <;> simp <;> omega
  · rcases List.mem_cons.mp hx with rfl | hx
    · exact fine_str _ _
    · rcases List.mem_append.mp hx with hx | hx
      · split at hx
        · rename_i c
          rw [List.mem_singleton.mp hx]
          exact fine_homes (Nat.le_trans (h c) (by decide))
        · cases hx
      · obtain ⟨t, _, rfl⟩ := List.mem_map.mp hx
        exact fine_mono (fine_spot _) (by decide)
theorem cellsG_ok {p : Prog} {y : Lay} {sp : Nat → Nat × Nat} {sw : Nat → List (Nat × Nat)} (h : Std p y sp sw) (g : Good p) (yk : LayOk p y) : ∀ c ∈ cellsG p sp sw, Fine 3 c.2 ∧ c.2.plain := fun c hc => by
  rcases List.mem_append.mp hc with z | z
  · obtain ⟨i, hi, rfl⟩ := List.mem_map.mp z
    have hi := List.mem_range.mp hi
    refine ⟨fine_whatG fun hu => h.l3 yk ?_, plain_what _ _ _⟩
    rw [List.getD_eq_getElem?_getD, List.getElem?_eq_getElem hi]
    rw [List.getD_eq_getElem?_getD, List.getElem?_eq_getElem hi] at hu
    exact Row.wor_lt hu (g.ok _ (List.getElem_mem hi))
  · obtain ⟨i, _, z⟩ := List.mem_flatMap.mp z
    obtain ⟨s, _, rfl⟩ := List.mem_map.mp z
    exact ⟨fine_mono (fine_wor _) (by decide), by simp [worD, D.plain, plainL]⟩
theorem cellsG_len {p : Prog} {y : Lay} {sp : Nat → Nat × Nat} {sw : Nat → List (Nat × Nat)} (h : Std p y sp sw) (g : Good p) (yk : LayOk p y) : (cellsG p sp sw).length ≤ 64 := by
  have r40 := g.r40
  have w8 := g.w8
  have hs : ∀ n, n ≤ p.ws.length → ((List.range n).flatMap (worG p sw)).length ≤ 3 * n := fun n => by
    induction n with
    | zero => intro _; exact Nat.le_refl _
    | succ n ih =>
      intro hn
      have i := ih (by omega)
      have l := h.l3 yk (x := n) (by omega)
      rw [List.range_succ, List.flatMap_append, List.length_append]
      have e : (List.flatMap (worG p sw) [n]).length = (sw n).length := by
        show ([] ++ worG p sw n ++ []).length = _ <;> simp [worG]
      have e2 : (List.flatMap (worG p sw) [n]).length ≤ 3 := by simp [worG]; exact l
      omega
  have := hs p.ws.length (Nat.le_refl _)
  unfold cellsG
  rw [List.length_append, List.length_map, List.length_range]
  omega
theorem cells_inv {H : Hp} : ∀ {cs : List Cell} {vs : List V}, Ats H vs (cs.map cellD) → (∀ c ∈ cs, c.2.flat) → ∃ bs : List Addr, vs = bs.map V.ref ∧ CellsAt H bs cs
  | [], vs, h, _ => ⟨[], ats_nil_inv h, .nil⟩
  | c :: cs, vs, h, f => by
    obtain ⟨v, us, rfl, h1, h2⟩ := ats_cons_inv h
    obtain ⟨bs, rfl, hb⟩ := cells_inv h2 fun c hc => f c (List.mem_cons_of_mem _ hc)
    obtain ⟨b, ws, rfl, hh, hw⟩ := at_tup_inv h1
    obtain ⟨v1, u1, rfl, g1, g2⟩ := ats_cons_inv hw
    obtain ⟨v2, u2, rfl, g3, g4⟩ := ats_cons_inv g2
    have z0 := ats_nil_inv g4
    subst z0
    obtain ⟨s, rfl, hs⟩ := spot_inv g1
    exact ⟨b :: bs, rfl, .cons ⟨s, v2, hh, hs, g3, f c List.mem_cons_self⟩ hb⟩
theorem cells_ats {H : Hp} : ∀ {bs : List Addr} {cs : List Cell}, CellsAt H bs cs → Ats H (bs.map V.ref) (cs.map cellD)
  | _, _, .nil => ats_nil
  | _, _, .cons h t => ats_cons (cell_at h) (cells_ats t)
theorem cells_pick {H : Hp} {bs : List Addr} {cs : List Cell} (h : CellsAt H bs cs) (d : Cell) : ∀ o : List Nat, (∀ i ∈ o, i < cs.length) → CellsAt H (o.map fun i => bs.getD i 0) (o.map fun i => cs.getD i d)
  | [], _ => .nil
  | i :: o, hi => by
    obtain ⟨b, g1, g2⟩ := Paired.getR h (List.getElem?_eq_getElem (hi i List.mem_cons_self))
    refine .cons ?_ (cells_pick h d o fun j hj => hi j (List.mem_cons_of_mem _ hj))
    show CellAt H (bs.getD i 0) (cs.getD i d)
    rw [List.getD_eq_getElem?_getD, g1, List.getD_eq_getElem?_getD, List.getElem?_eq_getElem (hi i List.mem_cons_self)]
    exact g2
theorem ord_perm {cs : List Cell} (d : Cell) {o : List Nat} (ho : IsOrd (cs.map (·.1)) o) : (o.map fun i => cs.getD i d).Perm cs := by
  have z := ho.perm.map fun i => cs.getD i d
  rw [List.length_map, range_getD d cs] at z
  exact z
structure Stand (H : Hp) (p : Prog) (y : Lay) (t cl : Addr) (sp : Nat → Nat × Nat) (sw : Nat → List (Nat × Nat)) (bs : List Addr) (cs : List Cell) : Prop where
  at_ : ∃ s0, H t = some (.tup [nI y.wide, .ref s0, .ref cl]) ∧ H s0 = some (.tup [nI (sp 0).1, nI (sp 0).2])
  lst : H cl = some (.lst (bs.map V.ref))
  cells : CellsAt H bs cs
  perm : cs.Perm (cellsG p sp sw)
  std : Std p y sp sw
theorem Stand.kp {H H' : Hp} {p : Prog} {y : Lay} {t cl : Addr} {sp : Nat → Nat × Nat} {sw : Nat → List (Nat × Nat)} {bs : List Addr} {cs : List Cell} (h : Stand H p y t cl sp sw bs cs) (k : Kp H H') (hl : H' cl = some (.lst (bs.map V.ref))) : Stand H' p y t cl sp sw bs cs := by
  obtain ⟨s0, h1, h2⟩ := h.at_
  exact ⟨⟨s0, k _ _ h1, k _ _ h2⟩, hl, h.cells.kp k, h.perm, h.std⟩
theorem Stand.same {H H' : Hp} {p : Prog} {y : Lay} {t cl : Addr} {sp : Nat → Nat × Nat} {sw : Nat → List (Nat × Nat)} {bs : List Addr} {cs : List Cell} (h : Stand H p y t cl sp sw bs cs) (s : Same1 H H') : Stand H' p y t cl sp sw bs cs := h.kp (Kp.same s) (s _ _ h.lst)
theorem stand_image {H : Hp} {p : Prog} {y : Lay} {t s0 cl : Addr} {bs : List Addr} {o : List Nat} (yk : LayOk p y) (h : H t = some (.tup [nI y.wide, .ref s0, .ref cl])) (hs : H s0 = some (.tup [nI ((rowSp y).getD 0 (0, 0)).1, nI ((rowSp y).getD 0 (0, 0)).2]))
    (hc : H cl = some (.lst (o.map fun i => V.ref (bs.getD i 0)))) (hb : CellsAt H bs (cellsF p y)) (ho : IsOrd ((cellsF p y).map (·.1)) o) :
    Stand H p y t cl (fun i => (rowSp y).getD i (0, 0)) (fun x => (worSp y).getD x []) (o.map fun i => bs.getD i 0) (o.map fun i => (cellsF p y).getD i ((0, 0), .non)) := by
  refine ⟨⟨s0, h, hs⟩, ?_, cells_pick hb _ o fun i hi => ?_, ord_perm _ ho, std_image yk⟩
  · rw [hc, List.map_map]
    rfl
  · have hi := List.mem_range.mp (ho.perm.mem_iff.mp hi)
    rwa [List.length_map] at hi
theorem FnOk.or {P : Program} {w : World} {K : Frg} {mg : Str → Option Value} {base : Heap} {CX : CXT} {k : Nat} {f : Addr} {fd : FuncData} {ps : List Str} {sp sp' : Sp} (F : FnOk P w K mg base CX k f fd ps sp) (G : FnOk P w K mg base CX k f fd ps sp') :
    FnOk P w K mg base CX k f fd ps (fun vs H Q E => sp vs H Q E ∨ sp' vs H Q E) :=
  ⟨fun vs H Q E h => h.elim (F.len vs H Q E) (G.len vs H Q E), fun A outer s H args us vs Q E hr e0 hb hv h => h.elim (F.run A outer s H args us vs Q E hr e0 hb hv) (G.run A outer s H args us vs Q E hr e0 hb hv)⟩
end DL
namespace DL
open PySem PySem.Spec L2 DLR LamX
abbrev sLaw : Stmt := top 64
abbrev nLaw : List Str := ["_law_script","_law_d","_law_turn","_law_program","_law_laying_here","_law_fuel","_law_due","_law_stands","_law_change","_law_place","_law_many","_law_one","_law_other","_law_cells","_law_cell"]
def spLaw (K : Frg) (Pt : Addr) : Sp := fun vs H Q _ => ∃ (sa : Addr) (ns : List Int), vs = [.ref sa] ∧ SqL K H sa (ns.map V.int) ∧ ns.length ≤ 63 ∧ H Pt = some (.tbl #[]) ∧ ∀ H', Q (.bl true) H'
abbrev FDice (K : Frg) (mg : Str → Option Value) := Fd K mg "_law_dice" sDice ["_law_script"]
abbrev FLike (K : Frg) (mg : Str → Option Value) := Fd K mg "_law_like" sLike ["_law_found", "_law_due"]
def dueD (p : Prog) (y : Lay) (fuel : Nat) : D := .tup [.lst ((runS p fuel).m.said.map D.int), .tup [.str (if (runS p fuel).here = none then "stop" else "long")], .int (spinS p y fuel).now]
structure DueAt (H : Hp) (p : Prog) (y : Lay) (fuel : Nat) (a ls : Addr) : Prop where
  ex : ∃ le, H a = some (.tup [.ref ls, .ref le, .int (spinS p y fuel).now]) ∧ H le = some (.tup [.str (if (runS p fuel).here = none then "stop" else "long")])
  lst : H ls = some (.lst ((runS p fuel).m.said.map V.int))
theorem DueAt.at {H : Hp} {p : Prog} {y : Lay} {fuel : Nat} {a ls : Addr} (h : DueAt H p y fuel a ls) : At H (.ref a) (dueD p y fuel) := by
  obtain ⟨le, h1, h2⟩ := h.ex
  have z : ∀ l : List Int, Ats H (l.map V.int) (l.map D.int) := fun l => ats_map fun x _ => at_int
  exact at_tup h1 (ats_cons (at_lst h.lst (z _)) (ats_cons (at_tup h2 (ats_cons at_str ats_nil)) (ats_cons at_int ats_nil)))
theorem DueAt.kp {H H' : Hp} {p : Prog} {y : Lay} {fuel : Nat} {a ls : Addr} (h : DueAt H p y fuel a ls) (k : Kp H H') (l : H' ls = some (.lst ((runS p fuel).m.said.map V.int))) : DueAt H' p y fuel a ls := by
  obtain ⟨le, h1, h2⟩ := h.ex
  exact ⟨⟨le, k _ _ h1, k _ _ h2⟩, l⟩
theorem DueAt.same {H H' : Hp} {p : Prog} {y : Lay} {fuel : Nat} {a ls : Addr} (h : DueAt H p y fuel a ls) (s : Same1 H H') : DueAt H' p y fuel a ls := h.kp (Kp.same s) (s _ _ h.lst)
theorem due_fine {p : Prog} (g : Good p) (y : Lay) {fuel : Nat} (f5 : fuel ≤ 5000) : (dueD p y fuel).dep ≤ 3 ∧ (dueD p y fuel).fit := by
  have O := (runS_ok g fuel).said
  have hi : ∀ x ∈ (runS p fuel).m.said.map D.int, x.dep ≤ 0 ∧ x.fit := fun x hx => by
    obtain ⟨i, _, rfl⟩ := List.mem_map.mp hx
    exact ⟨Nat.zero_le _, by simp [D.fit]⟩
  have hm : ∀ x ∈ [D.lst ((runS p fuel).m.said.map D.int), .tup [.str (if (runS p fuel).here = none then "stop" else "long")], .int (spinS p y fuel).now], x.dep ≤ 2 ∧ x.fit := fun x hx => by
    rcases List.mem_cons.mp hx with rfl | hx
    · exact ⟨Nat.le_trans (dep_lst fun x hx => (hi x hx).1) (by decide), fit_lst (by rw [List.length_map]; omega) fun x hx => (hi x hx).2⟩
    · rcases List.mem_cons.mp hx with rfl | hx
      · have z := fine_tup (n := 0) (ds := [D.str (if (runS p fuel).here = none then "stop" else "long")]) (by show 1 ≤ 100000; decide) fun x hx => by
          rw [List.mem_singleton.mp hx]
          exact fine_str _ _
        exact ⟨Nat.le_trans z.dep (by decide), z.fit⟩
      · rw [List.mem_singleton.mp hx]
        exact ⟨Nat.zero_le _, (fine_int 0 _).fit⟩
  exact ⟨dep_tup fun x hx => (hm x hx).1, fit_tup (by show 3 ≤ 100000; decide) fun x hx => (hm x hx).2⟩
section
variable {P : Program} {w : World} {K : PySem.W.Frag} {mg : Str → Option Value} {base : Heap}
theorem scLaw : FnScope nLaw ["_law_script"] (defScope sLaw) := ⟨rfl, rfl, rfl, by decide +kernel, rfl, by decide +kernel, by decide +kernel⟩
theorem ok_law {fa cc Pt : Addr} {oc kV doc pm ct : Value} {an od : Option Addr} {osl : Array (Option Value)}
    (lk : K.lookup fa = some ⟨oc, od, .func (PySem.W.fnOf "law" "law" (defArgs sLaw) (defBody sLaw) (defScope sLaw) .none kV doc pm an (.ref cc) ct), osl⟩) (hcd : PySem.W.codeIn K (.ref cc) "law" = true) (TB : TabB base mg cc Pt)
    (cDice : FDice K mg) (cNext : FNext K mg) (cAny : FAny K mg) (cLaying : FLaying K mg) (cLike : FLike K mg) (cSpun : FSpun K mg) (cImage : FImage K mg) (cReeled : FReeled K mg) (cEx : FEx K mg) (T : Bt mg)
    (GAny : FnOk P w K mg base CX0 8 cAny.f cAny.fd ["_law_d"] (spAny K)) (GLaying : FnOk P w K mg base CX0 2 cLaying.f cLaying.fd pLaying (spLaying K)) (GSpun : FnOk P w K mg base CX0 8 cSpun.f cSpun.fd pSpun spSpun) (GImage : FnOk P w K mg base CX0 6 cImage.f cImage.fd ["program", "laying"] spImage)
    (GReeled : FnOk P w K mg base CX0 4 cReeled.f cReeled.fd ["told","fuel"] spReeled) :
    FnOk P w K mg base CX0 10 fa (PySem.W.fnOf "law" "law" (defArgs sLaw) (defBody sLaw) (defScope sLaw) .none kV doc pm an (.ref cc) ct) ["_law_script"] (spLaw K Pt) := by
  have GDice : FnOk P w K mg base CX0 1 cDice.f cDice.fd ["_law_script"] (spDice K) := ok_dice cDice.F T
  have GNext : FnOk P w K mg base CX0 1 cNext.f cNext.fd ["_law_dice_here", "_law_many"] (spNext K) := ok_next cNext.F T
  have GLike : FnOk P w K mg base CX0 4 cLike.f cLike.fd ["_law_found", "_law_due"] (spLike K 3) := ok_like cLike.F cLike.b cLike.m T 3
  have GEx : FnOk P w K mg base CX0 6 cEx.f cEx.fd pEx (fun vs H Q E => spEx 5 vs H Q E ∨ spExL 4 vs H Q E) := DL.FnOk.or (ok_ex cEx.F cEx.b cEx.m T 5) (ok_exL cEx.F cEx.b cEx.m T)
  refine fn_of lk hcd scLaw (fun vs H Q E h => ?_) (fun A outer s H vs Q E' hr h => ?_)
  · obtain ⟨sa, ns, rfl, _⟩ := h
    rfl
  · obtain ⟨sa, ns, rfl, hS, hlen, hPt, kq⟩ := h
    refine ⟨_, PSs.nox (pss_cons (ps_set (i := 1) scLaw.nd rfl (Or.inl rfl) (pe_call GDice (hr.mono (by first | omega | decide)) (by rfl) cDice.m cDice.F.kp cDice.b .nil pass0 (pa_cons (pv 0) pa_nil)))
      (pss_cons (ps_for PassesOwn.never rfl (pi_range1 rfl T.range (pa_cons pe_int pa_nil)) (pg_name (i := 2) scLaw.nd rfl (Or.inl rfl))
          (pss_cons (ps_set (i := 3) scLaw.nd rfl (Or.inl rfl) (pe_call GAny (hr.mono (by first | omega | decide)) (by rfl) cAny.m cAny.F.kp cAny.b .nil pass0 (pa_cons (pv 1) pa_nil)))
          (pss_cons (ps_set (i := 4) scLaw.nd rfl (Or.inl rfl) (pe_call GLaying (hr.mono (by first | omega | decide)) (by rfl) cLaying.m cLaying.F.kp cLaying.b .nil pass0 (pa_cons (pv 1) (pa_cons (pv 3) (pa_cons pe_int pa_nil)))))
          (pss_cons (ps_set (i := 5) scLaw.nd rfl (Or.inl rfl) (pe_ix ix_list (pe_lst (pa_cons pe_int (pa_cons (pe_call GNext (hr.mono (by first | omega | decide)) (by rfl) cNext.m cNext.F.kp cNext.b .nil pass0 (pa_cons (pv 1) (pa_cons pe_int pa_nil))) pa_nil))) (pe_callTy call_int1 (by rfl) T.int (by decide +kernel) (pa_cons (pe_cmpR op_eq (pe_call GNext (hr.mono (by first | omega | decide)) (by rfl) cNext.m cNext.F.kp cNext.b .nil pass0 (pa_cons (pv 1) (pa_cons pe_int pa_nil))) pe_int (nomark _)) pa_nil)) (fun _ _ => rfl)))
          (pss_cons (ps_set (i := 6) scLaw.nd rfl (Or.inl rfl) (pe_call GSpun (hr.mono (by first | omega | decide)) (by rfl) cSpun.m cSpun.F.kp cSpun.b .nil pass0 (pa_cons (pv 3) (pa_cons (pv 4) (pa_cons (pv 5) pa_nil)))))
          (pss_cons (ps_set (i := 7) scLaw.nd rfl (Or.inl rfl) (pe_call GImage (hr.mono (by first | omega | decide)) (by rfl) cImage.m cImage.F.kp cImage.b .nil pass0 (pa_cons (pv 3) (pa_cons (pv 4) pa_nil))))
          (pss_one (ps_for PassesOwn.never rfl (pi_range1 rfl T.range (pa_cons pe_int pa_nil)) (pg_name (i := 8) scLaw.nd rfl (Or.inl rfl))
              (pss_cons (ps_if (PW.pt (pw_or (pt_not (pt_val (pe_call GLike (hr.mono (by first | omega | decide)) (by rfl) cLike.m cLike.F.kp cLike.b .nil pass0 (pa_cons (pe_call GReeled (hr.mono (by first | omega | decide)) (by rfl) cReeled.m cReeled.F.kp cReeled.b .nil pass0 (pa_cons (pv 7) (pa_cons (pv 5) pa_nil))) (pa_cons (pv 6) pa_nil))))) (pw_or1 (pt_not (pt_val (pe_call GLike (hr.mono (by first | omega | decide)) (by rfl) cLike.m cLike.F.kp cLike.b .nil pass0 (pa_cons (pe_call GReeled (hr.mono (by first | omega | decide)) (by rfl) cReeled.m cReeled.F.kp cReeled.b .nil pass0 (pa_cons (pv 7) (pa_cons (pv 5) pa_nil))) (pa_cons (pv 6) pa_nil))))))))
                  (pss_one (ps_ret pe_bl))
                  pss_nil)
              (pss_cons (ps_set (i := 9) scLaw.nd rfl (Or.inr rfl) (pe_call GNext (hr.mono (by first | omega | decide)) (by rfl) cNext.m cNext.F.kp cNext.b .nil pass0 (pa_cons (pv 1) (pa_cons (pe_ix ix_tup (pv 4) pe_int (fun _ _ => rfl)) pa_nil))))
              (pss_cons (ps_set (i := 10) scLaw.nd rfl (Or.inl rfl) (pe_callB call_len_seq (by rfl) T.len PySem.boot_len (pa_cons (pe_lc (own := [("_law_cell", 14)]) (g := gName 14) rfl scLaw.nd (pi_list (pe_ix ix_tup (pv 7) pe_int (fun _ _ => rfl))) (blkOk_by (N := nLaw) (sc := defScope sLaw) (by decide +kernel)) (fun _ _ _ _ _ => (pg_name (i := 14) scLaw.nd rfl (Or.inl rfl))) (fun _ _ _ _ _ => (pts_one (pt_cmpR op_eq (pe_ix (ix_tupK K rfl) (pe_ix (ix_tupK K rfl) (pv 14) pe_int (fun _ _ => rfl)) pe_int (fun _ _ => rfl)) (pv 9) (nomark _)))) (fun _ _ _ _ _ => (pv 14))) pa_nil)))
              (pss_one (ps_if (pt_cmpR op_gt (pv 10) pe_int (nomark _))
                  (pss_cons (ps_par (i := 11) (j := 12) (by rfl) scLaw.nd rfl rfl (by decide) rfl rfl (pa_cons (pe_call GNext (hr.mono (by first | omega | decide)) (by rfl) cNext.m cNext.F.kp cNext.b .nil pass0 (pa_cons (pv 1) (pa_cons (pv 10) pa_nil))) (pa_cons (pe_call GNext (hr.mono (by first | omega | decide)) (by rfl) cNext.m cNext.F.kp cNext.b .nil pass0 (pa_cons (pv 1) (pa_cons (pv 10) pa_nil))) pa_nil)) (by rfl))
                  (pss_cons (ps_set (i := 13) scLaw.nd rfl (Or.inl rfl) (pe_call GEx (hr.mono (by first | omega | decide)) (by rfl) cEx.m cEx.F.kp cEx.b .nil pass0 (pa_cons (pe_ix ix_tup (pv 7) pe_int (fun _ _ => rfl)) (pa_cons (pv 9) (pa_cons (pv 11) (pa_cons (pv 12) pa_nil))))))
                  (pss_cons (ps_set (i := 13) scLaw.nd rfl (Or.inl rfl) (pe_callBK (cr_sortedK (x := "_law_cell") hr (by decide)) (by rfl) T.sorted (by decide +kernel) (pa_cons (pv 13) pa_nil) (pk_cons (pe_lamK (T := [(Pt, qL)]) TB rfl (tab_mem (by rfl)) (tab_one (by rfl)) rfl rfl rfl rfl rfl (fun _ _ _ _ _ => rfl)) pk_nil)))
                  (pss_one (ps_set (i := 7) scLaw.nd rfl (Or.inl rfl) (pe_tup (pa_cons (pe_ix ix_tup (pv 7) pe_int (fun _ _ => rfl)) (pa_cons (pe_call GEx (hr.mono (by first | omega | decide)) (by rfl) cEx.m cEx.F.kp cEx.b .nil pass0 (pa_cons (pe_ix ix_tup (pv 7) pe_int (fun _ _ => rfl)) (pa_cons (pv 9) (pa_cons (pv 11) (pa_cons (pv 12) pa_nil))))) (pa_cons (pv 13) pa_nil)))))))))
                  pss_nil)))))))))))))
      (pss_one (ps_ret pe_bl)))), ?_⟩
    refine ⟨_, rfl, sa, ns, rfl, hS, hlen, fun d H1 s1 hd hE => ?_⟩
    have L1 : Ct K (noTb H1) H1 d sa Pt ns := ⟨⟨hE.noTb, fun x o _ g => (noTb_of g).1, hE.dice⟩, TabS.nil (s1 _ _ hPt)⟩
    refine ⟨4, rfl, by decide, by decide, ?_⟩
    refine for_range (lo := 0) (n := (4 : Int).toNat) (fun i σ H' => ∃ (x2 x3 x4 x5 x6 x7 x8 x9 x10 x11 x12 x13 : Option V), σ = [some (.ref sa), some (.ref d), x2, x3, x4, x5, x6, x7, x8, x9, x10, x11, x12, x13, none] ∧ Ct K (noTb H1) H' d sa Pt ns)
      ⟨none, none, none, none, none, none, none, none, none, none, none, none, rfl, L1⟩ ?_ ?_
    · rintro i σ H2 hi ⟨x2, x3, x4, x5, x6, x7, x8, x9, x10, x11, x12, x13, rfl, L2⟩
      refine ⟨_, rfl, d, sa, ns, rfl, L2.ent.ent, fun pa p H3 C3 hP g => ?_⟩
      have L3 := L2.dice C3
      refine ⟨_, rfl, _, rfl, d, sa, ns, pa, p, 3, rfl, L3.ent.ent, hP, g, by decide, by decide, fun ya y H4 C4 hY yk _ => ?_⟩
      have L4 := L3.dice C4
      have w2 := yk.w2
      have w24 := yk.w24
      refine ⟨_, rfl, d, sa, ns, _, rfl, L4.ent.ent, by decide, by decide, fun n1 H5 a0 a1 C5 => ?_⟩
      have L5 := L4.dice C5
      refine ⟨(by show 2 ≤ sizeLine; decide), fun l5 hl5 => ?_⟩
      refine alloc hl5 fun H6 s6 e6 => ?_
      have L6 := L5.same s6
      refine ⟨_, rfl, d, sa, ns, _, rfl, L6.ent.ent, by decide, by decide, fun n2 H7 b0 b1 C7 => ?_⟩
      have L7 := L6.dice C7
      obtain ⟨fuel, f5, hf⟩ : ∃ fuel : Nat, fuel ≤ 5000 ∧ atI ([V.int 5000, V.int n1] : List V) (if decide (V.int n2 = V.int 3) = true then 1 else 0) = some (.int (fuel : Int)) := by
        by_cases c : decide (V.int n2 = V.int 3) = true
        · rw [if_pos c]
          exact ⟨n1.toNat, by omega, by rw [Int.toNat_of_nonneg a0]; exact at1⟩
        · rw [if_neg c]
          exact ⟨5000, by omega, at0⟩
      refine ⟨rfl, .inr ⟨_, rfl, l5, _, _, _, rfl, rfl, SqL.of (C7.but _ _ (L5.ent.ned (L5.ent.here hl5)) e6), hf, ?_⟩⟩
      have hP7 := hP.kp ((C4.kp.trans C5.kp).trans ((Kp.same s6).trans C7.kp))
      have hY7 := hY.kp (C5.kp.trans ((Kp.same s6).trans C7.kp))
      refine ⟨_, rfl, _, rfl, _, rfl, pa, ya, p, y, fuel, rfl, hP7, g, hY7, yk, f5, fun da ls le H8 s8 nls eda els ele => ?_⟩
      have L8 := L7.same s8
      have nls8 : ls ≠ d := L7.ent.ned (L7.ent.here nls)
      have D8 : DueAt H8 p y fuel da ls := ⟨⟨le, eda, ele⟩, els⟩
      refine ⟨_, rfl, _, rfl, pa, ya, p, y, rfl, hP7.kp (Kp.same s8), g, hY7.kp (Kp.same s8), yk, fun t s0 cl bs o H9 s9 ho e1 e2 ncl e3 hC => ?_⟩
      have L9 := L8.same s9
      have D9 := D8.same s9
      have ncl9 : cl ≠ d := L8.ent.ned (L8.ent.here ncl)
      have S9 := stand_image yk e1 e2 e3 hC ho
      obtain ⟨pl, hl, cs0, hya, hpl, hhl, hH⟩ := id (hY7.kp (Kp.same (s8.trans s9)))
      obtain ⟨du1, du2⟩ := due_fine g y f5
      refine ⟨3, rfl, by decide, by decide, ?_⟩
      refine for_range (lo := 0) (n := (3 : Int).toNat) (fun j σ H' => ∃ (x8 x9 x10 x11 x12 x13 : Option V) (t cl : Addr) (sp : Nat → Nat × Nat) (sw : Nat → List (Nat × Nat)) (bs : List Addr) (cs : List Cell), σ = [some (.ref sa), some (.ref d), some (.int (0 + (i : Int))), some (.ref pa), some (.ref ya), some (.int (fuel : Int)), some (.ref da), some (.ref t), x8, x9, x10, x11, x12, x13, none] ∧ Ct K (noTb H1) H' d sa Pt ns ∧ H' ya = some (.tup [nI y.wide, .ref pl, .ref hl]) ∧ DueAt H' p y fuel da ls ∧ cl ≠ d ∧ Stand H' p y t cl sp sw bs cs)
        ⟨x8, x9, x10, x11, x12, x13, t, cl, _, _, _, _, rfl, L9, hya, D9, ncl9, S9⟩ ?_ ?_
      · rintro j σ H10 hj ⟨z8, z9, z10, z11, z12, z13, t, cl, sp, sw, bs, cs, rfl, L10, hya, D10, ncl, S10⟩
        dsimp only [gName]
        have ry : ∀ {H' : Hp} {Q' : VK}, DueAt H' p y fuel da ls → Stand H' p y t cl sp sw bs cs → True := fun _ _ => trivial
        obtain ⟨s0, ht, hs0⟩ := S10.at_
        refine ⟨_, rfl, _, rfl, t, s0, cl, fuel, p, y, sp, sw, bs, cs, rfl, ht, hs0, S10.lst, S10.cells, S10.perm, g, yk, S10.std, f5, fun ra rl rle H11 s11 nrl era erl ere => ?_⟩
        have R11 : DueAt H11 p y fuel ra rl := ⟨⟨rle, era, ere⟩, erl⟩
        have D11 := D10.same s11
        refine ⟨_, rfl, _, _, dueD p y fuel, rfl, R11.at, D11.at, du1, du2, _, rfl, iteF ?_⟩
        have S11 := S10.same s11
        refine ⟨_, rfl, _, rfl, t, s0, cl, fuel, p, y, sp, sw, bs, cs, rfl, s11 _ _ ht, s11 _ _ hs0, S11.lst, S11.cells, S11.perm, g, yk, S11.std, f5, fun rb rm rne H12 s12 nrm erb erm ern => ?_⟩
        have R12 : DueAt H12 p y fuel rb rm := ⟨⟨rne, erb, ern⟩, erm⟩
        have D12 := D11.same s12
        refine ⟨_, rfl, _, _, dueD p y fuel, rfl, R12.at, D12.at, du1, du2, _, rfl, iteF ?_⟩
        have S12 := S11.same s12
        have s1012 := s11.trans s12
        have L12 := L10.same s1012
        have hya12 := s1012 _ _ hya
        refine ⟨_, rfl, _, rfl, ya, _, _, _, rfl, rfl, SqT.of hya12, at0, d, sa, ns, (y.wide : Int), rfl, L12.ent.ent, by omega, by omega, fun pl1 H13 p0 p1 C13 => ?_⟩
        obtain ⟨plc, rfl⟩ : ∃ m : Nat, pl1 = (m : Int) := ⟨pl1.toNat, by omega⟩
        have L13 := L12.dice C13
        have hya13 := C13.kp _ _ hya12
        have els12 := D12.lst
        have nlsd : ls ≠ d := nls8
        have D13 := D12.kp C13.kp (C13.but _ _ nlsd els12)
        have S13 := S12.kp C13.kp (C13.but _ _ ncl S12.lst)
        dsimp only [gName]
        have ht13 := C13.kp _ _ (s1012 _ _ ht)
        have hs13 := C13.kp _ _ (s1012 _ _ hs0)
        have hbl := Paired.length S13.cells
        have hcl := S13.perm.length_eq
        have h64 := cellsG_len S13.std g yk
        refine ⟨_, rfl, t, _, _, _, rfl, rfl, SqT.of ht13, at2, cl, rfl, ⟨_, SqL.of S13.lst⟩, fun D hD => ?_⟩
        refine lc_list (K := K) (a := cl) (xs := bs.map V.ref) (fun q H' => ∃ ys : List V, Same1 H13 H' ∧ H' D = some (.lst ys) ∧ ys.length ≤ q) ⟨[], Same.new hD, upd_same, Nat.le_refl _⟩ (fun q H' _ ⟨_, z, _⟩ => SqL.of (z _ _ S13.lst)) ?_ ?_
        · rintro q x H14 hq ⟨ys, s14, hd14, hyl⟩
          have hql : q < bs.length := by
            have z := (List.getElem?_eq_some_iff.mp hq).1
            rwa [List.length_map] at z
          obtain ⟨bq, cq, hb1, hc1, hcq⟩ : ∃ bq cq, bs[q]? = some bq ∧ cs[q]? = some cq ∧ CellAt H13 bq cq := by
            obtain ⟨c, g1, g2⟩ := Paired.get S13.cells (List.getElem?_eq_getElem hql)
            exact ⟨_, c, List.getElem?_eq_getElem hql, g1, g2⟩
          have ex : x = .ref bq := by
            rw [List.getElem?_map, hb1] at hq
            exact (Option.some.inj hq).symm
          subst ex
          obtain ⟨sq, vq, hq1, hq2, _, _⟩ := hcq
          refine ⟨rfl, _, rfl, bq, _, _, _, rfl, rfl, SqT.of (s14 _ _ hq1), at0, sq, _, _, _, rfl, rfl, SqT.of (s14 _ _ hq2), at0, _, rfl, rfl, _, rfl, ite2 (fun c => ?_) (fun c => ?_)⟩
          · exact ⟨_, rfl, ys, hd14, szl (by omega), _, Same.mut s14 hD, upd_same, by rw [List.length_append]; show ys.length + 1 ≤ q + 1; omega⟩
          · exact ⟨ys, s14, hd14, by omega⟩
        rintro H14 ⟨ys, s14, hd14, hyl⟩
        rw [List.length_map] at hyl
        refine ⟨D, ys, rfl, .inl (SqL.of hd14), ?_⟩
        dsimp only [gName]
        have L14 := L13.same s14
        have D14 := D13.same s14
        have S14 := S13.same s14
        have hya14 := s14 _ _ hya13
        refine ⟨_, rfl, _, _, rfl, rfl, _, rfl, ite2 (fun c => ?_) (fun c => ?_)⟩
        · have many := of_decide_eq_true c
          refine ⟨_, rfl, _, rfl, d, sa, ns, (ys.length : Int), rfl, L14.ent.ent, by omega, by omega, fun n3 H15 o0 o1 C15 => ?_⟩
          obtain ⟨one, rfl⟩ : ∃ m : Nat, n3 = (m : Int) := ⟨n3.toNat, by omega⟩
          have L15 := L14.dice C15
          refine ⟨_, rfl, _, rfl, d, sa, ns, (ys.length : Int), rfl, L15.ent.ent, by omega, by omega, fun n4 H16 q0 q1 C16 => ?_⟩
          obtain ⟨oth, rfl⟩ : ∃ m : Nat, n4 = (m : Int) := ⟨n4.toNat, by omega⟩
          have L16 := L15.dice C16
          have K1416 := C15.kp.trans C16.kp
          have l16 : ∀ {a : Addr} {o : HO}, a ≠ d → H14 a = some o → H16 a = some o := fun n e => C16.but _ _ n (C15.but _ _ n e)
          have D16 := D14.kp K1416 (l16 nlsd D14.lst)
          have S16 := S14.kp K1416 (l16 ncl S14.lst)
          have hya16 := K1416 _ _ hya14
          obtain ⟨s0', ht16, hs16⟩ := S16.at_
          have okc : ∀ c ∈ cs, Fine 3 c.2 ∧ c.2.plain := fun c hc => cellsG_ok S16.std g yk c (S16.perm.mem_iff.mp hc)
          have fc : ∀ x ∈ cs.map cellD, Fine 4 x ∧ x.plain := fun x hx => by
            obtain ⟨c, hc, rfl⟩ := List.mem_map.mp hx
            obtain ⟨f1, f2⟩ := okc c hc
            refine ⟨fine_tup (by show 2 ≤ 100000; decide) fun z hz => ?_, ?_⟩
            · rcases List.mem_cons.mp hz with rfl | hz
              · exact fine_mono (fine_spot _) (by decide)
              · rw [List.mem_singleton.mp hz]
                exact f1
            · unfold cellD
              simp only [DL.D.plain, plainL]
              exact ⟨plain_spot _, f2, True.intro⟩
          refine ⟨_, _, rfl, _, rfl, t, _, _, _, rfl, rfl, SqT.of ht16, at2, _, rfl, _, rfl, _, rfl, .inr ⟨cl, bs.map V.ref, (plc : Int), (one : Int), (oth : Int), cs.map cellD, rfl, S16.lst, cells_ats S16.cells, plainL_iff.mpr fun x hx => (fc x hx).2, by rw [List.length_map]; omega, fitL_iff.mpr fun x hx => (fc x hx).1.fit, fun x hx => (fc x hx).1.dep, fun a1 ws1 H17 s17 na1 e17 hat17 => ?_⟩⟩
          dsimp only [gName]
          have L17 := L16.same s17
          have ecs : (cs.map cellD).map (exD (plc : Int) (one : Int) (oth : Int)) = (cs.map (exC plc one oth)).map cellD := by
            rw [List.map_map, List.map_map]
            exact List.map_congr_left fun c _ => exD_cell plc one oth c
          rw [ecs] at hat17
          have SX := S16.std.ex plc one oth
          have PX : (cs.map (exC plc one oth)).Perm (cellsG p (fun i => exS plc one oth (sp i)) (fun x => (sw x).map (exS plc one oth))) := by
            rw [← cellsG_ex]
            exact S16.perm.map _
          obtain ⟨bs1, rfl, C17⟩ := cells_inv hat17 fun c hc => (cellsG_ok SX g yk c (PX.mem_iff.mp hc)).1.flat
          refine ⟨_, rfl, L17.tabs, fun lv H18 e18 T18 LK => ?_⟩
          have L18 := L17.ext e18 T18
          have k18 := Kp.ext e18
          have x18 : ∀ {a : Addr} {vs : List V}, H17 a = some (.lst vs) → H18 a = some (.lst vs) := fun e => e18 _ _ e (fun ps z => by cases z)
          have C18 := C17.kp k18
          have ND : ((cs.map (exC plc one oth)).map (·.1)).Nodup := by
            refine (PX.map (·.1)).nodup_iff.mpr ?_
            rw [cellsG_keys]
            exact SX.nd
          refine ⟨lv, a1, bs1, _, rfl, rfl, LK, SqL.of (x18 e17), cells_keys C18, ND, fun o2 p2 ho2 np2 => ?_⟩
          refine alloc np2 fun H19 s19 e19 => ?_
          dsimp only [gName]
          have L19 := L18.same s19
          have k1619 : Kp H16 H19 := ((Kp.same s17).trans k18).trans (Kp.same s19)
          have ht19 := k1619 _ _ ht16
          have hs19 := k1619 _ _ hs16
          have D19 := D16.kp k1619 (s19 _ _ (x18 (s17 _ _ D16.lst)))
          have hya19 := k1619 _ _ hya16
          refine ⟨_, rfl, t, _, _, _, rfl, rfl, SqT.of ht19, at0, ?_⟩
          refine ⟨_, rfl, t, _, _, _, rfl, rfl, SqT.of ht19, at1, _, rfl, _, rfl, _, rfl, .inl ⟨.ref s0', (plc : Int), (one : Int), (oth : Int), spotD (sp 0), rfl, spotD_at hs19, plain_spot _, (fine_spot _).fit, Nat.le_trans (fine_spot _).dep (by decide), fun v' H20 s20 hat20 => ?_⟩⟩
          rw [exD_spot] at hat20
          obtain ⟨s1, rfl, hs20⟩ := spot_inv hat20
          refine ⟨_, rfl, (by show 3 ≤ sizeLine; decide), fun t2 ht2 => ?_⟩
          refine alloc ht2 fun H21 s21 e21 => ?_
          have s1921 := s20.trans s21
          have L21 := L19.same s1921
          have hlt : ∀ i ∈ o2, i < (cs.map (exC plc one oth)).length := fun i hi => by
            have z := List.mem_range.mp (ho2.perm.mem_iff.mp hi)
            rwa [List.length_map] at z
          have C21 := (cells_pick C18 ((0, 0), .non) o2 hlt).kp (Kp.same (s19.trans s1921))
          refine ⟨_, _, _, _, _, _, t2, p2, _, _, _, _, rfl, L21, s1921 _ _ hya19, D19.same s1921, L18.ent.ned (L18.ent.here np2), ⟨⟨s1, e21, s21 _ _ hs20⟩, ?_, C21, (ord_perm _ ho2).trans PX, SX⟩⟩
          rw [s1921 _ _ e19, List.map_map]
          rfl
        · exact ⟨_, _, _, _, _, _, t, cl, sp, sw, bs, cs, rfl, L14, hya14, D14, ncl, S14⟩
      · rintro σ H10 ⟨z8, z9, z10, z11, z12, z13, t, cl, sp, sw, bs, cs, rfl, L10, _⟩
        exact ⟨_, _, _, _, _, _, _, _, _, _, _, _, rfl, L10⟩
    · rintro σ H2 ⟨x2, x3, x4, x5, x6, x7, x8, x9, x10, x11, x12, x13, rfl, L2⟩
      exact kq _
end
end DL
namespace DL
open PySem L2 DLR
theorem tup_lit {K : Frg} {H : Hp} {t : Addr} {dd : Option Addr} {its : Array Value} {n : Nat} {sl : Array (Option Value)} {l : List Str} (h : K.lookup t = some ⟨.type "tuple", dd, .seq its n, sl⟩) (e : Vals (l.map V.str) its.toList) (hl : l.length ≤ 1000) : SqT K H t (l.map V.str) := by
  refine .inr ⟨_, its, n, h, rfl, rfl, ?_, e⟩
  have q : its.size = l.length := by
    have z := e.length
    rw [List.length_map] at z
    exact z.symm
  rw [q]
  exact sz (by omega)
theorem kit_cls' {K : Frg} {t : Value} {C : Addr} {b : Bool} (i : PySem.W.isClsIn K C = true) (ty : PySem.W.typeIn K (.ref C) = some (.type "type")) (s : PySem.W.subIn K t (.ref C) = some b) : PySem.W.kitCls K t (.ref C) = some b := by
  unfold PySem.W.kitCls
  have h : ((PySem.W.clsIn K C).isSome && PySem.W.typeIn K (.ref C) == some (.type "type")) = true := by
    rw [ty, show (PySem.W.clsIn K C).isSome = true from i]
    rfl
  dsimp only
  rw [if_pos h]
  exact s
theorem kit_no {K : Frg} {D C : Addr} {b : Bool} (n : (D == C) = false) (i : PySem.W.isClsIn K C = true) (ty : PySem.W.typeIn K (.ref C) = some (.type "type")) (s : PySem.W.subIn K (.ref D) (.ref C) = some b) : PySem.W.kitOne K (.ref D) (.ref C) = some b := by
  unfold PySem.W.kitOne
  have ne : ¬ (Value.ref D == Value.ref C) = true := fun z => by
    have e : Value.ref D = Value.ref C := by simpa using z
    injection e with e
    exact ne_of_beq_false n e
  rw [if_neg ne]
  exact kit_cls' i ty s
theorem kit_self {K : Frg} {D : Addr} : PySem.W.kitOne K (.ref D) (.ref D) = some true := by
  unfold PySem.W.kitOne
  rw [if_pos (by simp)]
theorem kit_type {K : Frg} {D : Addr} {T : String} {b : Bool} (m : PySem.W.kitMeta T = true) (s : PySem.W.subIn K (.ref D) (.type T) = some b) : PySem.W.kitOne K (.ref D) (.type T) = some b := by
  unfold PySem.W.kitOne
  have ne : ¬ (Value.ref D == Value.type T) = true := fun z => by
    have e : Value.ref D = Value.type T := by simpa using z
    cases e
  rw [if_neg ne]
  unfold PySem.W.kitCls
  dsimp only
  rw [if_pos m]
  exact s
theorem exm_sub {K : Frg} {D C : Addr} {b : Bool} (bb : PySem.W.subIn K (.ref C) (.type "BaseException") = some true) (i : PySem.W.isClsIn K C = true) (ty : PySem.W.typeIn K (.ref C) = some (.type "type")) (s : PySem.W.subIn K (.ref D) (.ref C) = some b) : PySem.W.exmOne K (.ref D) (.ref C) = some b := by
  unfold PySem.W.exmOne
  rw [bb, if_pos (by rfl)]
  exact kit_cls' i ty s
theorem all_mk {P : Program} {w : World} {K : PySem.W.Frag} {h : Heap} {mg : Str → Option Value} {fa : Addr} (X : K.In h) (G : h.Ns mainGlobals mg) (hfa : mg "law" = some (.ref fa))
    {af0 af1 af2 af3 af4 af5 af6 af7 af8 af9 af10 af11 af12 af13 af14 af15 af16 af17 af18 af19 af20 af21 af22 af23 af24 af25 af26 af27 af28 af29 af30 af31 af32 af33 af34 af35 af36 af37 af38 C amC0 amC1 amC2 amC3 U amU0 amU1 amU2 amU3 amU4 cc tP d p_load p_add p_take p_store p_say p_test p_stop e : Addr} {odf0 anf0 odf1 anf1 odf2 anf2 odf3 anf3 odf4 anf4 odf5 anf5 odf6 anf6 odf7 anf7 odf8 anf8 odf9 anf9 odf10 anf10 odf11 anf11 odf12 anf12 odf13 anf13 odf14 anf14 odf15 anf15 odf16 anf16 odf17 anf17 odf18 anf18 odf19 anf19 odf20 anf20 odf21 anf21 odf22 anf22 odf23 anf23 odf24 anf24 odf25 anf25 odf26 anf26 odf27 anf27 odf28 anf28 odf29 anf29 odf30 anf30 odf31 anf31 odf32 anf32 odf33 anf33 odf34 anf34 odf35 anf35 odf36 anf36 odf37 anf37 odf38 anf38 odmC0 anmC0 odmC1 anmC1 odmC2 anmC2 odmC3 anmC3 odmU0 anmU0 odmU1 anmU1 odmU2 anmU2 odmU3 anmU3 odmU4 anmU4 ddc pd_load pd_add pd_take pd_store pd_say pd_test pd_stop : Option Addr} {slf0 slf1 slf2 slf3 slf4 slf5 slf6 slf7 slf8 slf9 slf10 slf11 slf12 slf13 slf14 slf15 slf16 slf17 slf18 slf19 slf20 slf21 slf22 slf23 slf24 slf25 slf26 slf27 slf28 slf29 slf30 slf31 slf32 slf33 slf34 slf35 slf36 slf37 slf38 slmC0 slmC1 slmC2 slmC3 slmU0 slmU1 slmU2 slmU3 slmU4 slc ps_load ps_add ps_take ps_store ps_say ps_test ps_stop : Array (Option Value)} {its_load its_add its_take its_store its_say its_test its_stop : Array Value} {ocf0 kVf0 dcf0 pmf0 cdf0 ctf0 ocf1 kVf1 dcf1 pmf1 cdf1 ctf1 ocf2 kVf2 dcf2 pmf2 cdf2 ctf2 ocf3 kVf3 dcf3 pmf3 cdf3 ctf3 ocf4 kVf4 dcf4 pmf4 cdf4 ctf4 ocf5 kVf5 dcf5 pmf5 cdf5 ctf5 ocf6 kVf6 dcf6 pmf6 cdf6 ctf6 ocf7 kVf7 dcf7 pmf7 cdf7 ctf7 ocf8 kVf8 dcf8 pmf8 cdf8 ctf8 ocf9 kVf9 dcf9 pmf9 cdf9 ctf9 ocf10 kVf10 dcf10 pmf10 cdf10 ctf10 ocf11 kVf11 dcf11 pmf11 cdf11 ctf11 ocf12 kVf12 dcf12 pmf12 cdf12 ctf12 ocf13 kVf13 dcf13 pmf13 cdf13 ctf13 ocf14 kVf14 dcf14 pmf14 cdf14 ctf14 ocf15 kVf15 dcf15 pmf15 cdf15 ctf15 ocf16 kVf16 dcf16 pmf16 cdf16 ctf16 ocf17 kVf17 dcf17 pmf17 cdf17 ctf17 ocf18 kVf18 dcf18 pmf18 cdf18 ctf18 ocf19 kVf19 dcf19 pmf19 cdf19 ctf19 ocf20 kVf20 dcf20 pmf20 cdf20 ctf20 ocf21 kVf21 dcf21 pmf21 cdf21 ctf21 ocf22 kVf22 dcf22 pmf22 cdf22 ctf22 ocf23 kVf23 dcf23 pmf23 cdf23 ctf23 ocf24 kVf24 dcf24 pmf24 cdf24 ctf24 ocf25 kVf25 dcf25 pmf25 cdf25 ctf25 ocf26 kVf26 dcf26 pmf26 cdf26 ctf26 ocf27 kVf27 dcf27 pmf27 cdf27 ctf27 ocf28 kVf28 dcf28 pmf28 cdf28 ctf28 ocf29 kVf29 dcf29 pmf29 cdf29 ctf29 ocf30 kVf30 dcf30 pmf30 cdf30 ctf30 ocf31 kVf31 dcf31 pmf31 cdf31 ctf31 ocf32 kVf32 dcf32 pmf32 cdf32 ctf32 ocf33 kVf33 dcf33 pmf33 cdf33 ctf33 ocf34 kVf34 dcf34 pmf34 cdf34 ctf34 ocf35 kVf35 dcf35 pmf35 cdf35 ctf35 ocf36 kVf36 dcf36 pmf36 cdf36 ctf36 ocf37 kVf37 dcf37 pmf37 cdf37 ctf37 ocf38 kVf38 dcf38 pmf38 ctf38 ocmC0 kVmC0 dcmC0 pmmC0 cdmC0 ctmC0 ocmC1 kVmC1 dcmC1 pmmC1 cdmC1 ctmC1 ocmC2 kVmC2 dcmC2 pmmC2 cdmC2 ctmC2 ocmC3 kVmC3 dcmC3 pmmC3 cdmC3 ctmC3 ocmU0 kVmU0 dcmU0 pmmU0 cdmU0 ctmU0 ocmU1 kVmU1 dcmU1 pmmU1 cdmU1 ctmU1 ocmU2 kVmU2 dcmU2 pmmU2 cdmU2 ctmU2 ocmU3 kVmU3 dcmU3 pmmU3 cdmU3 ctmU3 ocmU4 kVmU4 dcmU4 pmmU4 cdmU4 ctmU4 : Value} {es es2 : Array DictEntry} {n pn_load pn_add pn_take pn_store pn_say pn_test pn_stop n2 : Nat} {tW tR tN tF tL tC t2 t24 t3 tx_load tx_add tx_take tx_store tx_say tx_test tx_stop : Tok} {vsc : Array Value} {file18 : Str} {tf18 tg7 tt10 : Tok} {fl7 tx10 : Int} {in9 : Bool}
    (nf0 : PySem.W.nsIn K mainGlobals "_law_next" = some (some (.ref af0)))
    (lf0 : K.lookup af0 = some ⟨ocf0, odf0, .func (PySem.W.fnOf "_law_next" "_law_next" (defArgs sNext) (defBody sNext) (defScope sNext) .none kVf0 dcf0 pmf0 anf0 cdf0 ctf0), slf0⟩)
    (cf0 : PySem.W.codeIn K cdf0 "_law_next" = true)
    (kf0 : PySem.W.keepIn K (.ref af0) = true)
    (nf1 : PySem.W.nsIn K mainGlobals "_law_straight" = some (some (.ref af1)))
    (lf1 : K.lookup af1 = some ⟨ocf1, odf1, .func (PySem.W.fnOf "_law_straight" "_law_straight" (defArgs sStraight) (defBody sStraight) (defScope sStraight) .none kVf1 dcf1 pmf1 anf1 cdf1 ctf1), slf1⟩)
    (cf1 : PySem.W.codeIn K cdf1 "_law_straight" = true)
    (kf1 : PySem.W.keepIn K (.ref af1) = true)
    (nf2 : PySem.W.nsIn K mainGlobals "_law_fork" = some (some (.ref af2)))
    (lf2 : K.lookup af2 = some ⟨ocf2, odf2, .func (PySem.W.fnOf "_law_fork" "_law_fork" (defArgs sFork) (defBody sFork) (defScope sFork) .none kVf2 dcf2 pmf2 anf2 cdf2 ctf2), slf2⟩)
    (cf2 : PySem.W.codeIn K cdf2 "_law_fork" = true)
    (kf2 : PySem.W.keepIn K (.ref af2) = true)
    (nf3 : PySem.W.nsIn K mainGlobals "_law_body" = some (some (.ref af3)))
    (lf3 : K.lookup af3 = some ⟨ocf3, odf3, .func (PySem.W.fnOf "_law_body" "_law_body" (defArgs sBody) (defBody sBody) (defScope sBody) .none kVf3 dcf3 pmf3 anf3 cdf3 ctf3), slf3⟩)
    (cf3 : PySem.W.codeIn K cdf3 "_law_body" = true)
    (kf3 : PySem.W.keepIn K (.ref af3) = true)
    (nf4 : PySem.W.nsIn K mainGlobals "_law_mixed" = some (some (.ref af4)))
    (lf4 : K.lookup af4 = some ⟨ocf4, odf4, .func (PySem.W.fnOf "_law_mixed" "_law_mixed" (defArgs sMixed) (defBody sMixed) (defScope sMixed) .none kVf4 dcf4 pmf4 anf4 cdf4 ctf4), slf4⟩)
    (cf4 : PySem.W.codeIn K cdf4 "_law_mixed" = true)
    (kf4 : PySem.W.keepIn K (.ref af4) = true)
    (nf5 : PySem.W.nsIn K mainGlobals "_law_stopping" = some (some (.ref af5)))
    (lf5 : K.lookup af5 = some ⟨ocf5, odf5, .func (PySem.W.fnOf "_law_stopping" "_law_stopping" (defArgs sStopping) (defBody sStopping) (defScope sStopping) .none kVf5 dcf5 pmf5 anf5 cdf5 ctf5), slf5⟩)
    (cf5 : PySem.W.codeIn K cdf5 "_law_stopping" = true)
    (kf5 : PySem.W.keepIn K (.ref af5) = true)
    (nf6 : PySem.W.nsIn K mainGlobals "_law_any" = some (some (.ref af6)))
    (lf6 : K.lookup af6 = some ⟨ocf6, odf6, .func (PySem.W.fnOf "_law_any" "_law_any" (defArgs sAny) (defBody sAny) (defScope sAny) .none kVf6 dcf6 pmf6 anf6 cdf6 ctf6), slf6⟩)
    (cf6 : PySem.W.codeIn K cdf6 "_law_any" = true)
    (kf6 : PySem.W.keepIn K (.ref af6) = true)
    (nf7 : PySem.W.nsIn K mainGlobals "is_number" = some (some (.ref af7)))
    (lf7 : K.lookup af7 = some ⟨ocf7, odf7, .func (PySem.W.fnOf "is_number" "is_number" (defArgs sIsNumber) (defBody sIsNumber) (defScope sIsNumber) .none kVf7 dcf7 pmf7 anf7 cdf7 ctf7), slf7⟩)
    (cf7 : PySem.W.codeIn K cdf7 "is_number" = true)
    (kf7 : PySem.W.keepIn K (.ref af7) = true)
    (nf8 : PySem.W.nsIn K mainGlobals "is_between" = some (some (.ref af8)))
    (lf8 : K.lookup af8 = some ⟨ocf8, odf8, .func (PySem.W.fnOf "is_between" "is_between" (defArgs sIsBetween) (defBody sIsBetween) (defScope sIsBetween) .none kVf8 dcf8 pmf8 anf8 cdf8 ctf8), slf8⟩)
    (cf8 : PySem.W.codeIn K cdf8 "is_between" = true)
    (kf8 : PySem.W.keepIn K (.ref af8) = true)
    (nf9 : PySem.W.nsIn K mainGlobals "part" = some (some (.ref af9)))
    (lf9 : K.lookup af9 = some ⟨ocf9, odf9, .func (PySem.W.fnOf "part" "part" (defArgs sPart) (defBody sPart) (defScope sPart) .none kVf9 dcf9 pmf9 anf9 cdf9 ctf9), slf9⟩)
    (cf9 : PySem.W.codeIn K cdf9 "part" = true)
    (kf9 : PySem.W.keepIn K (.ref af9) = true)
    (nf10 : PySem.W.nsIn K mainGlobals "check_worths" = some (some (.ref af10)))
    (lf10 : K.lookup af10 = some ⟨ocf10, odf10, .func (PySem.W.fnOf "check_worths" "check_worths" (defArgs sCheckWorths) (defBody sCheckWorths) (defScope sCheckWorths) .none kVf10 dcf10 pmf10 anf10 cdf10 ctf10), slf10⟩)
    (cf10 : PySem.W.codeIn K cdf10 "check_worths" = true)
    (kf10 : PySem.W.keepIn K (.ref af10) = true)
    (nf11 : PySem.W.nsIn K mainGlobals "check_fuel" = some (some (.ref af11)))
    (lf11 : K.lookup af11 = some ⟨ocf11, odf11, .func (PySem.W.fnOf "check_fuel" "check_fuel" (defArgs sCheckFuel) (defBody sCheckFuel) (defScope sCheckFuel) .none kVf11 dcf11 pmf11 anf11 cdf11 ctf11), slf11⟩)
    (cf11 : PySem.W.codeIn K cdf11 "check_fuel" = true)
    (kf11 : PySem.W.keepIn K (.ref af11) = true)
    (nf12 : PySem.W.nsIn K mainGlobals "on_desk" = some (some (.ref af12)))
    (lf12 : K.lookup af12 = some ⟨ocf12, odf12, .func (PySem.W.fnOf "on_desk" "on_desk" (defArgs sOnDesk) (defBody sOnDesk) (defScope sOnDesk) .none kVf12 dcf12 pmf12 anf12 cdf12 ctf12), slf12⟩)
    (cf12 : PySem.W.codeIn K cdf12 "on_desk" = true)
    (kf12 : PySem.W.keepIn K (.ref af12) = true)
    (nf13 : PySem.W.nsIn K mainGlobals "has_shape" = some (some (.ref af13)))
    (lf13 : K.lookup af13 = some ⟨ocf13, odf13, .func (PySem.W.fnOf "has_shape" "has_shape" (defArgs sHasShape) (defBody sHasShape) (defScope sHasShape) .none kVf13 dcf13 pmf13 anf13 cdf13 ctf13), slf13⟩)
    (cf13 : PySem.W.codeIn K cdf13 "has_shape" = true)
    (kf13 : PySem.W.keepIn K (.ref af13) = true)
    (nf14 : PySem.W.nsIn K mainGlobals "check_row" = some (some (.ref af14)))
    (lf14 : K.lookup af14 = some ⟨ocf14, odf14, .func (PySem.W.fnOf "check_row" "check_row" (defArgs sCheckRow) (defBody sCheckRow) (defScope sCheckRow) .none kVf14 dcf14 pmf14 anf14 cdf14 ctf14), slf14⟩)
    (cf14 : PySem.W.codeIn K cdf14 "check_row" = true)
    (kf14 : PySem.W.keepIn K (.ref af14) = true)
    (nf15 : PySem.W.nsIn K mainGlobals "check_program" = some (some (.ref af15)))
    (lf15 : K.lookup af15 = some ⟨ocf15, odf15, .func (PySem.W.fnOf "check_program" "check_program" (defArgs sCheckProgram) (defBody sCheckProgram) (defScope sCheckProgram) .none kVf15 dcf15 pmf15 anf15 cdf15 ctf15), slf15⟩)
    (cf15 : PySem.W.codeIn K cdf15 "check_program" = true)
    (kf15 : PySem.W.keepIn K (.ref af15) = true)
    (nf16 : PySem.W.nsIn K mainGlobals "uses_worth" = some (some (.ref af16)))
    (lf16 : K.lookup af16 = some ⟨ocf16, odf16, .func (PySem.W.fnOf "uses_worth" "uses_worth" (defArgs sUsesWorth) (defBody sUsesWorth) (defScope sUsesWorth) .none kVf16 dcf16 pmf16 anf16 cdf16 ctf16), slf16⟩)
    (cf16 : PySem.W.codeIn K cdf16 "uses_worth" = true)
    (kf16 : PySem.W.keepIn K (.ref af16) = true)
    (nf17 : PySem.W.nsIn K mainGlobals "_law_laying" = some (some (.ref af17)))
    (lf17 : K.lookup af17 = some ⟨ocf17, odf17, .func (PySem.W.fnOf "_law_laying" "_law_laying" (defArgs sLaying) (defBody sLaying) (defScope sLaying) .none kVf17 dcf17 pmf17 anf17 cdf17 ctf17), slf17⟩)
    (cf17 : PySem.W.codeIn K cdf17 "_law_laying" = true)
    (kf17 : PySem.W.keepIn K (.ref af17) = true)
    (nf18 : PySem.W.nsIn K mainGlobals "check_wide" = some (some (.ref af18)))
    (lf18 : K.lookup af18 = some ⟨ocf18, odf18, .func (PySem.W.fnOf "check_wide" "check_wide" (defArgs sCheckWide) (defBody sCheckWide) (defScope sCheckWide) .none kVf18 dcf18 pmf18 anf18 cdf18 ctf18), slf18⟩)
    (cf18 : PySem.W.codeIn K cdf18 "check_wide" = true)
    (kf18 : PySem.W.keepIn K (.ref af18) = true)
    (nf19 : PySem.W.nsIn K mainGlobals "check_places" = some (some (.ref af19)))
    (lf19 : K.lookup af19 = some ⟨ocf19, odf19, .func (PySem.W.fnOf "check_places" "check_places" (defArgs sCheckPlaces) (defBody sCheckPlaces) (defScope sCheckPlaces) .none kVf19 dcf19 pmf19 anf19 cdf19 ctf19), slf19⟩)
    (cf19 : PySem.W.codeIn K cdf19 "check_places" = true)
    (kf19 : PySem.W.keepIn K (.ref af19) = true)
    (nf20 : PySem.W.nsIn K mainGlobals "check_homes" = some (some (.ref af20)))
    (lf20 : K.lookup af20 = some ⟨ocf20, odf20, .func (PySem.W.fnOf "check_homes" "check_homes" (defArgs sCheckHomes) (defBody sCheckHomes) (defScope sCheckHomes) .none kVf20 dcf20 pmf20 anf20 cdf20 ctf20), slf20⟩)
    (cf20 : PySem.W.codeIn K cdf20 "check_homes" = true)
    (kf20 : PySem.W.keepIn K (.ref af20) = true)
    (nf21 : PySem.W.nsIn K mainGlobals "are_homes" = some (some (.ref af21)))
    (lf21 : K.lookup af21 = some ⟨ocf21, odf21, .func (PySem.W.fnOf "are_homes" "are_homes" (defArgs sAreHomes) (defBody sAreHomes) (defScope sAreHomes) .none kVf21 dcf21 pmf21 anf21 cdf21 ctf21), slf21⟩)
    (cf21 : PySem.W.codeIn K cdf21 "are_homes" = true)
    (kf21 : PySem.W.keepIn K (.ref af21) = true)
    (nf22 : PySem.W.nsIn K mainGlobals "check_laying" = some (some (.ref af22)))
    (lf22 : K.lookup af22 = some ⟨ocf22, odf22, .func (PySem.W.fnOf "check_laying" "check_laying" (defArgs sCheckLaying) (defBody sCheckLaying) (defScope sCheckLaying) .none kVf22 dcf22 pmf22 anf22 cdf22 ctf22), slf22⟩)
    (cf22 : PySem.W.codeIn K cdf22 "check_laying" = true)
    (kf22 : PySem.W.keepIn K (.ref af22) = true)
    (nf23 : PySem.W.nsIn K mainGlobals "nexts" = some (some (.ref af23)))
    (lf23 : K.lookup af23 = some ⟨ocf23, odf23, .func (PySem.W.fnOf "nexts" "nexts" (defArgs sNexts) (defBody sNexts) (defScope sNexts) .none kVf23 dcf23 pmf23 anf23 cdf23 ctf23), slf23⟩)
    (cf23 : PySem.W.codeIn K cdf23 "nexts" = true)
    (kf23 : PySem.W.keepIn K (.ref af23) = true)
    (nf24 : PySem.W.nsIn K mainGlobals "first_beat" = some (some (.ref af24)))
    (lf24 : K.lookup af24 = some ⟨ocf24, odf24, .func (PySem.W.fnOf "first_beat" "first_beat" (defArgs sFirstBeat) (defBody sFirstBeat) (defScope sFirstBeat) .none kVf24 dcf24 pmf24 anf24 cdf24 ctf24), slf24⟩)
    (cf24 : PySem.W.codeIn K cdf24 "first_beat" = true)
    (kf24 : PySem.W.keepIn K (.ref af24) = true)
    (nf25 : PySem.W.nsIn K mainGlobals "beats_of_use" = some (some (.ref af25)))
    (lf25 : K.lookup af25 = some ⟨ocf25, odf25, .func (PySem.W.fnOf "beats_of_use" "beats_of_use" (defArgs sBeatsOfUse) (defBody sBeatsOfUse) (defScope sBeatsOfUse) .none kVf25 dcf25 pmf25 anf25 cdf25 ctf25), slf25⟩)
    (cf25 : PySem.W.codeIn K cdf25 "beats_of_use" = true)
    (kf25 : PySem.W.keepIn K (.ref af25) = true)
    (nf26 : PySem.W.nsIn K mainGlobals "beat_of_use" = some (some (.ref af26)))
    (lf26 : K.lookup af26 = some ⟨ocf26, odf26, .func (PySem.W.fnOf "beat_of_use" "beat_of_use" (defArgs sBeatOfUse) (defBody sBeatOfUse) (defScope sBeatOfUse) .none kVf26 dcf26 pmf26 anf26 cdf26 ctf26), slf26⟩)
    (cf26 : PySem.W.codeIn K cdf26 "beat_of_use" = true)
    (kf26 : PySem.W.keepIn K (.ref af26) = true)
    (nf27 : PySem.W.nsIn K mainGlobals "beat_behind" = some (some (.ref af27)))
    (lf27 : K.lookup af27 = some ⟨ocf27, odf27, .func (PySem.W.fnOf "beat_behind" "beat_behind" (defArgs sBeatBehind) (defBody sBeatBehind) (defScope sBeatBehind) .none kVf27 dcf27 pmf27 anf27 cdf27 ctf27), slf27⟩)
    (cf27 : PySem.W.codeIn K cdf27 "beat_behind" = true)
    (kf27 : PySem.W.keepIn K (.ref af27) = true)
    (nf28 : PySem.W.nsIn K mainGlobals "spun" = some (some (.ref af28)))
    (lf28 : K.lookup af28 = some ⟨ocf28, odf28, .func (PySem.W.fnOf "spun" "spun" (defArgs sSpun) (defBody sSpun) (defScope sSpun) .none kVf28 dcf28 pmf28 anf28 cdf28 ctf28), slf28⟩)
    (cf28 : PySem.W.codeIn K cdf28 "spun" = true)
    (kf28 : PySem.W.keepIn K (.ref af28) = true)
    (nf29 : PySem.W.nsIn K mainGlobals "take_spots" = some (some (.ref af29)))
    (lf29 : K.lookup af29 = some ⟨ocf29, odf29, .func (PySem.W.fnOf "take_spots" "take_spots" (defArgs sTakeSpots) (defBody sTakeSpots) (defScope sTakeSpots) .none kVf29 dcf29 pmf29 anf29 cdf29 ctf29), slf29⟩)
    (cf29 : PySem.W.codeIn K cdf29 "take_spots" = true)
    (kf29 : PySem.W.keepIn K (.ref af29) = true)
    (nf30 : PySem.W.nsIn K mainGlobals "spots_of" = some (some (.ref af30)))
    (lf30 : K.lookup af30 = some ⟨ocf30, odf30, .func (PySem.W.fnOf "spots_of" "spots_of" (defArgs sSpotsOf) (defBody sSpotsOf) (defScope sSpotsOf) .none kVf30 dcf30 pmf30 anf30 cdf30 ctf30), slf30⟩)
    (cf30 : PySem.W.codeIn K cdf30 "spots_of" = true)
    (kf30 : PySem.W.keepIn K (.ref af30) = true)
    (nf31 : PySem.W.nsIn K mainGlobals "row_cell" = some (some (.ref af31)))
    (lf31 : K.lookup af31 = some ⟨ocf31, odf31, .func (PySem.W.fnOf "row_cell" "row_cell" (defArgs sRowCell) (defBody sRowCell) (defScope sRowCell) .none kVf31 dcf31 pmf31 anf31 cdf31 ctf31), slf31⟩)
    (cf31 : PySem.W.codeIn K cdf31 "row_cell" = true)
    (kf31 : PySem.W.keepIn K (.ref af31) = true)
    (nf32 : PySem.W.nsIn K mainGlobals "image" = some (some (.ref af32)))
    (lf32 : K.lookup af32 = some ⟨ocf32, odf32, .func (PySem.W.fnOf "image" "image" (defArgs sImage) (defBody sImage) (defScope sImage) .none kVf32 dcf32 pmf32 anf32 cdf32 ctf32), slf32⟩)
    (cf32 : PySem.W.codeIn K cdf32 "image" = true)
    (kf32 : PySem.W.keepIn K (.ref af32) = true)
    (nf33 : PySem.W.nsIn K mainGlobals "step_on_drum" = some (some (.ref af33)))
    (lf33 : K.lookup af33 = some ⟨ocf33, odf33, .func (PySem.W.fnOf "step_on_drum" "step_on_drum" (defArgs sStepD) (defBody sStepD) (defScope sStepD) .none kVf33 dcf33 pmf33 anf33 cdf33 ctf33), slf33⟩)
    (cf33 : PySem.W.codeIn K cdf33 "step_on_drum" = true)
    (kf33 : PySem.W.keepIn K (.ref af33) = true)
    (nf34 : PySem.W.nsIn K mainGlobals "reeled" = some (some (.ref af34)))
    (lf34 : K.lookup af34 = some ⟨ocf34, odf34, .func (PySem.W.fnOf "reeled" "reeled" (defArgs sReeled) (defBody sReeled) (defScope sReeled) .none kVf34 dcf34 pmf34 anf34 cdf34 ctf34), slf34⟩)
    (cf34 : PySem.W.codeIn K cdf34 "reeled" = true)
    (kf34 : PySem.W.keepIn K (.ref af34) = true)
    (nf35 : PySem.W.nsIn K mainGlobals "_law_exchanged" = some (some (.ref af35)))
    (lf35 : K.lookup af35 = some ⟨ocf35, odf35, .func (PySem.W.fnOf "_law_exchanged" "_law_exchanged" (defArgs sEx) (defBody sEx) (defScope sEx) .none kVf35 dcf35 pmf35 anf35 cdf35 ctf35), slf35⟩)
    (cf35 : PySem.W.codeIn K cdf35 "_law_exchanged" = true)
    (kf35 : PySem.W.keepIn K (.ref af35) = true)
    (nf36 : PySem.W.nsIn K mainGlobals "_law_dice" = some (some (.ref af36)))
    (lf36 : K.lookup af36 = some ⟨ocf36, odf36, .func (PySem.W.fnOf "_law_dice" "_law_dice" (defArgs sDice) (defBody sDice) (defScope sDice) .none kVf36 dcf36 pmf36 anf36 cdf36 ctf36), slf36⟩)
    (cf36 : PySem.W.codeIn K cdf36 "_law_dice" = true)
    (kf36 : PySem.W.keepIn K (.ref af36) = true)
    (nf37 : PySem.W.nsIn K mainGlobals "_law_like" = some (some (.ref af37)))
    (lf37 : K.lookup af37 = some ⟨ocf37, odf37, .func (PySem.W.fnOf "_law_like" "_law_like" (defArgs sLike) (defBody sLike) (defScope sLike) .none kVf37 dcf37 pmf37 anf37 cdf37 ctf37), slf37⟩)
    (cf37 : PySem.W.codeIn K cdf37 "_law_like" = true)
    (kf37 : PySem.W.keepIn K (.ref af37) = true)
    (nf38 : PySem.W.nsIn K mainGlobals "law" = some (some (.ref af38)))
    (lf38 : K.lookup af38 = some ⟨ocf38, odf38, .func (PySem.W.fnOf "law" "law" (defArgs sLaw) (defBody sLaw) (defScope sLaw) .none kVf38 dcf38 pmf38 anf38 (.ref cc) ctf38), slf38⟩)
    (cf38 : PySem.W.codeIn K (.ref cc) "law" = true)
    (kf38 : PySem.W.keepIn K (.ref af38) = true)
    (nCC : PySem.W.nsIn K mainGlobals "Desk" = some (some (.ref C)))
    (nmC0 : PySem.W.findIn K (.ref C) "__init__" = some (some (.ref amC0)))
    (imC0 : PySem.W.isFn K (.ref amC0) = true)
    (lmC0 : K.lookup amC0 = some ⟨ocmC0, odmC0, .func (PySem.W.fnOf "__init__" "Desk.__init__" (defArgs sDInit) (defBody sDInit) (defScope sDInit) .none kVmC0 dcmC0 pmmC0 anmC0 cdmC0 ctmC0), slmC0⟩)
    (cmC0 : PySem.W.codeIn K cdmC0 "Desk.__init__" = true)
    (kmC0 : PySem.W.keepIn K (.ref amC0) = true)
    (nmC1 : PySem.W.findIn K (.ref C) "step" = some (some (.ref amC1)))
    (imC1 : PySem.W.isFn K (.ref amC1) = true)
    (lmC1 : K.lookup amC1 = some ⟨ocmC1, odmC1, .func (PySem.W.fnOf "step" "Desk.step" (defArgs sDStep) (defBody sDStep) (defScope sDStep) .none kVmC1 dcmC1 pmmC1 anmC1 cdmC1 ctmC1), slmC1⟩)
    (cmC1 : PySem.W.codeIn K cdmC1 "Desk.step" = true)
    (kmC1 : PySem.W.keepIn K (.ref amC1) = true)
    (nmC2 : PySem.W.findIn K (.ref C) "use" = some (some (.ref amC2)))
    (imC2 : PySem.W.isFn K (.ref amC2) = true)
    (lmC2 : K.lookup amC2 = some ⟨ocmC2, odmC2, .func (PySem.W.fnOf "use" "Desk.use" (defArgs sDUse) (defBody sDUse) (defScope sDUse) .none kVmC2 dcmC2 pmmC2 anmC2 cdmC2 ctmC2), slmC2⟩)
    (cmC2 : PySem.W.codeIn K cdmC2 "Desk.use" = true)
    (kmC2 : PySem.W.keepIn K (.ref amC2) = true)
    (nmC3 : PySem.W.findIn K (.ref C) "onward" = some (some (.ref amC3)))
    (imC3 : PySem.W.isFn K (.ref amC3) = true)
    (lmC3 : K.lookup amC3 = some ⟨ocmC3, odmC3, .func (PySem.W.fnOf "onward" "Desk.onward" (defArgs sDOnward) (defBody sDOnward) (defScope sDOnward) .none kVmC3 dcmC3 pmmC3 anmC3 cdmC3 ctmC3), slmC3⟩)
    (cmC3 : PySem.W.codeIn K cdmC3 "Desk.onward" = true)
    (kmC3 : PySem.W.keepIn K (.ref amC3) = true)
    (pgC : PySem.W.plainGet K C Str.empty = true)
    (hdC : PySem.W.hasDictIn K C = true)
    (poC : PySem.W.plainOver K C = true)
    (saC : PySem.W.findIn K (.ref C) "__setattr__" = some (some (.builtin "object.__setattr__")))
    (mkC : PySem.W.makesIn K C = true)
    (kcC : PySem.W.keepIn K (.ref C) = true)
    (zC_number : PySem.W.findIn K (.ref C) "number" = some none)
    (zC_worths : PySem.W.findIn K (.ref C) "worths" = some none)
    (zC_said : PySem.W.findIn K (.ref C) "said" = some none)
    (nCU : PySem.W.nsIn K mainGlobals "Drum" = some (some (.ref U)))
    (nmU0 : PySem.W.findIn K (.ref U) "__init__" = some (some (.ref amU0)))
    (imU0 : PySem.W.isFn K (.ref amU0) = true)
    (lmU0 : K.lookup amU0 = some ⟨ocmU0, odmU0, .func (PySem.W.fnOf "__init__" "Drum.__init__" (defArgs sUInit) (defBody sUInit) (defScope sUInit) .none kVmU0 dcmU0 pmmU0 anmU0 cdmU0 ctmU0), slmU0⟩)
    (cmU0 : PySem.W.codeIn K cdmU0 "Drum.__init__" = true)
    (kmU0 : PySem.W.keepIn K (.ref amU0) = true)
    (nmU1 : PySem.W.findIn K (.ref U) "turn" = some (some (.ref amU1)))
    (imU1 : PySem.W.isFn K (.ref amU1) = true)
    (lmU1 : K.lookup amU1 = some ⟨ocmU1, odmU1, .func (PySem.W.fnOf "turn" "Drum.turn" (defArgs sUTurn) (defBody sUTurn) (defScope sUTurn) .none kVmU1 dcmU1 pmmU1 anmU1 cdmU1 ctmU1), slmU1⟩)
    (cmU1 : PySem.W.codeIn K cdmU1 "Drum.turn" = true)
    (kmU1 : PySem.W.keepIn K (.ref amU1) = true)
    (nmU2 : PySem.W.findIn K (.ref U) "beat" = some (some (.ref amU2)))
    (imU2 : PySem.W.isFn K (.ref amU2) = true)
    (lmU2 : K.lookup amU2 = some ⟨ocmU2, odmU2, .func (PySem.W.fnOf "beat" "Drum.beat" (defArgs sUBeat) (defBody sUBeat) (defScope sUBeat) .none kVmU2 dcmU2 pmmU2 anmU2 cdmU2 ctmU2), slmU2⟩)
    (cmU2 : PySem.W.codeIn K cdmU2 "Drum.beat" = true)
    (kmU2 : PySem.W.keepIn K (.ref amU2) = true)
    (nmU3 : PySem.W.findIn K (.ref U) "says" = some (some (.ref amU3)))
    (imU3 : PySem.W.isFn K (.ref amU3) = true)
    (lmU3 : K.lookup amU3 = some ⟨ocmU3, odmU3, .func (PySem.W.fnOf "says" "Drum.says" (defArgs sUSays) (defBody sUSays) (defScope sUSays) .none kVmU3 dcmU3 pmmU3 anmU3 cdmU3 ctmU3), slmU3⟩)
    (cmU3 : PySem.W.codeIn K cdmU3 "Drum.says" = true)
    (kmU3 : PySem.W.keepIn K (.ref amU3) = true)
    (nmU4 : PySem.W.findIn K (.ref U) "is_over" = some (some (.ref amU4)))
    (imU4 : PySem.W.isFn K (.ref amU4) = true)
    (lmU4 : K.lookup amU4 = some ⟨ocmU4, odmU4, .func (PySem.W.fnOf "is_over" "Drum.is_over" (defArgs sUOver) (defBody sUOver) (defScope sUOver) .none kVmU4 dcmU4 pmmU4 anmU4 cdmU4 ctmU4), slmU4⟩)
    (cmU4 : PySem.W.codeIn K cdmU4 "Drum.is_over" = true)
    (kmU4 : PySem.W.keepIn K (.ref amU4) = true)
    (pgU : PySem.W.plainGet K U Str.empty = true)
    (hdU : PySem.W.hasDictIn K U = true)
    (poU : PySem.W.plainOver K U = true)
    (saU : PySem.W.findIn K (.ref U) "__setattr__" = some (some (.builtin "object.__setattr__")))
    (mkU : PySem.W.makesIn K U = true)
    (kcU : PySem.W.keepIn K (.ref U) = true)
    (zU_rows : PySem.W.findIn K (.ref U) "rows" = some none)
    (zU_laying : PySem.W.findIn K (.ref U) "laying" = some none)
    (zU_desk : PySem.W.findIn K (.ref U) "desk" = some none)
    (zU_row : PySem.W.findIn K (.ref U) "row" = some none)
    (zU_now : PySem.W.findIn K (.ref U) "now" = some none)
    (cK : K.lookup cc = some ⟨.type "code", ddc, .fields vsc, slc⟩)
    (c11 : vsc[11]? = some (.ref tP))
    (g11 : vsc.getD 11 .none = .ref tP)
    (g18 : vsc.getD 18 .none = .str file18 tf18)
    (g7 : vsc.getD 7 .none = .int fl7 tg7)
    (g9 : vsc.getD 9 .none = .bool in9)
    (g10 : vsc.getD 10 .none = .int tx10 tt10)
    (cP : (cc == tP) = false)
    (nP : K.lookup tP = none)
    (b_len : PySem.W.nsIn K mainGlobals "len" = some none)
    (b_int : PySem.W.nsIn K mainGlobals "int" = some none)
    (b_range : PySem.W.nsIn K mainGlobals "range" = some none)
    (b_isinstance : PySem.W.nsIn K mainGlobals "isinstance" = some none)
    (b_tuple : PySem.W.nsIn K mainGlobals "tuple" = some none)
    (b_list : PySem.W.nsIn K mainGlobals "list" = some none)
    (b_sorted : PySem.W.nsIn K mainGlobals "sorted" = some none)
    (b_sum : PySem.W.nsIn K mainGlobals "sum" = some none)
    (b_max : PySem.W.nsIn K mainGlobals "max" = some none)
    (b_enumerate : PySem.W.nsIn K mainGlobals "enumerate" = some none)
    (b_zip : PySem.W.nsIn K mainGlobals "zip" = some none)
    (b_all : PySem.W.nsIn K mainGlobals "all" = some none)
    (b_bool : PySem.W.nsIn K mainGlobals "bool" = some none)
    (b_str : PySem.W.nsIn K mainGlobals "str" = some none)
    (b_set : PySem.W.nsIn K mainGlobals "set" = some none)
    (qW : PySem.W.nsIn K mainGlobals "MOST_WORTHS" = some (some (.int 8 tW)))
    (qR : PySem.W.nsIn K mainGlobals "MOST_ROWS" = some (some (.int 40 tR)))
    (qN : PySem.W.nsIn K mainGlobals "MOST_NUMBER" = some (some (.int 1000000 tN)))
    (qF : PySem.W.nsIn K mainGlobals "MOST_FUEL" = some (some (.int 5000 tF)))
    (qL : PySem.W.nsIn K mainGlobals "DESK_LOW" = some (some (.int (-1000000000) tL)))
    (qC : PySem.W.nsIn K mainGlobals "DESK_COUNT" = some (some (.int 2000000000 tC)))
    (q2 : PySem.W.nsIn K mainGlobals "LEAST_WIDE" = some (some (.int 2 t2)))
    (q24 : PySem.W.nsIn K mainGlobals "MOST_WIDE" = some (some (.int 24 t24)))
    (q3 : PySem.W.nsIn K mainGlobals "MOST_HOMES" = some (some (.int 3 t3)))
    (pD : PySem.W.nsIn K mainGlobals "PARTS" = some (some (.ref d)))
    (pL : K.lookup d = some ⟨.type "dict", none, .dict es n, #[]⟩)
    (pK : PySem.W.KeysLit w.params es.toList)
    (w_load : PySem.W.nsIn K d "load" = some (some (.ref p_load)))
    (u_load : K.lookup p_load = some ⟨.type "tuple", pd_load, .seq its_load pn_load, ps_load⟩)
    (v_load : Vals ((["worth", "next"] : List Str).map V.str) its_load.toList)
    (w_add : PySem.W.nsIn K d "add" = some (some (.ref p_add)))
    (u_add : K.lookup p_add = some ⟨.type "tuple", pd_add, .seq its_add pn_add, ps_add⟩)
    (v_add : Vals ((["worth", "next"] : List Str).map V.str) its_add.toList)
    (w_take : PySem.W.nsIn K d "take" = some (some (.ref p_take)))
    (u_take : K.lookup p_take = some ⟨.type "tuple", pd_take, .seq its_take pn_take, ps_take⟩)
    (v_take : Vals ((["worth", "next"] : List Str).map V.str) its_take.toList)
    (w_store : PySem.W.nsIn K d "store" = some (some (.ref p_store)))
    (u_store : K.lookup p_store = some ⟨.type "tuple", pd_store, .seq its_store pn_store, ps_store⟩)
    (v_store : Vals ((["worth", "next"] : List Str).map V.str) its_store.toList)
    (w_say : PySem.W.nsIn K d "say" = some (some (.ref p_say)))
    (u_say : K.lookup p_say = some ⟨.type "tuple", pd_say, .seq its_say pn_say, ps_say⟩)
    (v_say : Vals ((["next"] : List Str).map V.str) its_say.toList)
    (w_test : PySem.W.nsIn K d "test" = some (some (.ref p_test)))
    (u_test : K.lookup p_test = some ⟨.type "tuple", pd_test, .seq its_test pn_test, ps_test⟩)
    (v_test : Vals ((["next", "next"] : List Str).map V.str) its_test.toList)
    (w_stop : PySem.W.nsIn K d "stop" = some (some (.ref p_stop)))
    (u_stop : K.lookup p_stop = some ⟨.type "tuple", pd_stop, .seq its_stop pn_stop, ps_stop⟩)
    (v_stop : Vals (([] : List Str).map V.str) its_stop.toList)
    (lo : (d == sysModules) = false)
    (pW : PySem.W.nsIn K mainGlobals "WORK" = some (some (.ref e)))
    (pWL : K.lookup e = some ⟨.type "dict", none, .dict es2 n2, #[]⟩)
    (pWK : PySem.W.KeysLit w.params es2.toList)
    (x_load : PySem.W.nsIn K e "load" = some (some (.int 1 tx_load)))
    (x_add : PySem.W.nsIn K e "add" = some (some (.int 2 tx_add)))
    (x_take : PySem.W.nsIn K e "take" = some (some (.int 2 tx_take)))
    (x_store : PySem.W.nsIn K e "store" = some (some (.int 1 tx_store)))
    (x_say : PySem.W.nsIn K e "say" = some (some (.int 3 tx_say)))
    (x_test : PySem.W.nsIn K e "test" = some (some (.int 1 tx_test)))
    (x_stop : PySem.W.nsIn K e "stop" = some (some (.int 0 tx_stop)))
    (lo2 : (e == sysModules) = false)
    (own : LamX.OwnTab K fa h) :
    ∃ (fd : FuncData) (cs : List (Addr × Addr)) (sp : Sp), (∀ p ∈ cs, h.get? p.2 = some { cls := .none, data := .fields #[] }) ∧ (∀ p ∈ cs, K.lookup p.2 = none) ∧ (∀ p ∈ cs, PySem.W.CodeHd h p.1 p.2) ∧ (∀ (s : Shared) (u : Value), BindsTo s fd ⟨[u], []⟩ [("_law_script", u)]) ∧
    (∀ (H : Hp) (a : Addr) (ns : List Int), ns.length ≤ 63 → (∀ z ∈ ns, Builtin.Int.intBits z ≤ 1048576) → (∀ p ∈ cs, H p.2 = some (.tbl #[])) → SqL K H a (ns.map V.int) → sp [.ref a] H (fun v _ => v = .bl true) fun _ _ _ => False) ∧
    ∀ base : Heap, K.In base → base.Ns mainGlobals mg → (∀ p ∈ cs, LamX.TabB base mg p.1 p.2) → FnOk P w K mg base CX0 10 fa fd ["_law_script"] sp := by
  have e := hfa.symm.trans (PySem.W.mg_of X G nf38)
  cases e
  have Ff0 := fun_mk (st := sNext) lf0 cf0 kf0
  have bf0 := Ff0.binds (ps := ["_law_dice_here", "_law_many"]) fun _ _ _ _ _ _ us hl => match us, hl with | [_, _], _ => rfl
  let cNext : Fd K mg "_law_next" sNext ["_law_dice_here", "_law_many"] := ⟨_, _, Ff0, bf0, PySem.W.mg_of X G nf0⟩
  have Ff1 := fun_mk (st := sStraight) lf1 cf1 kf1
  have bf1 := Ff1.binds (ps := ["_law_d", "_law_at"]) fun _ _ _ _ _ _ us hl => match us, hl with | [_, _], _ => rfl
  let cStraight : Fd K mg "_law_straight" sStraight ["_law_d", "_law_at"] := ⟨_, _, Ff1, bf1, PySem.W.mg_of X G nf1⟩
  have Ff2 := fun_mk (st := sFork) lf2 cf2 kf2
  have bf2 := Ff2.binds (ps := ["_law_d", "_law_at"]) fun _ _ _ _ _ _ us hl => match us, hl with | [_, _], _ => rfl
  let cFork : Fd K mg "_law_fork" sFork ["_law_d", "_law_at"] := ⟨_, _, Ff2, bf2, PySem.W.mg_of X G nf2⟩
  have Ff3 := fun_mk (st := sBody) lf3 cf3 kf3
  have bf3 := Ff3.binds (ps := ["_law_d", "_law_at", "_law_deep"]) fun _ _ _ _ _ _ us hl => match us, hl with | [_, _, _], _ => rfl
  let cBody : Fd K mg "_law_body" sBody ["_law_d", "_law_at", "_law_deep"] := ⟨_, _, Ff3, bf3, PySem.W.mg_of X G nf3⟩
  have Ff4 := fun_mk (st := sMixed) lf4 cf4 kf4
  have bf4 := Ff4.binds (ps := ["_law_d", "_law_program"]) fun _ _ _ _ _ _ us hl => match us, hl with | [_, _], _ => rfl
  let cMixed : Fd K mg "_law_mixed" sMixed ["_law_d", "_law_program"] := ⟨_, _, Ff4, bf4, PySem.W.mg_of X G nf4⟩
  have Ff5 := fun_mk (st := sStopping) lf5 cf5 kf5
  have bf5 := Ff5.binds (ps := ["_law_d", "_law_deep"]) fun _ _ _ _ _ _ us hl => match us, hl with | [_, _], _ => rfl
  let cStopping : Fd K mg "_law_stopping" sStopping ["_law_d", "_law_deep"] := ⟨_, _, Ff5, bf5, PySem.W.mg_of X G nf5⟩
  have Ff6 := fun_mk (st := sAny) lf6 cf6 kf6
  have bf6 := Ff6.binds (ps := ["_law_d"]) fun _ _ _ _ _ _ us hl => match us, hl with | [_], _ => rfl
  let cAny : Fd K mg "_law_any" sAny ["_law_d"] := ⟨_, _, Ff6, bf6, PySem.W.mg_of X G nf6⟩
  have Ff7 := fun_mk (st := sIsNumber) lf7 cf7 kf7
  have bf7 := Ff7.binds (ps := ["thing"]) fun _ _ _ _ _ _ us hl => match us, hl with | [_], _ => rfl
  let cIsNumber : Fd K mg "is_number" sIsNumber ["thing"] := ⟨_, _, Ff7, bf7, PySem.W.mg_of X G nf7⟩
  have Ff8 := fun_mk (st := sIsBetween) lf8 cf8 kf8
  have bf8 := Ff8.binds (ps := ["thing", "low", "high"]) fun _ _ _ _ _ _ us hl => match us, hl with | [_, _, _], _ => rfl
  let cIsBetween : Fd K mg "is_between" sIsBetween ["thing", "low", "high"] := ⟨_, _, Ff8, bf8, PySem.W.mg_of X G nf8⟩
  have Ff9 := fun_mk (st := sPart) lf9 cf9 kf9
  have bf9 := Ff9.binds (ps := ["whole", "at"]) fun _ _ _ _ _ _ us hl => match us, hl with | [_, _], _ => rfl
  let cPart : Fd K mg "part" sPart ["whole", "at"] := ⟨_, _, Ff9, bf9, PySem.W.mg_of X G nf9⟩
  have Ff10 := fun_mk (st := sCheckWorths) lf10 cf10 kf10
  have bf10 := Ff10.binds (ps := ["worths"]) fun _ _ _ _ _ _ us hl => match us, hl with | [_], _ => rfl
  let cCheckWorths : Fd K mg "check_worths" sCheckWorths ["worths"] := ⟨_, _, Ff10, bf10, PySem.W.mg_of X G nf10⟩
  have Ff11 := fun_mk (st := sCheckFuel) lf11 cf11 kf11
  have bf11 := Ff11.binds (ps := ["fuel"]) fun _ _ _ _ _ _ us hl => match us, hl with | [_], _ => rfl
  let cCheckFuel : Fd K mg "check_fuel" sCheckFuel ["fuel"] := ⟨_, _, Ff11, bf11, PySem.W.mg_of X G nf11⟩
  have Ff12 := fun_mk (st := sOnDesk) lf12 cf12 kf12
  have bf12 := Ff12.binds (ps := ["number"]) fun _ _ _ _ _ _ us hl => match us, hl with | [_], _ => rfl
  let cOnDesk : Fd K mg "on_desk" sOnDesk ["number"] := ⟨_, _, Ff12, bf12, PySem.W.mg_of X G nf12⟩
  have Ff13 := fun_mk (st := sHasShape) lf13 cf13 kf13
  have bf13 := Ff13.binds (ps := ["row"]) fun _ _ _ _ _ _ us hl => match us, hl with | [_], _ => rfl
  let cHasShape : Fd K mg "has_shape" sHasShape ["row"] := ⟨_, _, Ff13, bf13, PySem.W.mg_of X G nf13⟩
  have Ff14 := fun_mk (st := sCheckRow) lf14 cf14 kf14
  have bf14 := Ff14.binds (ps := ["row", "number", "counts"]) fun _ _ _ _ _ _ us hl => match us, hl with | [_, _, _], _ => rfl
  let cCheckRow : Fd K mg "check_row" sCheckRow ["row", "number", "counts"] := ⟨_, _, Ff14, bf14, PySem.W.mg_of X G nf14⟩
  have Ff15 := fun_mk (st := sCheckProgram) lf15 cf15 kf15
  have bf15 := Ff15.binds (ps := ["program"]) fun _ _ _ _ _ _ us hl => match us, hl with | [_], _ => rfl
  let cCheckProgram : Fd K mg "check_program" sCheckProgram ["program"] := ⟨_, _, Ff15, bf15, PySem.W.mg_of X G nf15⟩
  have Ff16 := fun_mk (st := sUsesWorth) lf16 cf16 kf16
  have bf16 := Ff16.binds (ps := ["row"]) fun _ _ _ _ _ _ us hl => match us, hl with | [_], _ => rfl
  let cUsesWorth : Fd K mg "uses_worth" sUsesWorth ["row"] := ⟨_, _, Ff16, bf16, PySem.W.mg_of X G nf16⟩
  have Ff17 := fun_mk (st := sLaying) lf17 cf17 kf17
  have bf17 := Ff17.binds (ps := ["_law_d", "_law_program", "_law_most"]) fun _ _ _ _ _ _ us hl => match us, hl with | [_, _, _], _ => rfl
  let cLaying : Fd K mg "_law_laying" sLaying ["_law_d", "_law_program", "_law_most"] := ⟨_, _, Ff17, bf17, PySem.W.mg_of X G nf17⟩
  have Ff18 := fun_mk (st := sCheckWide) lf18 cf18 kf18
  have bf18 := Ff18.binds (ps := ["wide"]) fun _ _ _ _ _ _ us hl => match us, hl with | [_], _ => rfl
  let cCheckWide : Fd K mg "check_wide" sCheckWide ["wide"] := ⟨_, _, Ff18, bf18, PySem.W.mg_of X G nf18⟩
  have Ff19 := fun_mk (st := sCheckPlaces) lf19 cf19 kf19
  have bf19 := Ff19.binds (ps := ["places", "count", "wide"]) fun _ _ _ _ _ _ us hl => match us, hl with | [_, _, _], _ => rfl
  let cCheckPlaces : Fd K mg "check_places" sCheckPlaces ["places", "count", "wide"] := ⟨_, _, Ff19, bf19, PySem.W.mg_of X G nf19⟩
  have Ff20 := fun_mk (st := sCheckHomes) lf20 cf20 kf20
  have bf20 := Ff20.binds (ps := ["homes", "count", "wide"]) fun _ _ _ _ _ _ us hl => match us, hl with | [_, _, _], _ => rfl
  let cCheckHomes : Fd K mg "check_homes" sCheckHomes ["homes", "count", "wide"] := ⟨_, _, Ff20, bf20, PySem.W.mg_of X G nf20⟩
  have Ff21 := fun_mk (st := sAreHomes) lf21 cf21 kf21
  have bf21 := Ff21.binds (ps := ["places", "wide"]) fun _ _ _ _ _ _ us hl => match us, hl with | [_, _], _ => rfl
  let cAreHomes : Fd K mg "are_homes" sAreHomes ["places", "wide"] := ⟨_, _, Ff21, bf21, PySem.W.mg_of X G nf21⟩
  have Ff22 := fun_mk (st := sCheckLaying) lf22 cf22 kf22
  have bf22 := Ff22.binds (ps := ["program", "laying"]) fun _ _ _ _ _ _ us hl => match us, hl with | [_, _], _ => rfl
  let cCheckLaying : Fd K mg "check_laying" sCheckLaying ["program", "laying"] := ⟨_, _, Ff22, bf22, PySem.W.mg_of X G nf22⟩
  have Ff23 := fun_mk (st := sNexts) lf23 cf23 kf23
  have bf23 := Ff23.binds (ps := ["row"]) fun _ _ _ _ _ _ us hl => match us, hl with | [_], _ => rfl
  let cNexts : Fd K mg "nexts" sNexts ["row"] := ⟨_, _, Ff23, bf23, PySem.W.mg_of X G nf23⟩
  have Ff24 := fun_mk (st := sFirstBeat) lf24 cf24 kf24
  have bf24 := Ff24.binds (ps := ["now", "place", "wide"]) fun _ _ _ _ _ _ us hl => match us, hl with | [_, _, _], _ => rfl
  let cFirstBeat : Fd K mg "first_beat" sFirstBeat ["now", "place", "wide"] := ⟨_, _, Ff24, bf24, PySem.W.mg_of X G nf24⟩
  have Ff25 := fun_mk (st := sBeatsOfUse) lf25 cf25 kf25
  have bf25 := Ff25.binds (ps := ["word", "places", "read", "wide"]) fun _ _ _ _ _ _ us hl => match us, hl with | [_, _, _, _], _ => rfl
  let cBeatsOfUse : Fd K mg "beats_of_use" sBeatsOfUse ["word", "places", "read", "wide"] := ⟨_, _, Ff25, bf25, PySem.W.mg_of X G nf25⟩
  have Ff26 := fun_mk (st := sBeatOfUse) lf26 cf26 kf26
  have bf26 := Ff26.binds (ps := ["row", "read", "laying"]) fun _ _ _ _ _ _ us hl => match us, hl with | [_, _, _], _ => rfl
  let cBeatOfUse : Fd K mg "beat_of_use" sBeatOfUse ["row", "read", "laying"] := ⟨_, _, Ff26, bf26, PySem.W.mg_of X G nf26⟩
  have Ff27 := fun_mk (st := sBeatBehind) lf27 cf27 kf27
  have bf27 := Ff27.binds (ps := ["row", "read", "laying"]) fun _ _ _ _ _ _ us hl => match us, hl with | [_, _, _], _ => rfl
  let cBeatBehind : Fd K mg "beat_behind" sBeatBehind ["row", "read", "laying"] := ⟨_, _, Ff27, bf27, PySem.W.mg_of X G nf27⟩
  have Ff28 := fun_mk (st := sSpun) lf28 cf28 kf28
  have bf28 := Ff28.binds (ps := ["program", "laying", "fuel"]) fun _ _ _ _ _ _ us hl => match us, hl with | [_, _, _], _ => rfl
  let cSpun : Fd K mg "spun" sSpun ["program", "laying", "fuel"] := ⟨_, _, Ff28, bf28, PySem.W.mg_of X G nf28⟩
  have Ff29 := fun_mk (st := sTakeSpots) lf29 cf29 kf29
  have bf29 := Ff29.binds (ps := ["places", "used"]) fun _ _ _ _ _ _ us hl => match us, hl with | [_, _], _ => rfl
  let cTakeSpots : Fd K mg "take_spots" sTakeSpots ["places", "used"] := ⟨_, _, Ff29, bf29, PySem.W.mg_of X G nf29⟩
  have Ff30 := fun_mk (st := sSpotsOf) lf30 cf30 kf30
  have bf30 := Ff30.binds (ps := ["laying"]) fun _ _ _ _ _ _ us hl => match us, hl with | [_], _ => rfl
  let cSpotsOf : Fd K mg "spots_of" sSpotsOf ["laying"] := ⟨_, _, Ff30, bf30, PySem.W.mg_of X G nf30⟩
  have Ff31 := fun_mk (st := sRowCell) lf31 cf31 kf31
  have bf31 := Ff31.binds (ps := ["row", "rows", "worths"]) fun _ _ _ _ _ _ us hl => match us, hl with | [_, _, _], _ => rfl
  let cRowCell : Fd K mg "row_cell" sRowCell ["row", "rows", "worths"] := ⟨_, _, Ff31, bf31, PySem.W.mg_of X G nf31⟩
  have Ff32 := fun_mk (st := sImage) lf32 cf32 kf32
  have bf32 := Ff32.binds (ps := ["program", "laying"]) fun _ _ _ _ _ _ us hl => match us, hl with | [_, _], _ => rfl
  let cImage : Fd K mg "image" sImage ["program", "laying"] := ⟨_, _, Ff32, bf32, PySem.W.mg_of X G nf32⟩
  have Ff33 := fun_mk (st := sStepD) lf33 cf33 kf33
  have bf33 := Ff33.binds (ps := ["desk", "row", "read", "wide"]) fun _ _ _ _ _ _ us hl => match us, hl with | [_, _, _, _], _ => rfl
  let cStepD : Fd K mg "step_on_drum" sStepD ["desk", "row", "read", "wide"] := ⟨_, _, Ff33, bf33, PySem.W.mg_of X G nf33⟩
  have Ff34 := fun_mk (st := sReeled) lf34 cf34 kf34
  have bf34 := Ff34.binds (ps := ["told", "fuel"]) fun _ _ _ _ _ _ us hl => match us, hl with | [_, _], _ => rfl
  let cReeled : Fd K mg "reeled" sReeled ["told", "fuel"] := ⟨_, _, Ff34, bf34, PySem.W.mg_of X G nf34⟩
  have Ff35 := fun_mk (st := sEx) lf35 cf35 kf35
  have bf35 := Ff35.binds (ps := ["_law_told", "_law_place", "_law_one", "_law_other"]) fun _ _ _ _ _ _ us hl => match us, hl with | [_, _, _, _], _ => rfl
  let cEx : Fd K mg "_law_exchanged" sEx ["_law_told", "_law_place", "_law_one", "_law_other"] := ⟨_, _, Ff35, bf35, PySem.W.mg_of X G nf35⟩
  have Ff36 := fun_mk (st := sDice) lf36 cf36 kf36
  have bf36 := Ff36.binds (ps := ["_law_script"]) fun _ _ _ _ _ _ us hl => match us, hl with | [_], _ => rfl
  let cDice : Fd K mg "_law_dice" sDice ["_law_script"] := ⟨_, _, Ff36, bf36, PySem.W.mg_of X G nf36⟩
  have Ff37 := fun_mk (st := sLike) lf37 cf37 kf37
  have bf37 := Ff37.binds (ps := ["_law_found", "_law_due"]) fun _ _ _ _ _ _ us hl => match us, hl with | [_, _], _ => rfl
  let cLike : Fd K mg "_law_like" sLike ["_law_found", "_law_due"] := ⟨_, _, Ff37, bf37, PySem.W.mg_of X G nf37⟩
  have Ff38 := fun_mk (st := sLaw) lf38 cf38 kf38
  have bf38 := Ff38.binds (ps := ["_law_script"]) fun _ _ _ _ _ _ us hl => match us, hl with | [_], _ => rfl
  have T : Bt mg := ⟨PySem.W.mg_none_of X G b_len, PySem.W.mg_none_of X G b_int, PySem.W.mg_none_of X G b_range, PySem.W.mg_none_of X G b_isinstance, PySem.W.mg_none_of X G b_tuple, PySem.W.mg_none_of X G b_list, PySem.W.mg_none_of X G b_sorted, PySem.W.mg_none_of X G b_sum, PySem.W.mg_none_of X G b_max, PySem.W.mg_none_of X G b_enumerate, PySem.W.mg_none_of X G b_zip, PySem.W.mg_none_of X G b_all, PySem.W.mg_none_of X G b_bool, PySem.W.mg_none_of X G b_str⟩
  have TS : Bs mg := ⟨PySem.W.mg_none_of X G b_set⟩
  let Cc : Cn mg := ⟨_, _, _, PySem.W.mg_of X G qW, PySem.W.mg_of X G qR, PySem.W.mg_of X G qN⟩
  let CF : Cf mg := ⟨_, PySem.W.mg_of X G qF⟩
  let CD : Cd mg := ⟨_, _, PySem.W.mg_of X G qL, PySem.W.mg_of X G qC⟩
  let CL : Cl mg := ⟨_, _, PySem.W.mg_of X G q2, PySem.W.mg_of X G q24⟩
  let LH : Ch mg := ⟨_, PySem.W.mg_of X G q3⟩
  have FmC0 := fun_mk (st := sDInit) lmC0 cmC0 kmC0
  have bmC0 := FmC0.binds (ps := ["self", "worths"]) fun _ _ _ _ _ _ us hl => match us, hl with | [_, _], _ => rfl
  have FmC1 := fun_mk (st := sDStep) lmC1 cmC1 kmC1
  have bmC1 := FmC1.binds (ps := ["self", "row"]) fun _ _ _ _ _ _ us hl => match us, hl with | [_, _], _ => rfl
  have FmC2 := fun_mk (st := sDUse) lmC2 cmC2 kmC2
  have bmC2 := FmC2.binds (ps := ["self", "word", "worth"]) fun _ _ _ _ _ _ us hl => match us, hl with | [_, _, _], _ => rfl
  have FmC3 := fun_mk (st := sDOnward) lmC3 cmC3 kmC3
  have bmC3 := FmC3.binds (ps := ["self", "row"]) fun _ _ _ _ _ _ us hl => match us, hl with | [_, _], _ => rfl
  have TC : Dk K mg C := ⟨⟨pgC, hdC, poC, saC⟩, zC_number, zC_worths, zC_said, PySem.W.mg_of X G nCC⟩
  let DM : DkM K mg := ⟨C, TC, _, _, FmC0, bmC0, ⟨mkC, nmC0, imC0, kcC⟩, _, _, FmC1, bmC1, ⟨nmC1, imC1, kmC1⟩, _, _, FmC2, bmC2, ⟨nmC2, imC2, kmC2⟩, _, _, FmC3, bmC3, ⟨nmC3, imC3, kmC3⟩⟩
  have FmU0 := fun_mk (st := sUInit) lmU0 cmU0 kmU0
  have bmU0 := FmU0.binds (ps := ["self", "program", "laying"]) fun _ _ _ _ _ _ us hl => match us, hl with | [_, _, _], _ => rfl
  have FmU1 := fun_mk (st := sUTurn) lmU1 cmU1 kmU1
  have bmU1 := FmU1.binds (ps := ["self"]) fun _ _ _ _ _ _ us hl => match us, hl with | [_], _ => rfl
  have FmU2 := fun_mk (st := sUBeat) lmU2 cmU2 kmU2
  have bmU2 := FmU2.binds (ps := ["self"]) fun _ _ _ _ _ _ us hl => match us, hl with | [_], _ => rfl
  have FmU3 := fun_mk (st := sUSays) lmU3 cmU3 kmU3
  have bmU3 := FmU3.binds (ps := ["self"]) fun _ _ _ _ _ _ us hl => match us, hl with | [_], _ => rfl
  have FmU4 := fun_mk (st := sUOver) lmU4 cmU4 kmU4
  have bmU4 := FmU4.binds (ps := ["self"]) fun _ _ _ _ _ _ us hl => match us, hl with | [_], _ => rfl
  have TU : Uk K mg U := ⟨⟨pgU, hdU, poU, saU⟩, zU_rows, zU_laying, zU_desk, zU_row, zU_now, PySem.W.mg_of X G nCU⟩
  let UM : UkM K mg := ⟨U, TU, _, _, FmU0, bmU0, ⟨mkU, nmU0, imU0, kcU⟩, _, _, FmU1, bmU1, ⟨nmU1, imU1, kmU1⟩, _, _, FmU2, bmU2, ⟨nmU2, imU2, kmU2⟩, _, _, FmU3, bmU3, ⟨nmU3, imU3, kmU3⟩, _, _, FmU4, bmU4, ⟨nmU4, imU4, kmU4⟩⟩
  let Z : Pt K w mg := ⟨d, es, n, PySem.W.mg_of X G pD, ⟨pL, pK, lo⟩, fun r => by
    cases r with
    | load _ _ => exact ⟨p_load, w_load, fun H => tup_lit u_load v_load (by show 2 ≤ 1000; decide)⟩
    | add _ _ => exact ⟨p_add, w_add, fun H => tup_lit u_add v_add (by show 2 ≤ 1000; decide)⟩
    | take _ _ => exact ⟨p_take, w_take, fun H => tup_lit u_take v_take (by show 2 ≤ 1000; decide)⟩
    | store _ _ => exact ⟨p_store, w_store, fun H => tup_lit u_store v_store (by show 2 ≤ 1000; decide)⟩
    | say _ => exact ⟨p_say, w_say, fun H => tup_lit u_say v_say (by show 1 ≤ 1000; decide)⟩
    | test _ _ => exact ⟨p_test, w_test, fun H => tup_lit u_test v_test (by show 2 ≤ 1000; decide)⟩
    | stop  => exact ⟨p_stop, w_stop, fun H => tup_lit u_stop v_stop (by show 0 ≤ 1000; decide)⟩⟩
  let ZW : Pw K w mg := ⟨e, es2, n2, PySem.W.mg_of X G pW, ⟨pWL, pWK, lo2⟩, fun r => by
    cases r with
    | load _ _ => exact ⟨_, x_load⟩
    | add _ _ => exact ⟨_, x_add⟩
    | take _ _ => exact ⟨_, x_take⟩
    | store _ _ => exact ⟨_, x_store⟩
    | say _ => exact ⟨_, x_say⟩
    | test _ _ => exact ⟨_, x_test⟩
    | stop  => exact ⟨_, x_stop⟩⟩
  have hA := fun base : Heap => ok_any (P := P) (w := w) (base := base) cAny cStopping cMixed cBody cFork cStraight cNext T
  have hL := fun base : Heap => ok_laying (P := P) (w := w) (base := base) cLaying cNext T TS
  have hCP := fun base : Heap => ok_checkProgram (P := P) (w := w) (base := base) cCheckProgram cCheckRow cCheckWorths cHasShape cPart cIsBetween cIsNumber T Cc Z
  have hCL := fun base : Heap => ok_checkLaying (P := P) (w := w) (base := base) cCheckLaying cCheckWide cCheckPlaces cCheckHomes cAreHomes cPart cIsBetween cIsNumber T TS CL LH
  have hCF := fun base : Heap => ok_checkFuel (P := P) (w := w) (base := base) cCheckFuel cIsBetween cIsNumber T CF
  have hSO := fun base : Heap => ok_spotsOf (P := P) (w := w) (base := base) cSpotsOf cTakeSpots T
  have hRC := fun base : Heap => ok_rowCell (P := P) (w := w) (base := base) cRowCell cNexts cUsesWorth T Z
  have hIm := fun base : Heap => ok_image (P := P) (w := w) (base := base) cImage cCheckProgram cCheckLaying cSpotsOf cRowCell T (hCP base) (hCL base) (hSO base) (hRC base)
  have hBe := fun base : Heap => ok_beatBehind (P := P) (w := w) (base := base) cBeatBehind cBeatOfUse cBeatsOfUse cFirstBeat cUsesWorth T Z ZW
  have hDS := fun base : Heap => ok_dstep (P := P) (w := w) (base := base) DM.FS DM.FU DM.mU DM.bU DM.FO DM.mO DM.bO cOnDesk cUsesWorth T CD Z DM.d
  have hUI := fun base : Heap => ok_uinit (P := P) (w := w) (base := base) UM.FI cCheckProgram cCheckLaying T UM.d DM.d DM.FI DM.bI DM.mkd (hCP base) (hCL base)
  have hUT := fun base : Heap => ok_uturn (P := P) (w := w) (base := base) UM.FT UM.d DM.d cFirstBeat cBeatBehind DM.bS DM.mS (hBe base) (hDS base)
  have hSp := fun base : Heap => ok_spun (P := P) (w := w) (base := base) cSpun cCheckFuel DM UM T (hUI base) (hCF base) (hUT base)
  have hRe := fun base : Heap => ok_reeled (P := P) (w := w) (base := base) cReeled cCheckFuel cStepD cFirstBeat cOnDesk cUsesWorth cBeatsOfUse DM T CD Z ZW (hCF base)
  refine ⟨_, [(cc, tP)], spLaw K tP, fun p hp => ?_, fun p hp => ?_, fun p hp => ?_, ?_, fun H a ns hl _ hT hS => ⟨a, ns, rfl, hS, hl, hT _ (List.mem_singleton.mpr rfl), fun _ => rfl⟩, fun base _ _ hT => ok_law lf38 cf38 (hT _ (List.mem_singleton.mpr rfl)) cDice cNext cAny cLaying cLike cSpun cImage cReeled cEx T (hA base) (hL base) (hSp base) (hIm base) (hRe base)⟩
  · rw [List.mem_singleton.mp hp]
    exact own cc tP _ _ _ _ _ _ lf38 rfl rfl cK c11
  · rw [List.mem_singleton.mp hp]
    exact nP
  · rw [List.mem_singleton.mp hp]
    exact ⟨_, vsc, _, _, _, _, _, _, _, X _ _ cK, rfl, rfl, c11, g11, g18, g7, g9, g10, ne_of_beq_false cP⟩
  · exact fun s v => .of_eq rfl
end DL
namespace HL
open PySem PySem.W PySem.Calls PyProof.Rows
def names0 : List PySem.Str := ["_wall", "DrumError", "BadProgram", "BadLaying", "BadFuel", "Over", "MOST_WORTHS", "MOST_ROWS", "MOST_NUMBER", "PARTS", "is_number", "is_between", "part", "uses_worth", "nexts", "check_program", "check_worths", "check_row", "has_shape", "LEAST_WIDE", "MOST_WIDE", "MOST_HOMES", "WORK", "check_laying", "check_wide", "check_places", "check_homes", "are_homes", "first_beat", "beats_of_use"]
def names1 : List PySem.Str := ["beat_of_use", "beat_behind", "MOST_FUEL", "DESK_LOW", "DESK_COUNT", "Desk", "on_desk", "check_fuel", "image", "spots_of", "take_spots", "row_cell", "reeled", "step_on_drum", "Drum", "spun", "_law_dice", "_law_next", "_law_like", "_law_straight", "_law_fork", "_law_body", "_law_mixed", "_law_stopping", "_law_any", "_law_laying", "_law_exchanged"]
def names : List PySem.Str := names0 ++ names1
abbrev qv : Program := view (PySem.W.OpenLaw.row PySem.Challenge.rw_drumlay_k16_whole_what_stands_there_does).prog [64]
end HL
open PySem PySem.W PySem.Calls PyProof.Rows in
local macro_rules
  | `(tactic| o_head ($f:ident $k $a $e $t)) => `(tactic| (exact False.elim (by assumption)))
set_option maxHeartbeats 0 in
open PySem PySem.W PyProof.Rows in
theorem HL.hd0 (hf : False) : PySem.Challenge.rw_drumlay_k16_whole_what_stands_there_does.Holds := by
  w_on; o_law; k_head
set_option maxHeartbeats 0 in
open PySem PySem.W PySem.Calls PyProof.Rows in
theorem HL.runF (w : World) : HandSHeadRun.RunEq (PySem.W.OpenLaw.row PySem.Challenge.rw_drumlay_k16_whole_what_stands_there_does) HL.qv (kmHook HL.hd0.heap_39 [2, 3, 15, 17, 18, 20, 21, 22, 29, 30, 31, 32, 35, 42, 44, 45, 47, 48, 49, 50, 51, 54, 61, 63, 64, 66, 67, 68, 69, 70, 73, 80, 81, 82, 85, 92, 93, 94, 97, 98, 99, 100, 101, 102, 103, 104, 105, 107, 108, 110, 111, 112, 114, 115, 117, 118, 119, 121, 122, 124, 125, 126, 128, 129, 131, 132, 133, 135, 136, 138, 139, 140, 142, 143, 145, 146, 147, 149, 150, 152, 153, 154, 156, 157, 159, 160, 161, 164, 165, 166, 167, 169, 170, 172, 173, 174, 176, 177, 179, 180, 181, 183, 184, 186, 187, 188, 190, 191, 193, 194, 195, 198, 199, 200, 202, 203, 205, 206, 207, 210, 211, 212, 214, 215, 217, 218, 219, 221, 222, 224, 225, 233, 235, 236, 238, 239, 240, 242, 243, 245, 246, 247, 249, 250, 252, 253, 254, 256, 257, 259, 260, 261, 262, 263, 264, 265, 268, 270, 271, 273, 274, 275, 277, 278, 280, 281, 282, 285, 286, 287, 289, 290, 292, 293, 294, 296, 297, 299, 300, 301, 304, 305, 306, 309, 310, 311, 314, 315, 323, 325, 326, 328, 329, 330, 332, 333, 335, 336, 337, 339, 340, 342, 343, 344, 346, 347, 349, 350, 351, 353, 354, 356, 357, 358, 360, 361, 363, 364, 365, 366, 367, 368, 369, 372, 374, 375, 377, 378, 379, 381, 382, 384, 385, 386, 388, 389, 391, 392, 393, 395, 396, 398, 399, 400, 402, 403, 405, 406, 407, 410, 411, 412, 414, 415, 417, 418, 419, 422, 423, 424, 427, 428, 429, 432, 433, 434, 437, 438, 439, 442, 443, 444, 447, 448] (fun _ => by kernel_rfl) [445]) (fun s => (List.map (HandSHeadRun.getT s) [2, 3, 15, 17, 18, 20, 21, 22, 29, 30, 31, 32, 35, 42, 44, 45, 47, 48, 49, 50, 51, 54, 61, 63, 64, 66, 67, 68, 69, 70, 73, 80, 81, 82, 85, 92, 93, 94, 97, 98, 99, 100, 101, 102, 103, 104, 105, 107, 108, 110, 111, 112, 114, 115, 117, 118, 119, 121, 122, 124, 125, 126, 128, 129, 131, 132, 133, 135, 136, 138, 139, 140, 142, 143, 145, 146, 147, 149, 150, 152, 153, 154, 156, 157, 159, 160, 161, 164, 165, 166, 167, 169, 170, 172, 173, 174, 176, 177, 179, 180, 181, 183, 184, 186, 187, 188, 190, 191, 193, 194, 195, 198, 199, 200, 202, 203, 205, 206, 207, 210, 211, 212, 214, 215, 217, 218, 219, 221, 222, 224, 225, 233, 235, 236, 238, 239, 240, 242, 243, 245, 246, 247, 249, 250, 252, 253, 254, 256, 257, 259, 260, 261, 262, 263, 264, 265, 268, 270, 271, 273, 274, 275, 277, 278, 280, 281, 282, 285, 286, 287, 289, 290, 292, 293, 294, 296, 297, 299, 300, 301, 304, 305, 306, 309, 310, 311, 314, 315, 323, 325, 326, 328, 329, 330, 332, 333, 335, 336, 337, 339, 340, 342, 343, 344, 346, 347, 349, 350, 351, 353, 354, 356, 357, 358, 360, 361, 363, 364, 365, 366, 367, 368, 369, 372, 374, 375, 377, 378, 379, 381, 382, 384, 385, 386, 388, 389, 391, 392, 393, 395, 396, 398, 399, 400, 402, 403, 405, 406, 407, 410, 411, 412, 414, 415, 417, 418, 419, 422, 423, 424, 427, 428, 429, 432, 433, 434, 437, 438, 439, 442, 443, 444, 447, 448], List.map (HandSHeadRun.getT s) [445])) 9000 HL.names (w.withFollow "special-get-raises" false) := by
  delta HandSHeadRun.RunEq
  intro os; kernel_rfl
set_option maxHeartbeats 0 in
open PySem PySem.W PySem.Calls PyProof.Rows in
theorem HL.runT (w : World) : HandSHeadRun.RunEq (PySem.W.OpenLaw.row PySem.Challenge.rw_drumlay_k16_whole_what_stands_there_does) HL.qv (kmHook HL.hd0.heap_39 [2, 3, 15, 17, 18, 20, 21, 22, 29, 30, 31, 32, 35, 42, 44, 45, 47, 48, 49, 50, 51, 54, 61, 63, 64, 66, 67, 68, 69, 70, 73, 80, 81, 82, 85, 92, 93, 94, 97, 98, 99, 100, 101, 102, 103, 104, 105, 107, 108, 110, 111, 112, 114, 115, 117, 118, 119, 121, 122, 124, 125, 126, 128, 129, 131, 132, 133, 135, 136, 138, 139, 140, 142, 143, 145, 146, 147, 149, 150, 152, 153, 154, 156, 157, 159, 160, 161, 164, 165, 166, 167, 169, 170, 172, 173, 174, 176, 177, 179, 180, 181, 183, 184, 186, 187, 188, 190, 191, 193, 194, 195, 198, 199, 200, 202, 203, 205, 206, 207, 210, 211, 212, 214, 215, 217, 218, 219, 221, 222, 224, 225, 233, 235, 236, 238, 239, 240, 242, 243, 245, 246, 247, 249, 250, 252, 253, 254, 256, 257, 259, 260, 261, 262, 263, 264, 265, 268, 270, 271, 273, 274, 275, 277, 278, 280, 281, 282, 285, 286, 287, 289, 290, 292, 293, 294, 296, 297, 299, 300, 301, 304, 305, 306, 309, 310, 311, 314, 315, 323, 325, 326, 328, 329, 330, 332, 333, 335, 336, 337, 339, 340, 342, 343, 344, 346, 347, 349, 350, 351, 353, 354, 356, 357, 358, 360, 361, 363, 364, 365, 366, 367, 368, 369, 372, 374, 375, 377, 378, 379, 381, 382, 384, 385, 386, 388, 389, 391, 392, 393, 395, 396, 398, 399, 400, 402, 403, 405, 406, 407, 410, 411, 412, 414, 415, 417, 418, 419, 422, 423, 424, 427, 428, 429, 432, 433, 434, 437, 438, 439, 442, 443, 444, 447, 448] (fun _ => by kernel_rfl) [445]) (fun s => (List.map (HandSHeadRun.getT s) [2, 3, 15, 17, 18, 20, 21, 22, 29, 30, 31, 32, 35, 42, 44, 45, 47, 48, 49, 50, 51, 54, 61, 63, 64, 66, 67, 68, 69, 70, 73, 80, 81, 82, 85, 92, 93, 94, 97, 98, 99, 100, 101, 102, 103, 104, 105, 107, 108, 110, 111, 112, 114, 115, 117, 118, 119, 121, 122, 124, 125, 126, 128, 129, 131, 132, 133, 135, 136, 138, 139, 140, 142, 143, 145, 146, 147, 149, 150, 152, 153, 154, 156, 157, 159, 160, 161, 164, 165, 166, 167, 169, 170, 172, 173, 174, 176, 177, 179, 180, 181, 183, 184, 186, 187, 188, 190, 191, 193, 194, 195, 198, 199, 200, 202, 203, 205, 206, 207, 210, 211, 212, 214, 215, 217, 218, 219, 221, 222, 224, 225, 233, 235, 236, 238, 239, 240, 242, 243, 245, 246, 247, 249, 250, 252, 253, 254, 256, 257, 259, 260, 261, 262, 263, 264, 265, 268, 270, 271, 273, 274, 275, 277, 278, 280, 281, 282, 285, 286, 287, 289, 290, 292, 293, 294, 296, 297, 299, 300, 301, 304, 305, 306, 309, 310, 311, 314, 315, 323, 325, 326, 328, 329, 330, 332, 333, 335, 336, 337, 339, 340, 342, 343, 344, 346, 347, 349, 350, 351, 353, 354, 356, 357, 358, 360, 361, 363, 364, 365, 366, 367, 368, 369, 372, 374, 375, 377, 378, 379, 381, 382, 384, 385, 386, 388, 389, 391, 392, 393, 395, 396, 398, 399, 400, 402, 403, 405, 406, 407, 410, 411, 412, 414, 415, 417, 418, 419, 422, 423, 424, 427, 428, 429, 432, 433, 434, 437, 438, 439, 442, 443, 444, 447, 448], List.map (HandSHeadRun.getT s) [445])) 9000 HL.names (w.withFollow "special-get-raises" true) := by
  delta HandSHeadRun.RunEq
  intro os; kernel_rfl
open PySem PySem.W PyProof.Rows in
set_option maxRecDepth 100000 in
set_option maxHeartbeats 0 in
theorem PySem.Challenge.cw_drumlay_k16_whole_what_stands_there_does_holds : PySem.Challenge.rw_drumlay_k16_whole_what_stands_there_does.Holds := by
  w_on; o_law
  refine HandSHeadRun.head_any (r := PySem.W.OpenLaw.row PySem.Challenge.rw_drumlay_k16_whole_what_stands_there_does) (q := HL.qv) (H := kmHook HL.hd0.heap_39 [2, 3, 15, 17, 18, 20, 21, 22, 29, 30, 31, 32, 35, 42, 44, 45, 47, 48, 49, 50, 51, 54, 61, 63, 64, 66, 67, 68, 69, 70, 73, 80, 81, 82, 85, 92, 93, 94, 97, 98, 99, 100, 101, 102, 103, 104, 105, 107, 108, 110, 111, 112, 114, 115, 117, 118, 119, 121, 122, 124, 125, 126, 128, 129, 131, 132, 133, 135, 136, 138, 139, 140, 142, 143, 145, 146, 147, 149, 150, 152, 153, 154, 156, 157, 159, 160, 161, 164, 165, 166, 167, 169, 170, 172, 173, 174, 176, 177, 179, 180, 181, 183, 184, 186, 187, 188, 190, 191, 193, 194, 195, 198, 199, 200, 202, 203, 205, 206, 207, 210, 211, 212, 214, 215, 217, 218, 219, 221, 222, 224, 225, 233, 235, 236, 238, 239, 240, 242, 243, 245, 246, 247, 249, 250, 252, 253, 254, 256, 257, 259, 260, 261, 262, 263, 264, 265, 268, 270, 271, 273, 274, 275, 277, 278, 280, 281, 282, 285, 286, 287, 289, 290, 292, 293, 294, 296, 297, 299, 300, 301, 304, 305, 306, 309, 310, 311, 314, 315, 323, 325, 326, 328, 329, 330, 332, 333, 335, 336, 337, 339, 340, 342, 343, 344, 346, 347, 349, 350, 351, 353, 354, 356, 357, 358, 360, 361, 363, 364, 365, 366, 367, 368, 369, 372, 374, 375, 377, 378, 379, 381, 382, 384, 385, 386, 388, 389, 391, 392, 393, 395, 396, 398, 399, 400, 402, 403, 405, 406, 407, 410, 411, 412, 414, 415, 417, 418, 419, 422, 423, 424, 427, 428, 429, 432, 433, 434, 437, 438, 439, 442, 443, 444, 447, 448] (fun _ => by kernel_rfl) [445]) (ob := fun s => (List.map (HandSHeadRun.getT s) [2, 3, 15, 17, 18, 20, 21, 22, 29, 30, 31, 32, 35, 42, 44, 45, 47, 48, 49, 50, 51, 54, 61, 63, 64, 66, 67, 68, 69, 70, 73, 80, 81, 82, 85, 92, 93, 94, 97, 98, 99, 100, 101, 102, 103, 104, 105, 107, 108, 110, 111, 112, 114, 115, 117, 118, 119, 121, 122, 124, 125, 126, 128, 129, 131, 132, 133, 135, 136, 138, 139, 140, 142, 143, 145, 146, 147, 149, 150, 152, 153, 154, 156, 157, 159, 160, 161, 164, 165, 166, 167, 169, 170, 172, 173, 174, 176, 177, 179, 180, 181, 183, 184, 186, 187, 188, 190, 191, 193, 194, 195, 198, 199, 200, 202, 203, 205, 206, 207, 210, 211, 212, 214, 215, 217, 218, 219, 221, 222, 224, 225, 233, 235, 236, 238, 239, 240, 242, 243, 245, 246, 247, 249, 250, 252, 253, 254, 256, 257, 259, 260, 261, 262, 263, 264, 265, 268, 270, 271, 273, 274, 275, 277, 278, 280, 281, 282, 285, 286, 287, 289, 290, 292, 293, 294, 296, 297, 299, 300, 301, 304, 305, 306, 309, 310, 311, 314, 315, 323, 325, 326, 328, 329, 330, 332, 333, 335, 336, 337, 339, 340, 342, 343, 344, 346, 347, 349, 350, 351, 353, 354, 356, 357, 358, 360, 361, 363, 364, 365, 366, 367, 368, 369, 372, 374, 375, 377, 378, 379, 381, 382, 384, 385, 386, 388, 389, 391, 392, 393, 395, 396, 398, 399, 400, 402, 403, 405, 406, 407, 410, 411, 412, 414, 415, 417, 418, 419, 422, 423, 424, 427, 428, 429, 432, 433, 434, 437, 438, 439, 442, 443, 444, 447, 448], List.map (HandSHeadRun.getT s) [445])) (M := 9000) (loose := HL.names) (d := HandSHeadRun.topDef (PySem.W.OpenLaw.row PySem.Challenge.rw_drumlay_k16_whole_what_stands_there_does).prog 64) (kwd := []) ?hob ?hop ?hfe (fun w => byRow2 "special-get-raises" HL.runF HL.runT w) ?hdef ?hpd ?hkk ?hwr ?hk1 ?hok ?hba ?hw ?hc
  case hob => exact fun s => Prod.ext (List.map_congr_left fun a _ => HandSHeadRun.getT_eq s a) (List.map_congr_left fun a _ => HandSHeadRun.getT_eq s a)
  case hop => kernel_rfl
  case hfe => exact fun s => by kernel_rfl
  case hdef => kernel_rfl
  case hpd => kernel_rfl
  case hkk => kernel_rfl
  case hwr => rfl
  case hk1 => first | assumption | decide +kernel
  case hok => decide +kernel
  case hba => exact ⟨rfl, rfl, rfl, rfl, rfl, by decide +kernel⟩
  case hw => w_witness2
  k_fill
  refine LamX.walk_ofOwn (l := PySem.Challenge.rw_drumlay_k16_whole_what_stands_there_does) (n := 63) (k := 10) (x := "_law_script") (CX := fun _ => L2.CX0) rfl (by decide) (by kernel_rfl) ⟨rfl, by decide, by decide⟩ ?hrec (fun w h Y => PySem.W.km_in_of Y) ?F fun _ _ _ _ _ z => z
  case hrec => exact (by decide +kernel)
  case F =>
    intro w mg fa h Y KX G hmg0 own
    have hmg : mg ("law" : PySem.Str) = some (.ref fa) := by
      have e : (HandSHeadRun.topDef (PySem.W.OpenLaw.row PySem.Challenge.rw_drumlay_k16_whole_what_stands_there_does).prog 64).name = ("law" : PySem.Str) := by kernel_rfl
      rw [← e]
      exact hmg0
    refine' DL.all_mk KX G hmg ?nf0 ?lf0 ?cf0 ?kf0 ?nf1 ?lf1 ?cf1 ?kf1 ?nf2 ?lf2 ?cf2 ?kf2 ?nf3 ?lf3 ?cf3 ?kf3 ?nf4 ?lf4 ?cf4 ?kf4 ?nf5 ?lf5 ?cf5 ?kf5 ?nf6 ?lf6 ?cf6 ?kf6 ?nf7 ?lf7 ?cf7 ?kf7 ?nf8 ?lf8 ?cf8 ?kf8 ?nf9 ?lf9 ?cf9 ?kf9 ?nf10 ?lf10 ?cf10 ?kf10 ?nf11 ?lf11 ?cf11 ?kf11 ?nf12 ?lf12 ?cf12 ?kf12 ?nf13 ?lf13 ?cf13 ?kf13 ?nf14 ?lf14 ?cf14 ?kf14 ?nf15 ?lf15 ?cf15 ?kf15 ?nf16 ?lf16 ?cf16 ?kf16 ?nf17 ?lf17 ?cf17 ?kf17 ?nf18 ?lf18 ?cf18 ?kf18 ?nf19 ?lf19 ?cf19 ?kf19 ?nf20 ?lf20 ?cf20 ?kf20 ?nf21 ?lf21 ?cf21 ?kf21 ?nf22 ?lf22 ?cf22 ?kf22 ?nf23 ?lf23 ?cf23 ?kf23 ?nf24 ?lf24 ?cf24 ?kf24 ?nf25 ?lf25 ?cf25 ?kf25 ?nf26 ?lf26 ?cf26 ?kf26 ?nf27 ?lf27 ?cf27 ?kf27 ?nf28 ?lf28 ?cf28 ?kf28 ?nf29 ?lf29 ?cf29 ?kf29 ?nf30 ?lf30 ?cf30 ?kf30 ?nf31 ?lf31 ?cf31 ?kf31 ?nf32 ?lf32 ?cf32 ?kf32 ?nf33 ?lf33 ?cf33 ?kf33 ?nf34 ?lf34 ?cf34 ?kf34 ?nf35 ?lf35 ?cf35 ?kf35 ?nf36 ?lf36 ?cf36 ?kf36 ?nf37 ?lf37 ?cf37 ?kf37 ?nf38 ?lf38 ?cf38 ?kf38 ?nCC ?nmC0 ?imC0 ?lmC0 ?cmC0 ?kmC0 ?nmC1 ?imC1 ?lmC1 ?cmC1 ?kmC1 ?nmC2 ?imC2 ?lmC2 ?cmC2 ?kmC2 ?nmC3 ?imC3 ?lmC3 ?cmC3 ?kmC3 ?pgC ?hdC ?poC ?saC ?mkC ?kcC ?zC_number ?zC_worths ?zC_said ?nCU ?nmU0 ?imU0 ?lmU0 ?cmU0 ?kmU0 ?nmU1 ?imU1 ?lmU1 ?cmU1 ?kmU1 ?nmU2 ?imU2 ?lmU2 ?cmU2 ?kmU2 ?nmU3 ?imU3 ?lmU3 ?cmU3 ?kmU3 ?nmU4 ?imU4 ?lmU4 ?cmU4 ?kmU4 ?pgU ?hdU ?poU ?saU ?mkU ?kcU ?zU_rows ?zU_laying ?zU_desk ?zU_row ?zU_now ?cK ?c11 ?g11 ?g18 ?g7 ?g9 ?g10 ?cP ?nP ?b_len ?b_int ?b_range ?b_isinstance ?b_tuple ?b_list ?b_sorted ?b_sum ?b_max ?b_enumerate ?b_zip ?b_all ?b_bool ?b_str ?b_set ?qW ?qR ?qN ?qF ?qL ?qC ?q2 ?q24 ?q3 ?pD ?pL ?pK ?w_load ?u_load ?v_load ?w_add ?u_add ?v_add ?w_take ?u_take ?v_take ?w_store ?u_store ?v_store ?w_say ?u_say ?v_say ?w_test ?u_test ?v_test ?w_stop ?u_stop ?v_stop ?lo ?pW ?pWL ?pWK ?x_load ?x_add ?x_take ?x_store ?x_say ?x_test ?x_stop ?lo2 own
    (case nf0 => k_is)
    (case lf0 => k_is)
    (case cf0 => k_is)
    (case kf0 => k_is)
    (case nf1 => k_is)
    (case lf1 => k_is)
    (case cf1 => k_is)
    (case kf1 => k_is)
    (case nf2 => k_is)
    (case lf2 => k_is)
    (case cf2 => k_is)
    (case kf2 => k_is)
    (case nf3 => k_is)
    (case lf3 => k_is)
    (case cf3 => k_is)
    (case kf3 => k_is)
    (case nf4 => k_is)
    (case lf4 => k_is)
    (case cf4 => k_is)
    (case kf4 => k_is)
    (case nf5 => k_is)
    (case lf5 => k_is)
    (case cf5 => k_is)
    (case kf5 => k_is)
    (case nf6 => k_is)
    (case lf6 => k_is)
    (case cf6 => k_is)
    (case kf6 => k_is)
    (case nf7 => k_is)
    (case lf7 => k_is)
    (case cf7 => k_is)
    (case kf7 => k_is)
    (case nf8 => k_is)
    (case lf8 => k_is)
    (case cf8 => k_is)
    (case kf8 => k_is)
    (case nf9 => k_is)
    (case lf9 => k_is)
    (case cf9 => k_is)
    (case kf9 => k_is)
    (case nf10 => k_is)
    (case lf10 => k_is)
    (case cf10 => k_is)
    (case kf10 => k_is)
    (case nf11 => k_is)
    (case lf11 => k_is)
    (case cf11 => k_is)
    (case kf11 => k_is)
    (case nf12 => k_is)
    (case lf12 => k_is)
    (case cf12 => k_is)
    (case kf12 => k_is)
    (case nf13 => k_is)
    (case lf13 => k_is)
    (case cf13 => k_is)
    (case kf13 => k_is)
    (case nf14 => k_is)
    (case lf14 => k_is)
    (case cf14 => k_is)
    (case kf14 => k_is)
    (case nf15 => k_is)
    (case lf15 => k_is)
    (case cf15 => k_is)
    (case kf15 => k_is)
    (case nf16 => k_is)
    (case lf16 => k_is)
    (case cf16 => k_is)
    (case kf16 => k_is)
    (case nf17 => k_is)
    (case lf17 => k_is)
    (case cf17 => k_is)
    (case kf17 => k_is)
    (case nf18 => k_is)
    (case lf18 => k_is)
    (case cf18 => k_is)
    (case kf18 => k_is)
    (case nf19 => k_is)
    (case lf19 => k_is)
    (case cf19 => k_is)
    (case kf19 => k_is)
    (case nf20 => k_is)
    (case lf20 => k_is)
    (case cf20 => k_is)
    (case kf20 => k_is)
    (case nf21 => k_is)
    (case lf21 => k_is)
    (case cf21 => k_is)
    (case kf21 => k_is)
    (case nf22 => k_is)
    (case lf22 => k_is)
    (case cf22 => k_is)
    (case kf22 => k_is)
    (case nf23 => k_is)
    (case lf23 => k_is)
    (case cf23 => k_is)
    (case kf23 => k_is)
    (case nf24 => k_is)
    (case lf24 => k_is)
    (case cf24 => k_is)
    (case kf24 => k_is)
    (case nf25 => k_is)
    (case lf25 => k_is)
    (case cf25 => k_is)
    (case kf25 => k_is)
    (case nf26 => k_is)
    (case lf26 => k_is)
    (case cf26 => k_is)
    (case kf26 => k_is)
    (case nf27 => k_is)
    (case lf27 => k_is)
    (case cf27 => k_is)
    (case kf27 => k_is)
    (case nf28 => k_is)
    (case lf28 => k_is)
    (case cf28 => k_is)
    (case kf28 => k_is)
    (case nf29 => k_is)
    (case lf29 => k_is)
    (case cf29 => k_is)
    (case kf29 => k_is)
    (case nf30 => k_is)
    (case lf30 => k_is)
    (case cf30 => k_is)
    (case kf30 => k_is)
    (case nf31 => k_is)
    (case lf31 => k_is)
    (case cf31 => k_is)
    (case kf31 => k_is)
    (case nf32 => k_is)
    (case lf32 => k_is)
    (case cf32 => k_is)
    (case kf32 => k_is)
    (case nf33 => k_is)
    (case lf33 => k_is)
    (case cf33 => k_is)
    (case kf33 => k_is)
    (case nf34 => k_is)
    (case lf34 => k_is)
    (case cf34 => k_is)
    (case kf34 => k_is)
    (case nf35 => k_is)
    (case lf35 => k_is)
    (case cf35 => k_is)
    (case kf35 => k_is)
    (case nf36 => k_is)
    (case lf36 => k_is)
    (case cf36 => k_is)
    (case kf36 => k_is)
    (case nf37 => k_is)
    (case lf37 => k_is)
    (case cf37 => k_is)
    (case kf37 => k_is)
    (case nf38 => k_is)
    (case lf38 => k_is)
    (case cf38 => k_is)
    (case kf38 => k_is)
    (case nCC => k_is)
    (case nmC0 => k_is)
    (case imC0 => k_is)
    (case lmC0 => k_is)
    (case cmC0 => k_is)
    (case kmC0 => k_is)
    (case nmC1 => k_is)
    (case imC1 => k_is)
    (case lmC1 => k_is)
    (case cmC1 => k_is)
    (case kmC1 => k_is)
    (case nmC2 => k_is)
    (case imC2 => k_is)
    (case lmC2 => k_is)
    (case cmC2 => k_is)
    (case kmC2 => k_is)
    (case nmC3 => k_is)
    (case imC3 => k_is)
    (case lmC3 => k_is)
    (case cmC3 => k_is)
    (case kmC3 => k_is)
    (case pgC => k_is)
    (case hdC => k_is)
    (case poC => k_is)
    (case saC => k_is)
    (case mkC => k_is)
    (case kcC => k_is)
    (case zC_number => k_is)
    (case zC_worths => k_is)
    (case zC_said => k_is)
    (case nCU => k_is)
    (case nmU0 => k_is)
    (case imU0 => k_is)
    (case lmU0 => k_is)
    (case cmU0 => k_is)
    (case kmU0 => k_is)
    (case nmU1 => k_is)
    (case imU1 => k_is)
    (case lmU1 => k_is)
    (case cmU1 => k_is)
    (case kmU1 => k_is)
    (case nmU2 => k_is)
    (case imU2 => k_is)
    (case lmU2 => k_is)
    (case cmU2 => k_is)
    (case kmU2 => k_is)
    (case nmU3 => k_is)
    (case imU3 => k_is)
    (case lmU3 => k_is)
    (case cmU3 => k_is)
    (case kmU3 => k_is)
    (case nmU4 => k_is)
    (case imU4 => k_is)
    (case lmU4 => k_is)
    (case cmU4 => k_is)
    (case kmU4 => k_is)
    (case pgU => k_is)
    (case hdU => k_is)
    (case poU => k_is)
    (case saU => k_is)
    (case mkU => k_is)
    (case kcU => k_is)
    (case zU_rows => k_is)
    (case zU_laying => k_is)
    (case zU_desk => k_is)
    (case zU_row => k_is)
    (case zU_now => k_is)
    (case cK => k_is)
    (case c11 => exact rfl)
    (case g11 => exact rfl)
    (case g18 => exact rfl)
    (case g7 => exact rfl)
    (case g9 => exact rfl)
    (case g10 => exact rfl)
    (case cP => decide)
    (case nP => first | k_is | rfl | decide +kernel)
    (case b_len => k_is)
    (case b_int => k_is)
    (case b_range => k_is)
    (case b_isinstance => k_is)
    (case b_tuple => k_is)
    (case b_list => k_is)
    (case b_sorted => k_is)
    (case b_sum => k_is)
    (case b_max => k_is)
    (case b_enumerate => k_is)
    (case b_zip => k_is)
    (case b_all => k_is)
    (case b_bool => k_is)
    (case b_str => k_is)
    (case b_set => k_is)
    (case qW => k_is)
    (case qR => k_is)
    (case qN => k_is)
    (case qF => k_is)
    (case qL => k_is)
    (case qC => k_is)
    (case q2 => k_is)
    (case q24 => k_is)
    (case q3 => k_is)
    (case pD => k_is)
    (case pL => k_is)
    (case pK => k_keys)
    (case w_load => k_is)
    (case u_load => k_is)
    (case v_load => exact (.cons ⟨_, rfl⟩ (.cons ⟨_, rfl⟩ .nil)))
    (case w_add => k_is)
    (case u_add => k_is)
    (case v_add => exact (.cons ⟨_, rfl⟩ (.cons ⟨_, rfl⟩ .nil)))
    (case w_take => k_is)
    (case u_take => k_is)
    (case v_take => exact (.cons ⟨_, rfl⟩ (.cons ⟨_, rfl⟩ .nil)))
    (case w_store => k_is)
    (case u_store => k_is)
    (case v_store => exact (.cons ⟨_, rfl⟩ (.cons ⟨_, rfl⟩ .nil)))
    (case w_say => k_is)
    (case u_say => k_is)
    (case v_say => exact (.cons ⟨_, rfl⟩ .nil))
    (case w_test => k_is)
    (case u_test => k_is)
    (case v_test => exact (.cons ⟨_, rfl⟩ (.cons ⟨_, rfl⟩ .nil)))
    (case w_stop => k_is)
    (case u_stop => k_is)
    (case v_stop => exact .nil)
    (case lo => decide)
    (case pW => k_is)
    (case pWL => k_is)
    (case pWK => k_keys)
    (case x_load => k_is)
    (case x_add => k_is)
    (case x_take => k_is)
    (case x_store => k_is)
    (case x_say => k_is)
    (case x_test => k_is)
    (case x_stop => k_is)
    (case lo2 => decide)
