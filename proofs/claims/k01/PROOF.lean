import PyProof.Rows.All
import Wide.All
import OpenK.AllK
import Wide.FinOn
import HandS.ForMost
import HandS.Conv
import HandS.Zip
import HandS.TupAny
import HandS.IsInst
import HandS.SortRule
import HandS.DictTup
import HandS.WrittenGet
import PySem.Challenge.RW_drumlay_k01_programs_refused
import KE.GoesEnum
import KE.GoesMore
import HandS.Strs
import HandS.SetFor
import HandS.SortInts
import HandS.ExcIs
import HandS.Lambda
import KE.GoesZip
import PyProof.FactsAll.tuple
import KE.SortData
import HandS.SortOrd
import HandS.Defaults
import KE.KDflt
import HandS.ExcInit
import HandS.ExcField
import HandS.FStr
import PyProof.FitsInt
import PyProof.StrLaws
import HandS.WordsExc
import HandS.ExcOwn
import HandS.TupMul
import HandS.EndOwn
import KE.KStateDown
import HandS.Head0
import HandS.Head1
import HandS.Head2
import HandS.Head3
set_option Elab.async false
set_option linter.all false
set_option maxRecDepth 100000
set_option maxHeartbeats 4000000
namespace DL
open PySem L2
abbrev Frg := PySem.W.Frag
/-! ### heaps -/
theorem sz {n : Nat} (h : n ≤ 100000) : n ≤ sizeLine := Nat.le_trans h (by decide)
theorem szl {n : Nat} (h : n < 100000) : n < sizeLine := Nat.lt_of_lt_of_le h (by decide)
def But (d : Addr) (H H' : Hp) : Prop := ∀ a o, a ≠ d → H a = some o → H' a = some o
theorem But.refl (d : Addr) (H : Hp) : But d H H := fun _ _ _ h => h
theorem But.trans {d : Addr} {H H1 H2 : Hp} (a : But d H H1) (b : But d H1 H2) : But d H H2 := fun x o n h => b x o n (a x o n h)
theorem But.of {d : Addr} {H H' : Hp} (a : Same H H') : But d H H' := fun x o _ h => a x o h
abbrev Same1 := @L2.Same
theorem Same.new {H : Hp} {p : Addr} {o : HO} (h : H p = none) : Same H (upd H p o) := fun a u e => by
  rw [upd_ne (ne_of_none e h)]; exact e
theorem Same.mut {H H' : Hp} {p : Addr} {o : HO} (e : Same H H') (h : H p = none) : Same H (upd H' p o) := fun a u ha => by
  rw [upd_ne (ne_of_none ha h)]; exact e a u ha
theorem Same.get {H H' : Hp} (s : Same H H') {a : Addr} {o : HO} (h : H a = some o) : H' a = some o := s a o h
def DiceV (H : Hp) (d sa : Addr) : Prop := ∃ (i m r : Int), H d = some (.lst [.ref sa, .int i, .int m, .int r]) ∧ 0 ≤ i ∧ 0 ≤ m ∧ m < 2147483647
structure Ent (K : Frg) (H : Hp) (d sa : Addr) (ns : List Int) : Prop where
  dice : DiceV H d sa
  scr : SqL K H sa (ns.map V.int)
  len : ns.length ≤ 63
structure Dc (K : Frg) (H0 H : Hp) (d sa : Addr) (ns : List Int) : Prop where
  e0 : Ent K H0 d sa ns
  but : But d H0 H
  dice : DiceV H d sa
variable {K : Frg} {H0 H H' : Hp} {d sa : Addr} {ns : List Int}
theorem But.seq (b : But d H0 H) (dv : DiceV H0 d sa) (h : SqL K H0 sa (ns.map V.int)) : SqL K H sa (ns.map V.int) := by
  obtain ⟨i, m, r, z, _⟩ := dv
  rcases h with (h | ⟨o, h⟩) | h
  · refine .inl (.inl (b _ _ (fun e => ?_) h))
    subst e
    rw [z] at h
    have q : ([.ref sa, .int i, .int m, .int r] : List V) = ns.map V.int := by injection (Option.some.inj h)
    cases ns with
    | nil => cases q
    | cons x xs => have q2 := (List.cons.inj q).1; cases q2
  · refine .inl (.inr ⟨o, b _ _ (fun e => ?_) h⟩)
    subst e
    rw [z] at h; cases h
  · exact .inr h
theorem Dc.refl (e : Ent K H d sa ns) : Dc K H H d sa ns := ⟨e, But.refl _ _, e.dice⟩
theorem Dc.ent (c : Dc K H0 H d sa ns) : Ent K H d sa ns := ⟨c.dice, c.but.seq c.e0.dice c.e0.scr, c.e0.len⟩
theorem Dc.here (c : Dc K H0 H d sa ns) {p : Addr} (h : H p = none) : H0 p = none := by
  cases q : H0 p with
  | none => rfl
  | some o =>
    by_cases e : p = d
    · subst e
      obtain ⟨i, m, r, z, _⟩ := c.dice
      rw [z] at h; cases h
    · rw [c.but p o e q] at h; cases h
theorem Dc.ned (c : Dc K H0 H d sa ns) {p : Addr} (h : H0 p = none) : p ≠ d := fun e => by
  subst e
  obtain ⟨i, m, r, z, _⟩ := c.e0.dice
  rw [z] at h; cases h
theorem Dc.mut (c : Dc K H0 H d sa ns) {p : Addr} {o : HO} (h : H0 p = none) : Dc K H0 (upd H p o) d sa ns := by
  refine ⟨c.e0, fun a u n e => ?_, ?_⟩
  · rw [upd_ne (ne_of_none e h)]; exact c.but a u n e
  · obtain ⟨i, m, r, z, q⟩ := c.dice
    exact ⟨i, m, r, by rw [upd_ne (c.ned h).symm]; exact z, q⟩
theorem Dc.new (c : Dc K H0 H d sa ns) {p : Addr} {o : HO} (h : H p = none) : Dc K H0 (upd H p o) d sa ns := c.mut (c.here h)
theorem Dc.trans (c : Dc K H0 H d sa ns) (c2 : Dc K H H' d sa ns) : Dc K H0 H' d sa ns := ⟨c.e0, c.but.trans c2.but, c2.dice⟩
theorem Dc.same (c : Dc K H0 H d sa ns) (s : Same H H') : Dc K H0 H' d sa ns := by
  obtain ⟨i, m, r, z, q⟩ := c.dice
  exact ⟨c.e0, c.but.trans (But.of s), i, m, r, s _ _ z, q⟩
theorem Dc.roll (c : Dc K H0 H d sa ns) {i m r : Int} (h0 : 0 ≤ i) (h1 : 0 ≤ m) (h2 : m < 2147483647) : Dc K H0 (upd H d (.lst [.ref sa, .int i, .int m, .int r])) d sa ns :=
  ⟨c.e0, fun a u n e => by rw [upd_ne n]; exact c.but a u n e, ⟨i, m, r, upd_same, h0, h1, h2⟩⟩
def Kp (H H' : Hp) : Prop := ∀ a xs, H a = some (.tup xs) → H' a = some (.tup xs)
theorem Kp.refl (H : Hp) : Kp H H := fun _ _ h => h
theorem Kp.trans {H H1 H2 : Hp} (a : Kp H H1) (b : Kp H1 H2) : Kp H H2 := fun x o h => b x o (a x o h)
theorem Kp.same (s : Same H H') : Kp H H' := fun a xs h => s a _ h
theorem Kp.new {p : Addr} {o : HO} (h : H p = none) : Kp H (upd H p o) := Kp.same (Same.new h)
theorem Kp.lst {p : Addr} {o : HO} {ys : List V} (h : H p = some (.lst ys)) : Kp H (upd H p o) := fun a xs e => by
  rw [upd_ne (ne_of e h (by intro z; cases z))]; exact e
theorem Dc.kp (c : Dc K H0 H d sa ns) : Kp H0 H := fun a xs h => c.but a _ (by
  intro e; subst e
  obtain ⟨i, m, r, z, _⟩ := c.e0.dice
  rw [z] at h; cases h) h
@[elab_as_elim] theorem alloc {R : Hp → Prop} {H : Hp} {p : Addr} {o : HO} (hp : H p = none) (k : ∀ H', Same H H' → H' p = some o → R H') : R (upd H p o) := k _ (Same.new hp) upd_same
@[elab_as_elim] theorem change {R : Hp → Prop} {H : Hp} {p : Addr} {o : HO} (k : ∀ H', But p H H' → H' p = some o → R H') : R (upd H p o) := k _ (fun a u n e => by rw [upd_ne n]; exact e) upd_same
/-! ### one list read or written by place -/
theorem at0 {x : V} {xs : List V} : atI (x :: xs) 0 = some x := atI_nat (j := 0) rfl
theorem at1 {x y : V} {xs : List V} : atI (x :: y :: xs) 1 = some y := atI_nat (j := 1) rfl
theorem at2 {x y z : V} {xs : List V} : atI (x :: y :: z :: xs) 2 = some z := atI_nat (j := 2) rfl
theorem at3 {x y z u : V} {xs : List V} : atI (x :: y :: z :: u :: xs) 3 = some u := atI_nat (j := 3) rfl
theorem pg_tupK {X : Cx} {pos : Pos} (K : PySem.W.Frag) (hK : X.K = K) {es : List Expr} {k : Nat} {t : TGs} {n : Nat} (hc : X.calm = true) (h : PGs X es t)
    (hn : (assignEach es X.env).length = n := by rfl) (hst : (assignEach es X.env).findIdx? (·.1) = none := by rfl) : PG X (.Tuple es k pos) (gTup K n t) := hK ▸ pg_tup hc h hn hst
theorem upd_none {H : Hp} {p a : Addr} {o : HO} (h : upd H p o a = none) : H a = none := by
  by_cases e : a = p
  · subst e; rw [upd_same] at h; cases h
  · rwa [upd_ne e] at h
theorem range_elim {lo : Int} {n : Nat} {g : TG} {tb : TS} {D : Ends} {σ : L2.St} {H : Hp} (Pv : Nat → L2.St → Hp → Prop) (R : L2.St → Hp → Prop) (h0 : Pv 0 σ H) (key : ∀ σ H, R σ H → D.nx σ H)
    (hs : ∀ Nx : L2.St → Hp → Prop, (∀ σ H, R σ H → Nx σ H) → ∀ i σ H, i < n → Pv i σ H →
      g (.int (lo + i)) σ H fun σ2 H2 => tb { D with nx := Pv (i + 1), ct := Pv (i + 1), bk := Nx } σ2 H2) (hd : ∀ σ H, Pv n σ H → R σ H) :
    ∃ W : Nat → Nat → L2.St → Hp → Prop, (∃ m, W 0 m σ H) ∧ ∀ i m σ H, W i m σ H →
      ((Itr lo n).stop i H ∧ D.nx σ H) ∨ ((Itr lo n).go i H ∧ ∃ N : L2.St → Hp → Prop, (∀ σ' H', N σ' H' → ∃ m', m' < m ∧ W (i + 1) m' σ' H') ∧
        ∀ x H', (Itr lo n).yld i H x H' → g x σ H' fun σ2 H2 => tb { D with nx := N, ct := N, bk := D.nx } σ2 H2) := for_range Pv h0 (hs D.nx key) fun σ H h => key _ _ (hd _ _ h)
end DL
namespace DLR
open PySem PySem.Spec PyProof.Rows L2
/-! ### enumerate(a tuple) -/
def itO (a : Addr) : Obj := { cls := .type "tuple_iterator", data := .fields #[.ref a, .int 0 0] }
def enO (i : Addr) : Obj := { cls := .type "enumerate", data := .fields #[.none, .bool false, .ref i, rawInt 0, .none, .none] }
theorem made_enumT (a : Addr) (items : Array Value) :
    Meets (Builtin.«enumerate.__new__» ⟨[.type "enumerate", .ref a], []⟩) (fun _ R s => s.heap.IsTuple a items ∧
      R (.ok (.ret (.ref (s.heap.push (itO a)).objs.size))) { s with heap := (s.heap.push (itO a)).push (enO s.heap.objs.size) }) := by
  refine .of_wp fun prog w A R s h => ?_
  obtain ⟨hp, g, d, tk, os⟩ := s
  obtain ⟨h1, h⟩ := h
  have hs2 := sub_enumerate
  have it1 : ∀ {A' : Around} {E : Value → Shared → Prop} {Q : Value → Shared → Prop}, Q (.ref hp.objs.size) ⟨hp.push (itO a), g, d, tk, os⟩ →
      wpAny (model prog w) A' (pyIter (.ref a)) Q E ⟨hp, g, d, tk, os⟩ := fun q => (begins_tuple a items).iter prog w _ _ ⟨hp, g, d, tk, os⟩ _ h1 q
  wp_walk using it1
  refine wpAny_stack_any fun st => wpAny_pure ?_
  split
  · rename_i c _ _ _ _ _
    cases (c == Value.type "enumerate") <;> (wp_walk using it1; exact ⟨_, rfl, h⟩)
  · wp_walk using it1
    exact ⟨_, rfl, h⟩
section
variable {prog : Program} {w : World} {A : Around} {E : Value → Shared → Prop} {s : Shared}
theorem call_enumT {a : Addr} {items : Array Value} {Q : Value → Shared → Prop} (hT : s.heap.IsTuple a items)
    (h : ∀ h', IsEnum h' (s.heap.objs.size + 1) s.heap.objs.size 0 .none → h'.IsTupleIter s.heap.objs.size a 0 → (∀ b o, s.heap.get? b = some o → h'.get? b = some o) →
      Q (.ref (s.heap.objs.size + 1)) { s with heap := h' }) : wpAny (model prog w) A (call (.type "enumerate") [.ref a]) Q E s := by
  refine callType_new F.called_enumerate (by decide) (F.typeCall_enumerate_1 _) (F.newCall_enumerate_1 _)
    (fun obj => F.args_object_init_2 obj _) F.entry_enumerate_new (made_enumT a items) ⟨hT, ?_⟩
  have hz : (s.heap.push (itO a)).objs.size = s.heap.objs.size + 1 := Heap.size_push ..
  show _ ∧ _
  rw [hz]
  have he : IsEnum ((s.heap.push (itO a)).push (enO s.heap.objs.size)) (s.heap.objs.size + 1) s.heap.objs.size 0 .none := by
    have q := Heap.get?_push_size (s.heap.push (itO a)) (o := enO s.heap.objs.size) rfl
    rw [hz] at q
    exact q
  exact ⟨⟨_, he, rfl⟩, h _ he ⟨_, Heap.get?_push_of_some _ (Heap.get?_push_size _ rfl), rfl, rfl⟩
    fun b o x => Heap.get?_push_of_some _ (Heap.get?_push_of_some _ x)⟩
end
def IteT (K : PySem.W.Frag) (a : Addr) : It :=
  ⟨fun i H => ∃ (xs : List V) (x : V), SqT K H a xs ∧ xs[i]? = some x,
   fun i H v H' => ∃ T x, v = .ref T ∧ H T = none ∧ H' = upd H T (.tup [.int (i : Nat), x]) ∧ ∀ xs, SqT K H a xs → xs[i]? = some x,
   fun i H => ∃ xs : List V, SqT K H a xs ∧ xs.length ≤ i⟩
theorem turn_enumT {P : Program} {w : World} {K : PySem.W.Frag} {elts : List Expr} {kk : Nat} {tpos : Pos} (a e it : Addr) :
    Turn P w K (.Tuple elts kk tpos) (IteT K a) [e, it] e (fun i h => (∃ old, IsEnum h e it ((i : Nat) : Int) old) ∧ h.IsTupleIter it a i ∧ e ≠ it ∧ a ≠ e ∧ a ≠ it) where
  mem := by simp
  obj := fun i h st b hb => by
    obtain ⟨⟨old, he⟩, ⟨o, ho, hc, hd⟩, _⟩ := st
    rcases (show b = e ∨ b = it by simpa using hb) with z | z
    · rw [z]; exact ⟨_, he, fun v q => nomatch q⟩
    · rw [z]; exact ⟨o, ho, fun v q => by rw [hd] at q; cases q⟩
  keep := fun i h h' st k => let ⟨⟨old, he⟩, hi, z⟩ := st; ⟨⟨old, k e (by simp) _ he⟩, hi.at fun o q => k it (by simp) o q, z⟩
  item := by
    intro X hP hw hK hc i pins s σ H E I hf st hg
    subst hP hw hK
    obtain ⟨⟨old, he⟩, hit, hne, hae, hai⟩ := st
    obtain ⟨xs, x, hq, hx⟩ := hg
    obtain ⟨its, rv, p, hz⟩ := I.tuple hq
    obtain ⟨u, hu, ru⟩ := rv.get hx
    have hel : e < s.heap.objs.size := Heap.lt_size he
    have hil : it < s.heap.objs.size := by obtain ⟨_, q, _⟩ := hit; exact Heap.lt_size q
    have hlt : i < its.toArray.size := by
      have q := (List.getElem?_eq_some_iff.mp hu).1
      simpa using q
    refine wpAny_pyNext_enum_itemD (Draws.tuple (A := X.A.in1) (I.ok.hd hc) it a hai its.toArray) he ⟨hit, p⟩ hlt hne
      (by simp [hne, Ne.symm hae]) fun v h' tk hv ho hst' hT hsz hk => ?_
    have ev : v = u := by
      have q : its[i]? = some v := by simpa using hv
      rw [hu] at q
      exact (Option.some.inj q).symm
    subst ev
    refine ⟨_, rfl, wpAny_letOwnedTupleGo_enum (s := { s with heap := h', toks := tk + 1 }) ho fun h'' he' sb => ?_⟩
    have hT2 := (sb.2 _ (Nat.ne_of_gt hel)).trans hT
    have new : ObjOk X.prog X.w (upd H s.heap.objs.size (.tup [.int (i : Nat), x])) h'' s.heap.objs.size (.tup [.int (i : Nat), x]) :=
      ⟨by show 2 ≤ sizeLine; decide, [.int i tk, v], .cons ⟨_, rfl⟩ (.cons ru .nil), ⟨_, hT2, rfl, _, rfl⟩⟩
    have I1 : Inv X pins σ (upd H s.heap.objs.size (.tup [.int (i : Nat), x])) { s with heap := h'', toks := tk + 1 } :=
      I.turnedNew (ch := [e, it]) (fun b ob hb q =>
        (sb.2 b (fun z => hb (by simp [z]))).trans (hk b ob (fun z => hb (by simp [z])) (fun z => hb (by simp [z])) q)) hf (Nat.le_refl _) new
    refine ⟨.ref s.heap.objs.size, _, I1, rfl, ⟨_, x, rfl, I.hok.fresh (Nat.le_refl _), rfl, fun ys hy => by rw [I.tuple_inj hy hq]; exact hx⟩,
      ⟨⟨v, ?_⟩, hst'.1.at fun o q => (sb.2 it (Ne.symm hne)).trans q, hne, hae, hai⟩, fun b hb => ?_⟩
    · rw [show ((i + 1 : Nat) : Int) = (i : Int) + 1 by omega]
      exact he'
    · have hb' : b < s.heap.objs.size := by
        rcases (show b = e ∨ b = it by simpa using hb) with z | z
        · rw [z]; exact hel
        · rw [z]; exact hil
      rw [upd_ne (Nat.ne_of_lt hb')]
      exact (hf b hb).1
  done := by
    intro X hP hw hK hc i pins s σ H E I hf st hg
    subst hP hw hK
    obtain ⟨⟨old, he⟩, hit, hne, hae, hai⟩ := st
    obtain ⟨xs, hq, hx⟩ := hg
    obtain ⟨its, rv, p, hz⟩ := I.tuple hq
    obtain ⟨f0, f1, f2, f3, f4, f5⟩ := hf it (by simp)
    have hl := rv.length
    have hnone : its.toArray[i]? = none := by simp; omega
    have D : Draws X.prog X.w X.A.in1 it [it, a] 0 (fun _ _ => False) (fun _ h => h.IsTupleIter it a i ∧ h.IsTuple a its.toArray) :=
      { live := fun _ _ st => let ⟨o, ho, _⟩ := st.1; ⟨o, ho⟩
        frame := fun _ _ _ st hk => ⟨st.1.at fun o e => hk it (by simp) o e, st.2.at fun o e => hk a (by simp) o e⟩
        item := fun i s Q E hi => absurd hi (Nat.not_lt_zero _)
        done := fun s Q E st hE => wpAny_nextOf_tuple_end (I.ok.hd hc) st.1 st.2 hnone hE }
    exact wpAny_pyNext_enum_endD D he ⟨hit, p⟩ fun h' eb => ⟨rfl, I.turned (t' := s.toks) (fun b o hb q => eb b o hb q) f0 f1 f3 f4 f5⟩
  self := fun A i s Q E st h => let ⟨⟨_, he⟩, _⟩ := st; wpAny_pyIter_enum he h
def iEnumT (K : PySem.W.Frag) (ta : TA) : TI := fun σ H R => ta σ H fun vs H1 => ∃ a xs, vs = [.ref a] ∧ SqT K H1 a xs ∧ R (IteT K a) H1
theorem pi_enumT {X : Cx} {e : Expr} {ta : TA} {p pos tpos : Pos} {elts : List Expr} {kk : Nat} (hg : Gl X "enumerate") (hm : X.mg "enumerate" = none) (ha : PA X [e] ta)
    (hs : starEach [e] X.env = [(false, eval e X.env)] := by rfl) : PI X (.Tuple elts kk tpos) (.Call (.Name "enumerate" p) [e] [] pos) (iEnumT X.K ta) := by
  refine ⟨fun pins s σ H R I h => ?_⟩
  refine Call_ (ld_blt I hg hm boot_enumerate (PyProof.Rows.callWith_type1 (thn (ha.run pos pins s σ H _ I h) fun us s1 ⟨vs, H1, I1, r1, q1⟩ => ?_) hs rfl))
  obtain ⟨a, xs, ex, hq, q⟩ := q1
  subst ex
  cases r1 with
  | cons r rr =>
    cases rr
    cases r
    obtain ⟨its, rv, p', hz⟩ := I1.tuple hq
    have hal : a < s1.heap.objs.size := by obtain ⟨o, q, _⟩ := p'; exact Heap.lt_size q
    refine call_enumT p' fun h' he hit hk => wpAny_pyIter_enum he ?_
    have I2 : Inv X pins σ H1 { s1 with heap := h' } := I1.kept (t' := s1.toks) hk
    refine ⟨s1.heap.objs.size + 1, [s1.heap.objs.size + 1, s1.heap.objs.size], _, _, H1, rfl, I2, turn_enumT a (s1.heap.objs.size + 1) s1.heap.objs.size,
      ⟨⟨.none, he⟩, hit, Nat.succ_ne_self _, Nat.ne_of_lt (Nat.lt_succ_of_lt hal), Nat.ne_of_lt hal⟩, fun b hb => ?_, q⟩
    have hle : s1.heap.objs.size ≤ b := by
      rcases (show b = s1.heap.objs.size + 1 ∨ b = s1.heap.objs.size by simpa using hb) with z | z
      · rw [z]; exact Nat.le_succ _
      · rw [z]; exact Nat.le_refl _
    exact I1.fpOk hle (I1.hok.fresh hle)
theorem for_enumT {K : PySem.W.Frag} {a : Addr} {xs : List V} {g : TG} {tb : TS} {D : Ends} {σ : L2.St} {H : Hp} (Pv : Nat → L2.St → Hp → Prop) (h0 : Pv 0 σ H) (hq : ∀ i σ H, Pv i σ H → SqT K H a xs)
    (hs : ∀ i x T σ H, xs[i]? = some x → Pv i σ H → H T = none → g (.ref T) σ (upd H T (.tup [.int (i : Nat), x])) fun σ2 H2 => tb { D with nx := Pv (i + 1), ct := Pv (i + 1), bk := D.nx } σ2 H2)
    (hd : ∀ σ H, Pv xs.length σ H → D.nx σ H) :
    ∃ W : Nat → Nat → L2.St → Hp → Prop, (∃ m, W 0 m σ H) ∧ ∀ i m σ H, W i m σ H →
      ((IteT K a).stop i H ∧ D.nx σ H) ∨ ((IteT K a).go i H ∧ ∃ N : L2.St → Hp → Prop, (∀ σ' H', N σ' H' → ∃ m', m' < m ∧ W (i + 1) m' σ' H') ∧ ∀ x H', (IteT K a).yld i H x H' → g x σ H' fun σ2 H2 => tb { D with nx := N, ct := N, bk := D.nx } σ2 H2) := by
  refine ⟨fun i m σ H => m = xs.length - i ∧ i ≤ xs.length ∧ Pv i σ H, ⟨xs.length, rfl, Nat.zero_le _, h0⟩, ?_⟩
  rintro i m σ H ⟨rfl, hi, p⟩
  have qx := hq i σ H p
  by_cases hlt : i < xs.length
  · refine .inr ⟨⟨xs, _, qx, List.getElem?_eq_getElem hlt⟩, Pv (i + 1), fun σ' H' p' => ⟨_, by omega, rfl, hlt, p'⟩, fun v H' y => ?_⟩
    obtain ⟨T, x', rfl, hT, rfl, f1⟩ := y
    exact hs i x' T σ H (f1 xs qx) p hT
  · have e : i = xs.length := by omega
    subst e
    exact .inl ⟨⟨xs, qx, Nat.le_refl _⟩, hd σ H p⟩
/-! ### slices and sums of tuples, told by what holds behind -/
theorem cut_whole {xs : List V} {lo hi : Option Int} (h : HT.sIx xs.length 0 lo = 0 ∧ HT.sIx xs.length xs.length hi = xs.length) : cutV xs lo hi = xs := by
  unfold cutV
  rw [h.1, h.2, List.drop_zero, Nat.sub_zero, List.take_length]
def rSlS : V → Option Int → Option Int → Hp → VK → Prop := fun x lo hi H Q => ∃ a xs, x = .ref a ∧ H a = some (.tup xs) ∧
  ∀ t H', DL.Same1 H H' → H' t = some (.tup (cutV xs lo hi)) → Q (.ref t) H'
theorem sl_tupS {X : Cx} : SlR X rSlS := by
  intro pins s σ H x v vl vu lo hi sl Q I rx hs pl pu h
  obtain ⟨a, xs, rfl, ha, q⟩ := h
  exact sl_tupA pins s σ H _ v vl vu lo hi sl Q I rx hs pl pu ⟨a, xs, rfl, SqT.of ha, fun w => q a H (Same.refl _) (by rw [cut_whole w]; exact ha),
    fun _ p hp => q p _ (DL.Same.new hp) upd_same⟩
def rCatS : R2 := fun x y H Q => ∃ a b xs ys, x = .ref a ∧ y = .ref b ∧ H a = some (.tup xs) ∧ H b = some (.tup ys) ∧ xs.length + ys.length ≤ sizeLine ∧
  ∀ t H', DL.Same1 H H' → H' t = some (.tup (xs ++ ys)) → Q (.ref t) H'
theorem op_catS {X : Cx} : OpR X (binaryOp .Add) rCatS := by
  intro pins s σ H x y v u Q I rx ry h
  obtain ⟨a, b, xs, ys, rfl, rfl, ha, hb, hz, q⟩ := h
  refine op_catA pins s σ H _ _ v u Q I rx ry ⟨a, b, xs, ys, rfl, rfl, SqT.of ha, SqT.of hb, hz, fun e => q b H (Same.refl _) ?_, fun _ e => q a H (Same.refl _) ?_, fun _ _ p hp => q p _ (DL.Same.new hp) upd_same⟩
  · rw [e]; exact hb
  · rw [e, List.append_nil]; exact ha
/-! ### a method's call within a comprehension's block -/
theorem pe_bmK {X : Cx} {o e : Expr} {es : List Expr} {to : TE} {t : TA} {name : Str} {apos cpos : Pos} {T id : String} {r : V → List V → Hp → VK → Prop} (K0 : PySem.W.Frag) (hK : X.K = K0)
    (pa : PlainAttrs T) (slot : Slot T name id) (hty : typeOf (.builtin id) = pure (.type "method_descriptor")) (hm : MtR X id r) (ho : PE X o to) (ha : PA X (e :: es) t)
    (hbase : attributeBase o name X.env (eval o X.env) = eval o X.env := by rfl)
    (hfew : ((backTo cpos (starEach (e :: es) X.env)).all (fun x => !x.1) && (backToKw cpos (keywordEach [] X.env)).all (fun x => x.1.isSome)
      && decide ((e :: es).length + ([] : List Keyword).length + (if ([] : List Keyword).isEmpty then 0 else 1) < 30)) = true := by rfl)
    (hline : (apos.endLine == cpos.line) = true := by rfl)
    (hs : starEach (e :: es) X.env = (false, eval e X.env) :: starEach es X.env := by rfl) (hplain : (backTo cpos (starEach es X.env)).any (·.1) = false := by rfl) :
    PE X (.Call (.Attribute o name apos) (e :: es) [] cpos) (tBM K0 T r to t) := hK ▸ pe_bm pa slot hty hm ho ha hbase hfew hline hs hplain
theorem mt_indexK {X : Cx} (K0 : PySem.W.Frag) (hK : X.K = K0) : MtR X "list.index" (rIndex K0) := hK ▸ mt_index
def rLenK (K : PySem.W.Frag) : List V → Hp → VK → Prop := fun xs H Q => ∃ p ys, xs = [V.ref p] ∧ (SqL K H p ys ∨ SqT K H p ys) ∧ Q (.int ys.length) H
theorem call_lenK {X : Cx} (K0 : PySem.W.Frag) (hK : X.K = K0) : CallR X (.builtin "len") (rLenK K0) := hK ▸ call_len_seq
theorem ix_tupK {X : Cx} (K0 : PySem.W.Frag) (hK : X.K = K0) : IxR X (rIxT K0) := hK ▸ ix_tup
theorem ix_listK {X : Cx} (K0 : PySem.W.Frag) (hK : X.K = K0) : IxR X (rIxL K0) := hK ▸ ix_list
theorem ix_seqK {X : Cx} (K0 : PySem.W.Frag) (hK : X.K = K0) : IxR X (rIx K0) := hK ▸ ix_seq
theorem op_catTK {X : Cx} (K0 : PySem.W.Frag) (hK : X.K = K0) : OpR X (binaryOp .Add) (rCatT K0) := hK ▸ op_catT
theorem call_isiK2 {X : Cx} (K0 : PySem.W.Frag) (hK : X.K = K0) : CallR X (.builtin "isinstance") (rIsi K0) := hK ▸ call_isi
/-! ### xs[i] op= e of a list -/
def rGetL (K : PySem.W.Frag) : V → V → Hp → VK → Prop := fun x y H Q => ∃ (p : Addr) (xs : List V) (j : Nat) (v : V), x = .ref p ∧ y = .int (j : Int) ∧ SqL K H p xs ∧ xs[j]? = some v ∧ Q v H
theorem get_list {X : Cx} : PGet X (rGetL X.K) := by
  intro pins s σ H o i ov iv Q I ro ri h
  obtain ⟨p, xs, j, v, rfl, rfl, hq, he, q⟩ := h
  cases ro
  obtain ⟨t, rfl⟩ := ri
  obtain ⟨its, r, pl, hz⟩ := I.list hq
  obtain ⟨u, hu, ru⟩ := r.get he
  have hj := (List.getElem?_eq_some_iff.mp he).1
  have hn := line63
  exact wpAny_getItem_list pl.isList (by omega) (by omega) (x := u) (by simpa using hu) ⟨v, H, I, ru, q⟩
end DLR
namespace DL
open PySem L2
def top (i : Nat) : Stmt := PySem.Challenge.pw_drumlay_k01_programs_refused.main.body.getD i (.Pass ⟨0, 0, 0, 0⟩)
structure Bt (mg : Str → Option Value) : Prop where
  len : mg "len" = none
  int : mg "int" = none
  range : mg "range" = none
  isinstance : mg "isinstance" = none
  tuple : mg "tuple" = none
  list : mg "list" = none
  sorted : mg "sorted" = none
  sum : mg "sum" = none
  max : mg "max" = none
  enumerate : mg "enumerate" = none
  zip : mg "zip" = none
  all : mg "all" = none
  bool : mg "bool" = none
  str : mg "str" = none
abbrev sDice : Stmt := top 103
abbrev sNext : Stmt := top 104
def spDice (K : Frg) : Sp := fun vs H Q _ => ∃ (sa : Addr) (ns : List Int), vs = [.ref sa] ∧ SqL K H sa (ns.map V.int) ∧ ns.length ≤ 63 ∧
  ∀ p H', Same H H' → H p = none → Ent K H' p sa ns → Q (.ref p) H'
def spNext (K : Frg) : Sp := fun vs H Q _ => ∃ (d sa : Addr) (ns : List Int) (many : Int), vs = [.ref d, .int many] ∧ Ent K H d sa ns ∧ 0 < many ∧ many < 1073741824 ∧
  ∀ n H', 0 ≤ n → n < many → Dc K H H' d sa ns → Q (.int n) H'
section
variable {P : Program} {w : World} {K : PySem.W.Frag} {mg : Str → Option Value} {base : Heap}
theorem scDice : FnScope ["_law_script", "_law_mixed_here", "_law_cell"] ["_law_script"] (defScope sDice) := ⟨rfl, rfl, rfl, by decide +kernel, rfl, by decide +kernel, by decide +kernel⟩
theorem ok_dice {f : Addr} {fd : FuncData} (F : Fun K "_law_dice" "_law_dice" sDice f fd) (T : Bt mg) : FnOk P w K mg base CX0 1 f fd ["_law_script"] (spDice K) := by
  refine F.ok scDice (fun vs H Q E h => ?_) (fun cdv A outer s H vs Q E hr h => ?_)
  · obtain ⟨sa, ns, rfl, _⟩ := h
    rfl
  · obtain ⟨sa, ns, rfl, hS, hlen, k⟩ := h
    refine ⟨_, pss_cons (ps_set (i := 1) scDice.nd rfl (Or.inl rfl) pe_int)
      (pss_cons (ps_for PassesOwn.never rfl (pi_list (pv 0)) (pg_name (i := 2) scDice.nd rfl (Or.inl rfl))
        (pss_one (ps_set (i := 1) scDice.nd rfl (Or.inl rfl) (pe_op op_mod (pe_op op_add (pe_op op_add (pe_op op_mul (pv 1) pe_int) (pe_op op_mul (pe_op op_mod (pv 2) pe_int) pe_int)) pe_int) pe_int))))
      (pss_one (ps_ret (pe_lst (pa_cons (pv 0) (pa_cons pe_int (pa_cons (pe_op op_mul (pv 1) (pe_callTy call_int1 (by rfl) T.int (by decide +kernel)
        (pa_cons (pe_cmpR op_gt (pe_callB call_len_seq (by rfl) T.len PySem.boot_len (pa_cons (pv 0) pa_nil)) pe_int (nomark _)) pa_nil))) (pa_cons pe_int pa_nil)))))))), ?_⟩
    refine ⟨_, rfl, sa, rfl, ⟨_, hS⟩, for_list (K := K) (a := sa) (xs := ns.map V.int) (fun i σ H' => ∃ (m : Int) (v : Option V), σ = [some (.ref sa), some (.int m), v] ∧ H' = H ∧ 0 ≤ m ∧ m < 2147483647)
      ⟨0, none, rfl, rfl, by decide, by decide⟩ (fun i σ H' _ ⟨_, _, _, e, _⟩ => by rw [e]; exact hS) ?_ ?_⟩
    · rintro i y σ H' hi ⟨m, v, rfl, rfl, h0, h1⟩
      obtain ⟨u, rfl⟩ : ∃ u, y = V.int u := by
        rw [List.getElem?_map] at hi
        cases e : ns[i]? with
        | none => rw [e] at hi; cases hi
        | some u => rw [e] at hi; exact ⟨u, (Option.some.inj hi).symm⟩
      refine ⟨_, rfl, _, _, rfl, rfl, .inl ⟨by omega, by omega⟩, _, rfl, _, _, rfl, rfl, (by show (0 : Int) < 2147483647; decide), _, _, rfl, rfl, .inl ⟨by omega, by omega⟩, _, _, rfl, rfl, _, _, rfl, rfl, _, _, rfl, rfl, (by show (0 : Int) < 2147483647; decide), ?_⟩
      exact ⟨_, _, rfl, rfl, Int.emod_nonneg _ (by decide), Int.emod_lt_of_pos _ (by decide)⟩
    · rintro σ H' ⟨m, v, rfl, rfl, h0, h1⟩
      refine ⟨_, rfl, _, rfl, _, rfl, sa, _, rfl, .inl hS, _, _, rfl, rfl, .inr ⟨_, rfl, ?_⟩⟩
      refine ⟨_, _, rfl, rfl, .inl ⟨by omega, by omega⟩, (by show 4 ≤ sizeLine; decide), fun p hp => ?_⟩
      have hns : (List.map V.int ns).length = ns.length := List.length_map _
      exact k p _ (Same.new hp) hp ⟨⟨_, _, _, upd_same, by decide, by split <;> omega, by split <;> omega⟩, (Same.new hp).seq hS, hlen⟩
theorem scNext : FnScope ["_law_dice_here", "_law_many", "_law_found", "_law_cell"] ["_law_dice_here", "_law_many"] (defScope sNext) := ⟨rfl, rfl, rfl, by decide +kernel, rfl, by decide +kernel, by decide +kernel⟩
theorem ok_next {f : Addr} {fd : FuncData} (F : Fun K "_law_next" "_law_next" sNext f fd) (T : Bt mg) : FnOk P w K mg base CX0 1 f fd ["_law_dice_here", "_law_many"] (spNext K) := by
  refine F.ok scNext (fun vs H Q E h => ?_) (fun cdv A outer s H vs Q E hr h => ?_)
  · obtain ⟨d, sa, ns, many, rfl, _⟩ := h
    rfl
  · obtain ⟨d, sa, ns, many, rfl, hE, hm0, hm1, k⟩ := h
    obtain ⟨⟨i, m, r, hd, hi0, hmx, hmy⟩, hS, hlen⟩ := id hE
    have C0 := Dc.refl hE
    refine ⟨_, pss_cons (ps_if (pt_cmpR op_gt (pe_ix ix_list (pv 0) pe_int (fun _ _ => rfl)) pe_int (nomark _))
        (pss_cons (ps_set (i := 2) scNext.nd rfl (Or.inl rfl) (pe_op op_mod (pe_ix ix_list (pv 0) pe_int (fun _ _ => rfl)) (pv 1)))
        (pss_cons (ps_asg (pe_op op_fdiv (pe_ix ix_list (pv 0) pe_int (fun _ _ => rfl)) (pv 1)) (pg_sub (pv 0) pe_int set_list))
        (pss_one (ps_ret (pv 2))))) pss_nil)
      (pss_cons (ps_asg (pe_op op_add (pe_ix ix_list (pv 0) pe_int (fun _ _ => rfl)) pe_int) (pg_sub (pv 0) pe_int set_list))
      (pss_cons (ps_if (pt_cmpR op_le (pe_ix ix_list (pv 0) pe_int (fun _ _ => rfl)) (pe_callB call_len_seq (by rfl) T.len PySem.boot_len (pa_cons (pe_ix ix_list (pv 0) pe_int (fun _ _ => rfl)) pa_nil)) (nomark _))
        (pss_cons (ps_set (i := 3) scNext.nd rfl (Or.inl rfl) (pe_ix ix_list (pe_ix ix_list (pv 0) pe_int (fun _ _ => rfl)) (pe_op op_sub (pe_ix ix_list (pv 0) pe_int (fun _ _ => rfl)) pe_int) (fun _ _ => rfl)))
        (pss_cons (ps_asg (pe_ifExp (pt_cmpR op_ge (pv 3) (pe_op op_pow pe_int pe_int) (nomark _)) (pe_op op_fdiv (pv 3) (pv 1)) pe_int) (pg_sub (pv 0) pe_int set_list))
        (pss_one (ps_ret (pe_op op_mod (pv 3) (pv 1)))))) pss_nil)
      (pss_cons (ps_asg (pe_op op_mod (pe_op op_mul (pe_ix ix_list (pv 0) pe_int (fun _ _ => rfl)) pe_int) pe_int) (pg_sub (pv 0) pe_int set_list))
      (pss_one (ps_ret (pe_op op_mod (pe_op op_fdiv (pe_ix ix_list (pv 0) pe_int (fun _ _ => rfl)) pe_int) (pv 1))))))), ?_⟩
    refine ⟨_, rfl, d, _, _, _, rfl, rfl, SqL.of hd, at3, _, _, rfl, rfl, _, rfl, ite2 (fun c => ?_) (fun c => ?_)⟩
    · refine ⟨_, rfl, d, _, _, _, rfl, rfl, SqL.of hd, at3, _, rfl, _, _, rfl, rfl, hm0, ?_⟩
      refine ⟨_, rfl, d, _, _, _, rfl, rfl, SqL.of hd, at3, _, rfl, _, _, rfl, rfl, ⟨hm0, hm1⟩, _, rfl, d, _, _, 3, rfl, rfl, hd, rfl, ?_⟩
      exact ⟨_, rfl, k _ _ (Int.emod_nonneg _ (by omega)) (Int.emod_lt_of_pos _ hm0) (C0.roll hi0 hmx hmy)⟩
    · refine ⟨_, rfl, d, _, _, _, rfl, rfl, SqL.of hd, at1, _, _, rfl, rfl, _, rfl, d, _, _, 1, rfl, rfl, hd, rfl, ?_⟩
      have C1 : Dc K H (upd H d (.lst [.ref sa, .int (i + 1), .int m, .int r])) d sa ns := C0.roll (by omega) hmx hmy
      have h1 : (upd H d (.lst [.ref sa, .int (i + 1), .int m, .int r])) d = some (.lst [.ref sa, .int (i + 1), .int m, .int r]) := upd_same
      have hS1 := C1.ent.scr
      revert C1 h1 hS1
      show _ → _ → _ → _
      generalize hH1 : (upd H d (.lst [.ref sa, .int (i + 1), .int m, .int r])) = H1
      intro C1 h1 hS1
      have hH1' : upd H d (.lst (List.set [V.ref sa, .int i, .int m, .int r] 1 (.int (i + 1)))) = H1 := hH1
      rw [hH1']
      refine ⟨_, rfl, d, _, _, _, rfl, rfl, SqL.of h1, at1, _, rfl, d, _, _, _, rfl, rfl, SqL.of h1, at0, sa, _, rfl, .inl hS1, _, _, rfl, rfl, _, rfl, ite2 (fun c => ?_) (fun c => ?_)⟩
      · have c : i + 1 ≤ ((ns.map V.int).length : Int) := of_decide_eq_true c
        rw [List.length_map] at c
        obtain ⟨j, hj⟩ : ∃ j : Nat, i = (j : Int) := ⟨i.toNat, by omega⟩
        have hjl : j < ns.length := by omega
        have hat : atI (ns.map V.int) (i + 1 - 1) = some (.int ns[j]) := by
          have e : i + 1 - 1 = (j : Int) := by omega
          rw [e]
          refine atI_nat ?_
          rw [List.getElem?_map, List.getElem?_eq_getElem hjl]
          rfl
        refine ⟨_, rfl, d, _, _, _, rfl, rfl, SqL.of h1, at0, _, rfl, d, _, _, _, rfl, rfl, SqL.of h1, at1, _, _, rfl, rfl, sa, _, _, _, rfl, rfl, hS1, hat, ?_⟩
        refine ⟨_, rfl, _, _, rfl, rfl, ⟨by decide, by decide, by decide⟩, _, _, rfl, rfl, _, rfl, ite2 (fun c2 => ?_) (fun c2 => ?_)⟩
        · refine ⟨_, rfl, _, rfl, _, _, rfl, rfl, ⟨hm0, hm1⟩, _, rfl, d, _, _, 3, rfl, rfl, h1, rfl, ?_⟩
          exact ⟨_, rfl, _, rfl, _, _, rfl, rfl, hm0, k _ _ (Int.emod_nonneg _ (by omega)) (Int.emod_lt_of_pos _ hm0) (C1.roll (by omega) hmx hmy)⟩
        · refine ⟨_, rfl, d, _, _, 3, rfl, rfl, h1, rfl, ?_⟩
          exact ⟨_, rfl, _, rfl, _, _, rfl, rfl, hm0, k _ _ (Int.emod_nonneg _ (by omega)) (Int.emod_lt_of_pos _ hm0) (C1.roll (by omega) hmx hmy)⟩
      · refine ⟨_, rfl, d, _, _, _, rfl, rfl, SqL.of h1, at2, _, _, rfl, rfl, .inl ⟨by omega, by omega⟩, _, _, rfl, rfl, (by show (0 : Int) < 2147483647; decide), _, rfl, d, _, _, 2, rfl, rfl, h1, rfl, ?_⟩
        refine ⟨_, rfl, d, _, _, _, rfl, rfl, SqL.of upd_same, at2, _, _, rfl, rfl, ⟨by decide, by decide⟩, _, rfl, _, _, rfl, rfl, hm0, ?_⟩
        exact k _ _ (Int.emod_nonneg _ (by omega)) (Int.emod_lt_of_pos _ hm0) (C1.roll (by omega) (Int.emod_nonneg _ (by decide)) (Int.emod_lt_of_pos _ (by decide)))
end
end DL
namespace DL
open PySem L2
/-! ### data: what like compares -/
inductive D where
  | non | bl (b : Bool) | int (i : Int) | str (s : Str) | lst (l : List D) | tup (l : List D)
mutual
def At (H : Hp) : V → D → Prop
  | v, .non => v = .non
  | v, .bl b => v = .bl b
  | v, .int i => v = .int i
  | v, .str s => v = .str s
  | v, .lst ds => ∃ a vs, v = .ref a ∧ H a = some (.lst vs) ∧ Ats H vs ds
  | v, .tup ds => ∃ a vs, v = .ref a ∧ H a = some (.tup vs) ∧ Ats H vs ds
def Ats (H : Hp) : List V → List D → Prop
  | [], [] => True
  | v :: vs, d :: ds => At H v d ∧ Ats H vs ds
  | _, _ => False
end
mutual
def D.dep : D → Nat
  | .lst ds => depL ds + 1
  | .tup ds => depL ds + 1
  | _ => 0
def depL : List D → Nat
  | [] => 0
  | d :: ds => max d.dep (depL ds)
end
mutual
def D.fit : D → Prop
  | .lst ds => ds.length ≤ 100000 ∧ fitL ds
  | .tup ds => ds.length ≤ 100000 ∧ fitL ds
  | _ => True
def fitL : List D → Prop
  | [] => True
  | d :: ds => d.fit ∧ fitL ds
end
theorem fitL_iff : ∀ {ds : List D}, fitL ds ↔ ∀ x ∈ ds, x.fit
  | [] => by simp [fitL]
  | d :: ds => by simp [fitL, fitL_iff (ds := ds)]
theorem D.fit_of {x : D} {ds : List D} (hx : x = .lst ds ∨ x = .tup ds) (h : x.fit) : ds.length ≤ 100000 ∧ fitL ds := by
  rcases hx with rfl | rfl <;> simpa [D.fit] using h
theorem Ats.len {H : Hp} : ∀ {vs : List V} {ds : List D}, Ats H vs ds → vs.length = ds.length
  | [], [], _ => rfl
  | v :: vs, d :: ds, h => by
    have h : At H v d ∧ Ats H vs ds := by simpa [Ats] using h
    show vs.length + 1 = ds.length + 1
    rw [Ats.len h.2]
  | [], _ :: _, h => by simp [Ats] at h
  | _ :: _, [], h => by simp [Ats] at h
theorem Ats.get {H : Hp} : ∀ {vs : List V} {ds : List D} (i : Nat), Ats H vs ds → i < ds.length → ∃ v x, vs[i]? = some v ∧ ds[i]? = some x ∧ At H v x
  | [], [], i, _, hi => by simp at hi
  | v :: vs, d :: ds, 0, h, _ => by
    have h : At H v d ∧ Ats H vs ds := by simpa [Ats] using h
    exact ⟨v, d, rfl, rfl, h.1⟩
  | v :: vs, d :: ds, i + 1, h, hi => by
    have h : At H v d ∧ Ats H vs ds := by simpa [Ats] using h
    obtain ⟨u, x, h1, h2, h3⟩ := Ats.get i h.2 (by simpa using hi)
    exact ⟨u, x, by simpa using h1, by simpa using h2, h3⟩
  | [], _ :: _, i, h, _ => by simp [Ats] at h
  | _ :: _, [], i, h, _ => by simp [Ats] at h
theorem depL_get : ∀ {ds : List D} {i : Nat} {x : D}, ds[i]? = some x → x.dep ≤ depL ds
  | [], i, x, h => by simp at h
  | d :: ds, 0, x, h => by
    have e : d = x := by simpa using h
    subst e
    show d.dep ≤ max d.dep (depL ds)
    omega
  | d :: ds, i + 1, x, h => by
    have := depL_get (ds := ds) (i := i) (x := x) (by simpa using h)
    show x.dep ≤ max d.dep (depL ds)
    omega
def D.ty : D → String
  | .non => "NoneType" | .bl _ => "bool" | .int _ => "int" | .str _ => "str" | .lst _ => "list" | .tup _ => "tuple"
theorem At.ty {K : Frg} {H : Hp} {v : V} : ∀ {x : D}, At H v x → TyX K H v (.type x.ty)
  | .non, h => by
    have h : v = .non := by simpa [At] using h
    subst h; exact .base .non
  | .bl b, h => by
    have h : v = .bl b := by simpa [At] using h
    subst h; exact .base (.bl _)
  | .int i, h => by
    have h : v = .int i := by simpa [At] using h
    subst h; exact .base (.int _)
  | .str s, h => by
    have h : v = .str s := by simpa [At] using h
    subst h; exact .base (.str _)
  | .lst ds, h => by
    obtain ⟨a, vs, rfl, h, _⟩ : ∃ a vs, v = .ref a ∧ H a = some (.lst vs) ∧ Ats H vs ds := by simpa [At] using h
    exact .base (.lst h)
  | .tup ds, h => by
    obtain ⟨a, vs, rfl, h, _⟩ : ∃ a vs, v = .ref a ∧ H a = some (.tup vs) ∧ Ats H vs ds := by simpa [At] using h
    exact .base (.tup h)
theorem isi_go {K : Frg} {H : Hp} {v : V} {x : D} {c : String} {b : Bool} {Q : VK} (h : At H v x) (r : kitB x.ty c = some b) (q : Q (.bl b) H) : rIsi K [v, .ty c] H Q :=
  ⟨_, _, _, _, _, rfl, .ty _, h.ty, kit_ty r, q⟩
def spLike (K : Frg) (n : Nat) : Sp := fun vs H Q _ => ∃ (v u : V) (x : D), vs = [v, u] ∧ At H v x ∧ At H u x ∧ x.dep ≤ n ∧ x.fit ∧ Q (.bl true) H
abbrev sLike : Stmt := top 105
section
variable {P : Program} {w : World} {K : PySem.W.Frag} {mg : Str → Option Value} {base : Heap}
theorem scLike : FnScope ["_law_found", "_law_due", "_law_k"] ["_law_found", "_law_due"] (defScope sLike) := ⟨rfl, rfl, rfl, by decide +kernel, rfl, by decide +kernel, by decide +kernel⟩
theorem At.sq {K : Frg} {H : Hp} {v : V} {x : D} {ds : List D} (hx : x = .lst ds ∨ x = .tup ds) (h : At H v x) : ∃ a vs, v = .ref a ∧ (SqL K H a vs ∨ SqT K H a vs) ∧ Ats H vs ds := by
  rcases hx with rfl | rfl
  · obtain ⟨a, vs, rfl, h, z⟩ : ∃ a vs, v = .ref a ∧ H a = some (.lst vs) ∧ Ats H vs ds := by simpa [At] using h
    exact ⟨a, vs, rfl, .inl (SqL.of h), z⟩
  · obtain ⟨a, vs, rfl, h, z⟩ : ∃ a vs, v = .ref a ∧ H a = some (.tup vs) ∧ Ats H vs ds := by simpa [At] using h
    exact ⟨a, vs, rfl, .inr (SqT.of h), z⟩
theorem sq_ix {K : Frg} {H : Hp} {a : Addr} {vs : List V} {i : Nat} {v : V} {Q : VK} (h : SqL K H a vs ∨ SqT K H a vs) (e : vs[i]? = some v) (q : Q v H) : rIx K (.ref a) (.int (i : Int)) H Q := by
  rcases h with h | h
  · exact .inl ⟨a, vs, _, v, rfl, rfl, h, atI_nat e, q⟩
  · exact .inr (.inl ⟨a, vs, _, v, rfl, rfl, h, atI_nat e, q⟩)
theorem D.dep_of {x : D} {ds : List D} (hx : x = .lst ds ∨ x = .tup ds) : x.dep = depL ds + 1 := by
  rcases hx with rfl | rfl <;> rfl
abbrev spNo : Sp := fun _ _ _ _ => False
theorem ok_no {CX : CXT} {k : Nat} {f : Addr} {fd : FuncData} {ps : List Str} : FnOk P w K mg base CX k f fd ps spNo := ⟨fun _ _ _ _ h => h.elim, fun _ _ _ _ _ _ _ _ _ _ _ _ _ h => h.elim⟩
theorem like_one {f : Addr} {fd : FuncData} {k n : Nat} {sp : Sp} (F : Fun K "_law_like" "_law_like" sLike f fd) (b : Binds K fd ["_law_found", "_law_due"] []) (m : mg "_law_like" = some (.ref f)) (T : Bt mg)
    (G : FnOk P w K mg base CX0 k f fd ["_law_found", "_law_due"] sp) (hk : ∀ v u x H Q E, At H v x → At H u x → x.dep + 1 ≤ n → x.fit → Q (.bl true) H → sp [v, u] H Q E) :
    FnOk P w K mg base CX0 (k + 1) f fd ["_law_found", "_law_due"] (spLike K n) := by
  refine F.ok scLike (fun vs H Q E h => ?_) (fun cdv A outer s H vs Q E hr h => ?_)
  · obtain ⟨v, u, x, rfl, _⟩ := h
    rfl
  · obtain ⟨v, u, x, rfl, hv, hu, hn, hfit, q⟩ := h
    refine ⟨_, pss_cons (ps_if (pt_val (pe_callB call_isi (by rfl) T.isinstance (by decide +kernel) (pa_cons (pv 1) (pa_cons (pe_bltn (v := .ty "bool") (by rfl) T.bool (by decide +kernel) rfl) pa_nil))))
        (pss_one (ps_ret (pe_and (pe_callB call_isi (by rfl) T.isinstance (by decide +kernel) (pa_cons (pv 0) (pa_cons (pe_bltn (v := .ty "bool") (by rfl) T.bool (by decide +kernel) rfl) pa_nil))) (pe_one (pe_cmpR op_eq (pv 0) (pv 1) (nomark _)))))) pss_nil)
      (pss_cons (ps_if (pt_val (pe_callB call_isi (by rfl) T.isinstance (by decide +kernel) (pa_cons (pv 1) (pa_cons (pe_bltn (v := .ty "str") (by rfl) T.str (by decide +kernel) rfl) pa_nil))))
        (pss_one (ps_ret (pe_and (pe_callB call_isi (by rfl) T.isinstance (by decide +kernel) (pa_cons (pv 0) (pa_cons (pe_bltn (v := .ty "str") (by rfl) T.str (by decide +kernel) rfl) pa_nil))) (pe_one (pe_cmpR op_eq (pv 0) (pv 1) (nomark _)))))) pss_nil)
      (pss_cons (ps_if (pt_val (pe_callB call_isi (by rfl) T.isinstance (by decide +kernel) (pa_cons (pv 1) (pa_cons (pe_bltn (v := .ty "int") (by rfl) T.int (by decide +kernel) rfl) pa_nil))))
        (pss_one (ps_ret (pe_and (pe_callB call_isi (by rfl) T.isinstance (by decide +kernel) (pa_cons (pv 0) (pa_cons (pe_bltn (v := .ty "int") (by rfl) T.int (by decide +kernel) rfl) pa_nil)))
          (pe_and (pe_not (pe_callB call_isi (by rfl) T.isinstance (by decide +kernel) (pa_cons (pv 0) (pa_cons (pe_bltn (v := .ty "bool") (by rfl) T.bool (by decide +kernel) rfl) pa_nil))))
          (pe_one (pe_cmpR op_eq (pv 0) (pv 1) (nomark _))))))) pss_nil)
      (pss_cons (ps_if (pt_cmpR op_isN (pv 1) pe_non (nomark _)) (pss_one (ps_ret (pe_cmpR op_isN (pv 0) pe_non (nomark _)))) pss_nil)
      (pss_cons (ps_if (PW.pt (pw_or
          (pt_cmpR op_ne (pe_callB call_isi (by rfl) T.isinstance (by decide +kernel) (pa_cons (pv 1) (pa_cons (pe_bltn (v := .ty "tuple") (by rfl) T.tuple (by decide +kernel) rfl) pa_nil))) (pe_callB call_isi (by rfl) T.isinstance (by decide +kernel) (pa_cons (pv 0) (pa_cons (pe_bltn (v := .ty "tuple") (by rfl) T.tuple (by decide +kernel) rfl) pa_nil))) (nomark _))
          (pw_or1 (pt_cmpR op_ne (pe_callB call_isi (by rfl) T.isinstance (by decide +kernel) (pa_cons (pv 1) (pa_cons (pe_bltn (v := .ty "list") (by rfl) T.list (by decide +kernel) rfl) pa_nil))) (pe_callB call_isi (by rfl) T.isinstance (by decide +kernel) (pa_cons (pv 0) (pa_cons (pe_bltn (v := .ty "list") (by rfl) T.list (by decide +kernel) rfl) pa_nil))) (nomark _)))))
        (pss_one (ps_ret pe_bl)) pss_nil)
      (pss_cons (ps_if (pt_cmpR op_ne (pe_callB call_len_seq (by rfl) T.len PySem.boot_len (pa_cons (pv 0) pa_nil)) (pe_callB call_len_seq (by rfl) T.len PySem.boot_len (pa_cons (pv 1) pa_nil)) (nomark _)) (pss_one (ps_ret pe_bl)) pss_nil)
      (pss_cons (ps_for PassesOwn.never rfl (pi_range1 rfl T.range (pa_cons (pe_callB call_len_seq (by rfl) T.len PySem.boot_len (pa_cons (pv 1) pa_nil)) pa_nil)) (pg_name (i := 2) scLike.nd rfl (Or.inl rfl))
        (pss_one (ps_if (pt_not (pt_val (pe_call G hr (by rfl) m F.kp b .nil pass0 (pa_cons (pe_ix ix_seq (pv 0) (pv 2) (fun _ _ => rfl)) (pa_cons (pe_ix ix_seq (pv 1) (pv 2) (fun _ _ => rfl)) pa_nil)))))
          (pss_one (ps_ret pe_bl)) pss_nil)))
      (pss_one (ps_ret pe_bl)))))))), ?_⟩
    have sc : (v = u ∧ (x = .non ∧ u = .non ∨ (∃ b, x = .bl b ∧ u = .bl b) ∨ (∃ i, x = .int i ∧ u = .int i) ∨ ∃ s, x = .str s ∧ u = .str s)) ∨ ∃ ds, x = .lst ds ∨ x = .tup ds := by
      cases x with
      | non =>
        have h1 : v = .non := by simpa [At] using hv
        have h2 : u = .non := by simpa [At] using hu
        exact .inl ⟨h1.trans h2.symm, .inl ⟨rfl, h2⟩⟩
      | bl b =>
        have h1 : v = .bl b := by simpa [At] using hv
        have h2 : u = .bl b := by simpa [At] using hu
        exact .inl ⟨h1.trans h2.symm, .inr (.inl ⟨b, rfl, h2⟩)⟩
      | int i =>
        have h1 : v = .int i := by simpa [At] using hv
        have h2 : u = .int i := by simpa [At] using hu
        exact .inl ⟨h1.trans h2.symm, .inr (.inr (.inl ⟨i, rfl, h2⟩))⟩
      | str s =>
        have h1 : v = .str s := by simpa [At] using hv
        have h2 : u = .str s := by simpa [At] using hu
        exact .inl ⟨h1.trans h2.symm, .inr (.inr (.inr ⟨s, rfl, h2⟩))⟩
      | lst ds => exact .inr ⟨ds, .inl rfl⟩
      | tup ds => exact .inr ⟨ds, .inr rfl⟩
    rcases sc with ⟨rfl, ⟨rfl, rfl⟩ | ⟨bb, rfl, rfl⟩ | ⟨i, rfl, rfl⟩ | ⟨z, rfl, rfl⟩⟩ | ⟨ds, hx⟩
    · refine ⟨_, rfl, _, _, _, _, false, rfl, .ty _, hu.ty, kit_ty (by dsimp only [D.ty]; decide +kernel), _, rfl, iteF ?_⟩
      refine ⟨_, rfl, _, _, _, _, false, rfl, .ty _, hu.ty, kit_ty (by dsimp only [D.ty]; decide +kernel), _, rfl, iteF ?_⟩
      refine ⟨_, rfl, _, _, _, _, false, rfl, .ty _, hu.ty, kit_ty (by dsimp only [D.ty]; decide +kernel), _, rfl, iteF ?_⟩
      exact ⟨_, rfl, rfl, _, rfl, iteT ⟨_, rfl, rfl, q⟩⟩
    · refine ⟨_, rfl, _, _, _, _, true, rfl, .ty _, hu.ty, kit_ty (by dsimp only [D.ty]; decide +kernel), _, rfl, iteT ?_⟩
      refine ⟨_, rfl, _, _, _, _, true, rfl, .ty _, hu.ty, kit_ty (by dsimp only [D.ty]; decide +kernel), _, rfl, iteT ⟨_, rfl, _, rfl, rfl, ?_⟩⟩
      rw [decide_eq_true rfl]; exact q
    · refine ⟨_, rfl, _, _, _, _, false, rfl, .ty _, hu.ty, kit_ty (by dsimp only [D.ty]; decide +kernel), _, rfl, iteF ?_⟩
      refine ⟨_, rfl, _, _, _, _, false, rfl, .ty _, hu.ty, kit_ty (by dsimp only [D.ty]; decide +kernel), _, rfl, iteF ?_⟩
      refine ⟨_, rfl, _, _, _, _, true, rfl, .ty _, hu.ty, kit_ty (by dsimp only [D.ty]; decide +kernel), _, rfl, iteT ?_⟩
      refine ⟨_, rfl, _, _, _, _, true, rfl, .ty _, hu.ty, kit_ty (by dsimp only [D.ty]; decide +kernel), _, rfl, iteT ⟨_, rfl, _, _, _, _, false, rfl, .ty _, hu.ty, kit_ty (by dsimp only [D.ty]; decide +kernel), _, rfl, _, rfl, iteT ⟨_, rfl, _, rfl, rfl, ?_⟩⟩⟩
      rw [decide_eq_true rfl]; exact q
    · refine ⟨_, rfl, _, _, _, _, false, rfl, .ty _, hu.ty, kit_ty (by dsimp only [D.ty]; decide +kernel), _, rfl, iteF ?_⟩
      refine ⟨_, rfl, _, _, _, _, true, rfl, .ty _, hu.ty, kit_ty (by dsimp only [D.ty]; decide +kernel), _, rfl, iteT ?_⟩
      refine ⟨_, rfl, _, _, _, _, true, rfl, .ty _, hu.ty, kit_ty (by dsimp only [D.ty]; decide +kernel), _, rfl, iteT ⟨_, rfl, _, rfl, rfl, ?_⟩⟩
      rw [decide_eq_true rfl]; exact q
    · obtain ⟨a, vs, rfl, ha, hvs⟩ := At.sq (K := K) hx hv
      obtain ⟨c, us, rfl, hc, hus⟩ := At.sq (K := K) hx hu
      have hnn : x.dep = depL ds + 1 := D.dep_of hx
      have hb : kitB x.ty "bool" = some false := by rcases hx with rfl | rfl <;> dsimp only [D.ty] <;> decide +kernel
      have hs : kitB x.ty "str" = some false := by rcases hx with rfl | rfl <;> dsimp only [D.ty] <;> decide +kernel
      have hi : kitB x.ty "int" = some false := by rcases hx with rfl | rfl <;> dsimp only [D.ty] <;> decide +kernel
      obtain ⟨bt, ht⟩ : ∃ bt, kitB x.ty "tuple" = some bt := by
        rcases hx with rfl | rfl
        · exact ⟨false, by dsimp only [D.ty]; decide +kernel⟩
        · exact ⟨true, by dsimp only [D.ty]; decide +kernel⟩
      obtain ⟨bl, hl⟩ : ∃ bl, kitB x.ty "list" = some bl := by
        rcases hx with rfl | rfl
        · exact ⟨true, by dsimp only [D.ty]; decide +kernel⟩
        · exact ⟨false, by dsimp only [D.ty]; decide +kernel⟩
      refine ⟨_, rfl, _, _, _, _, _, rfl, .ty _, hu.ty, kit_ty hb, _, rfl, iteF ?_⟩
      refine ⟨_, rfl, _, _, _, _, _, rfl, .ty _, hu.ty, kit_ty hs, _, rfl, iteF ?_⟩
      refine ⟨_, rfl, _, _, _, _, _, rfl, .ty _, hu.ty, kit_ty hi, _, rfl, iteF ?_⟩
      refine ⟨_, rfl, rfl, _, rfl, iteF ?_⟩
      refine ⟨_, rfl, _, _, _, _, _, rfl, .ty _, hu.ty, kit_ty ht, _, rfl, _, _, _, _, _, rfl, .ty _, hv.ty, kit_ty ht, rfl, _, rfl, ?_⟩
      rw [decide_eq_true rfl]
      refine iteF ⟨_, rfl, _, _, _, _, _, rfl, .ty _, hu.ty, kit_ty hl, _, rfl, _, _, _, _, _, rfl, .ty _, hv.ty, kit_ty hl, rfl, _, rfl, ?_⟩
      rw [decide_eq_true rfl]
      refine iteF ⟨_, rfl, a, _, rfl, ha, _, rfl, c, _, rfl, hc, rfl, _, rfl, ?_⟩
      have hlen : vs.length = us.length := hvs.len.trans hus.len.symm
      rw [hlen, decide_eq_true rfl]
      have hul : us.length < 2 ^ 62 := by
        have z1 := (D.fit_of hx hfit).1
        have z2 := hus.len
        omega
      refine iteF ⟨_, rfl, c, _, rfl, hc, _, rfl, by omega, by omega, ?_⟩
      refine for_range (lo := 0) (n := us.length) (fun i σ H' => H' = H ∧ ∃ z, σ = [some (.ref a), some (.ref c), z]) ⟨rfl, _, rfl⟩ ?_ ?_
      · rintro i σ H' hi ⟨rfl, z, rfl⟩
        have e0 : (0 : Int) + (i : Int) = (i : Int) := Int.zero_add _
        rw [e0]
        obtain ⟨v1, y1, g1, g2, g3⟩ := hvs.get i (by rw [← hus.len]; exact hi)
        obtain ⟨u1, y2, g4, g5, g6⟩ := hus.get i (by rw [← hus.len]; exact hi)
        have ey : y2 = y1 := by rw [g2] at g5; exact (Option.some.inj g5).symm
        subst ey
        refine ⟨_, rfl, _, rfl, sq_ix ha g1 ?_⟩
        refine ⟨_, rfl, _, rfl, sq_ix hc g4 ?_⟩
        refine hk _ _ _ _ _ _ g3 g6 (by have := depL_get g2; omega) (fitL_iff.mp (D.fit_of hx hfit).2 _ (List.mem_of_getElem? g2)) ⟨_, rfl, iteF ⟨rfl, _, rfl⟩⟩
      · rintro σ H' ⟨rfl, z, rfl⟩
        exact q
theorem ok_like {f : Addr} {fd : FuncData} (F : Fun K "_law_like" "_law_like" sLike f fd) (b : Binds K fd ["_law_found", "_law_due"] []) (m : mg "_law_like" = some (.ref f)) (T : Bt mg) :
    ∀ n : Nat, FnOk P w K mg base CX0 (n + 1) f fd ["_law_found", "_law_due"] (spLike K n)
  | 0 => like_one F b m T (ok_no (k := 0)) (fun _ _ _ _ _ _ _ _ h _ _ => by omega)
  | n + 1 => like_one F b m T (ok_like F b m T n) (fun v u x H Q E h1 h2 h3 h4 q => ⟨v, u, x, rfl, h1, h2, by omega, h4, q⟩)
end
end DL
namespace DL
open PySem L2
/-! ### rows -/
inductive Row where
  | load (w n : Nat) | add (w n : Nat) | take (w n : Nat) | store (w n : Nat) | say (n : Nat) | test (a b : Nat) | stop
def rowVs : Row → List V
  | .load w n => [.str "load", .int (w : Int), .int (n : Int)]
  | .add w n => [.str "add", .int (w : Int), .int (n : Int)]
  | .take w n => [.str "take", .int (w : Int), .int (n : Int)]
  | .store w n => [.str "store", .int (w : Int), .int (n : Int)]
  | .say n => [.str "say", .int (n : Int)]
  | .test a b => [.str "test", .int (a : Int), .int (b : Int)]
  | .stop => [.str "stop"]
def Row.ok (W N : Nat) : Row → Prop
  | .load w n => w < W ∧ n < N
  | .add w n => w < W ∧ n < N
  | .take w n => w < W ∧ n < N
  | .store w n => w < W ∧ n < N
  | .say n => n < N
  | .test a b => a < N ∧ b < N
  | .stop => True
def Row.plain : Row → Prop
  | .test _ _ => False
  | .stop => False
  | _ => True
def Row.to (m : Nat) : Row → Row
  | .load w _ => .load w m
  | .add w _ => .add w m
  | .take w _ => .take w m
  | .store w _ => .store w m
  | .say _ => .say m
  | r => r
def isT (r : Row) : Nat := if decide ((rowVs r)[0]? = some (V.str "test")) = true then 1 else 0
def tests (rs : List Row) : Nat := (rs.map isT).sum
theorem isT_le (r : Row) : isT r ≤ 1 := by
  unfold isT
  split <;> decide
theorem isT_plain : ∀ {r : Row}, r.plain → isT r = 0
  | .load _ _, _ => (by decide +kernel : (if decide (some (V.str "load") = some (V.str "test")) = true then 1 else 0) = 0)
  | .add _ _, _ => (by decide +kernel : (if decide (some (V.str "add") = some (V.str "test")) = true then 1 else 0) = 0)
  | .take _ _, _ => (by decide +kernel : (if decide (some (V.str "take") = some (V.str "test")) = true then 1 else 0) = 0)
  | .store _ _, _ => (by decide +kernel : (if decide (some (V.str "store") = some (V.str "test")) = true then 1 else 0) = 0)
  | .say _, _ => (by decide +kernel : (if decide (some (V.str "say") = some (V.str "test")) = true then 1 else 0) = 0)
theorem isT_stop : isT .stop = 0 := (by decide +kernel : (if decide (some (V.str "stop") = some (V.str "test")) = true then 1 else 0) = 0)
theorem isT_to {r : Row} {m : Nat} (p : r.plain) : isT (r.to m) = 0 := by
  cases r <;> first | exact p.elim | exact isT_plain trivial
theorem tests_app : ∀ (a b : List Row), tests (a ++ b) = tests a + tests b
  | [], b => by unfold tests; simp
  | x :: a, b => by
    show isT x + tests (a ++ b) = isT x + tests a + tests b
    rw [tests_app a b]
    omega
theorem tests_cons (x : Row) (a : List Row) : tests (x :: a) = isT x + tests a := rfl
theorem tests_one {r : Row} : tests [r] = isT r := Nat.add_zero _
theorem tests_plain : ∀ {rs : List Row}, (∀ r ∈ rs, r.plain) → tests rs = 0
  | [], _ => rfl
  | x :: rs, h => by
    rw [tests_cons, isT_plain (h x List.mem_cons_self), tests_plain fun r hr => h r (List.mem_cons_of_mem _ hr)]
theorem Row.ok.mono {W N M : Nat} (h : N ≤ M) : ∀ {r : Row}, r.ok W N → r.ok W M := fun {r} k => by
  cases r <;> simp only [Row.ok] at * <;> omega
theorem Row.ok.to {W N m M : Nat} (hm : m < M) : ∀ {r : Row}, r.plain → r.ok W N → (r.to m).ok W M := fun {r} p k => by
  cases r <;> simp only [Row.ok, Row.to, Row.plain] at * <;> omega
theorem Row.vs_to {m : Nat} : ∀ {r : Row}, r.plain → rowVs (r.to m) = (rowVs r).dropLast ++ [V.int (m : Int)] := fun {r} p => by
  cases r <;> first | rfl | exact p.elim
theorem Row.vs_len (r : Row) : 1 ≤ (rowVs r).length ∧ (rowVs r).length ≤ 3 := by cases r <;> simp [rowVs]
def RowsAt (H : Hp) (bs : List Addr) (rs : List Row) : Prop := Paired (fun b r => H b = some (.tup (rowVs r))) bs rs
theorem RowsAt.kp {H H' : Hp} {bs : List Addr} {rs : List Row} (h : RowsAt H bs rs) (k : Kp H H') : RowsAt H' bs rs := Paired.mapP h fun _ _ q => k _ _ q
theorem Paired.app {α β : Type} {F : α → β → Prop} : ∀ {a : List α} {b : List β} {c : List α} {d : List β}, Paired F a b → Paired F c d → Paired F (a ++ c) (b ++ d)
  | _, _, _, _, .nil, h => h
  | _, _, _, _, .cons x t, h => .cons x (Paired.app t h)
theorem Paired.get {α β : Type} {F : α → β → Prop} : ∀ {a : List α} {b : List β} {i : Nat} {x : α}, Paired F a b → a[i]? = some x → ∃ y, b[i]? = some y ∧ F x y
  | _, _, _, _, .nil, e => by simp at e
  | _, _, 0, _, .cons h _, e => by simp at e; subst e; exact ⟨_, rfl, h⟩
  | _, _, i + 1, _, .cons _ t, e => by
    obtain ⟨y, h1, h2⟩ := Paired.get (i := i) t (by simpa using e)
    exact ⟨y, by simpa using h1, h2⟩
theorem Paired.getR {α β : Type} {F : α → β → Prop} : ∀ {a : List α} {b : List β} {i : Nat} {y : β}, Paired F a b → b[i]? = some y → ∃ x, a[i]? = some x ∧ F x y
  | _, _, _, _, .nil, e => by simp at e
  | _, _, 0, _, .cons h _, e => by simp at e; subst e; exact ⟨_, rfl, h⟩
  | _, _, i + 1, _, .cons _ t, e => by
    obtain ⟨y, h1, h2⟩ := Paired.getR (i := i) t (by simpa using e)
    exact ⟨y, by simpa using h1, h2⟩
theorem Paired.one {α β : Type} {F : α → β → Prop} {x : α} {y : β} (h : F x y) : Paired F [x] [y] := .cons h .nil
structure Fd (K : Frg) (mg : Str → Option Value) (x : Str) (st : Stmt) (ps : List Str) where
  f : Addr
  fd : FuncData
  F : Fun K x x st f fd
  b : Binds K fd ps []
  m : mg x = some (.ref f)
abbrev FNext (K : Frg) (mg : Str → Option Value) := Fd K mg "_law_next" sNext ["_law_dice_here", "_law_many"]
abbrev sStraight : Stmt := top 106
abbrev FStraight (K : Frg) (mg : Str → Option Value) := Fd K mg "_law_straight" sStraight ["_law_d", "_law_at"]
def spStraight (K : Frg) : Sp := fun vs H Q _ => ∃ (d sa : Addr) (ns : List Int) (at_ : Nat), vs = [.ref d, .int (at_ : Int)] ∧ Ent K H d sa ns ∧
  ∀ t r H', Dc K H H' d sa ns → H' t = some (.tup (rowVs r)) → r.plain → r.ok 8 (at_ + 2) → Q (.ref t) H'
section
variable {P : Program} {w : World} {K : PySem.W.Frag} {mg : Str → Option Value} {base : Heap}
theorem scStraight : FnScope ["_law_d", "_law_at", "_law_way"] ["_law_d", "_law_at"] (defScope sStraight) := ⟨rfl, rfl, rfl, by decide +kernel, rfl, by decide +kernel, by decide +kernel⟩
theorem ok_straight (c : FStraight K mg) (cN : FNext K mg) (T : Bt mg) : FnOk P w K mg base CX0 2 c.f c.fd ["_law_d", "_law_at"] (spStraight K) := by
  have GN : FnOk P w K mg base CX0 1 cN.f cN.fd ["_law_dice_here", "_law_many"] (spNext K) := ok_next cN.F T
  refine c.F.ok scStraight (fun vs H Q E h => ?_) (fun cdv A outer s H vs Q E hr h => ?_)
  · obtain ⟨d, sa, ns, a, rfl, _⟩ := h
    rfl
  · obtain ⟨d, sa, ns, a, rfl, hE, k⟩ := h
    refine ⟨_, pss_cons (ps_set (i := 2) scStraight.nd rfl (Or.inl rfl) (pe_call GN hr (by rfl) cN.m cN.F.kp cN.b .nil pass0 (pa_cons (pv 0) (pa_cons pe_int pa_nil))))
      (pss_cons (ps_if (pt_cmpR op_eq (pv 2) pe_int (nomark _)) (pss_one (ps_ret (pe_tup (pa_cons pe_str (pa_cons (pe_op op_add (pv 1) pe_int) pa_nil))))) pss_nil)
      (pss_one (ps_ret (pe_tup (pa_cons (pe_ix ix_list (pe_lst (pa_cons pe_str (pa_cons pe_str (pa_cons pe_str (pa_cons pe_str (pa_cons pe_str pa_nil)))))) (pv 2) (fun _ _ => rfl))
        (pa_cons (pe_op op_add pe_int (pe_call GN hr (by rfl) cN.m cN.F.kp cN.b .nil pass0 (pa_cons (pv 0) (pa_cons pe_int pa_nil)))) (pa_cons (pe_op op_add (pv 1) pe_int) pa_nil))))))), ?_⟩
    refine ⟨_, rfl, d, sa, ns, _, rfl, hE, by decide, by decide, fun n H1 n0 n1 C1 => ?_⟩
    refine ⟨_, rfl, rfl, _, rfl, ?_⟩
    refine ite2 (fun e => ?_) (fun e => ?_)
    · refine ⟨_, rfl, _, _, rfl, rfl, (by show 2 ≤ sizeLine; decide), fun t ht => ?_⟩
      refine k t (.say (a + 1)) _ (C1.new ht) (by rw [upd_same]; rfl) trivial (by show a + 1 < a + 2; omega)
    · have n5 : n ≠ 5 := fun q => e (by rw [q]; exact decide_eq_true rfl)
      refine ⟨(by show 5 ≤ sizeLine; decide), fun l hl => ?_⟩
      obtain ⟨j, hj⟩ : ∃ j : Nat, n = (j : Int) := ⟨n.toNat, by omega⟩
      subst hj
      have hj5 : j < 5 := by omega
      obtain ⟨wd, hw⟩ : ∃ wd : Str, ([V.str "load", V.str "add", V.str "take", V.str "store", V.str "add"] : List V)[j]? = some (.str wd) ∧ ∀ x y : Nat, ∃ r : Row, rowVs r = [.str wd, .int (x : Int), .int (y : Int)] ∧ r.plain ∧ (x < 8 → y < a + 2 → r.ok 8 (a + 2)) := by
        match j, hj5 with
        | 0, _ => exact ⟨_, rfl, fun x y => ⟨.load x y, rfl, trivial, fun p q => ⟨p, q⟩⟩⟩
        | 1, _ => exact ⟨_, rfl, fun x y => ⟨.add x y, rfl, trivial, fun p q => ⟨p, q⟩⟩⟩
        | 2, _ => exact ⟨_, rfl, fun x y => ⟨.take x y, rfl, trivial, fun p q => ⟨p, q⟩⟩⟩
        | 3, _ => exact ⟨_, rfl, fun x y => ⟨.store x y, rfl, trivial, fun p q => ⟨p, q⟩⟩⟩
        | 4, _ => exact ⟨_, rfl, fun x y => ⟨.add x y, rfl, trivial, fun p q => ⟨p, q⟩⟩⟩
      have C2 := C1.new (o := .lst [V.str "load", V.str "add", V.str "take", V.str "store", V.str "add"]) hl
      refine ⟨_, rfl, l, _, _, _, rfl, rfl, SqL.of upd_same, atI_nat hw.1, ?_⟩
      refine ⟨_, rfl, d, sa, ns, _, rfl, C2.ent, by decide, by decide, fun m H2 m0 m1 C3 => ?_⟩
      refine ⟨_, _, rfl, rfl, _, rfl, _, _, rfl, rfl, (by show 3 ≤ sizeLine; decide), fun t ht => ?_⟩
      obtain ⟨x, hx⟩ : ∃ x : Nat, (5 : Int) + m = (x : Int) := ⟨(5 + m).toNat, by omega⟩
      obtain ⟨r, r1, r2, r3⟩ := hw.2 x (a + 1)
      refine k t r _ ((C2.trans C3).new ht) ?_ r2 (r3 (by omega) (by omega))
      rw [upd_same, r1, ← hx]
      rfl
end
end DL
namespace DL
open PySem L2
theorem Paired.last {α β : Type} {F : α → β → Prop} {x : α} : ∀ {a : List α} {b : List β}, Paired F (a ++ [x]) b → ∃ b0 y, b = b0 ++ [y] ∧ Paired F a b0 ∧ F x y
  | [], _, .cons h t => by
    cases t
    exact ⟨[], _, rfl, .nil, h⟩
  | c :: a, _, .cons h t => by
    obtain ⟨b0, y, e, h1, h2⟩ := Paired.last (a := a) t
    subst e
    exact ⟨_ :: b0, y, rfl, .cons h h1, h2⟩
theorem snoc_of {α : Type} : ∀ {l : List α}, 1 ≤ l.length → ∃ a x, l = a ++ [x]
  | [], h => by simp at h
  | [x], _ => ⟨[], x, rfl⟩
  | x :: y :: l, _ => by
    obtain ⟨a, z, e⟩ := snoc_of (l := y :: l) (by simp)
    exact ⟨x :: a, z, by rw [e]; rfl⟩
theorem ix_last (n : Nat) : ixN (n + 1) (-1) = some n := by
  unfold ixN
  rw [if_neg (by decide), if_pos (by omega)]
  congr 1
  omega
theorem all_snoc {α : Type} {p : α → Prop} {l : List α} {x : α} (h : ∀ y ∈ l, p y) (hx : p x) : ∀ y ∈ l ++ [x], p y := fun y m => by
  rcases List.mem_append.mp m with q | q
  · exact h y q
  · rw [List.mem_singleton.mp q]; exact hx
theorem all_app {α : Type} {p : α → Prop} {l m : List α} (h : ∀ y ∈ l, p y) (hx : ∀ y ∈ m, p y) : ∀ y ∈ l ++ m, p y := fun y q => by
  rcases List.mem_append.mp q with q | q
  · exact h y q
  · exact hx y q
abbrev sFork : Stmt := top 107
abbrev FFork (K : Frg) (mg : Str → Option Value) := Fd K mg "_law_fork" sFork ["_law_d", "_law_at"]
def spFork (K : Frg) : Sp := fun vs H Q _ => ∃ (d sa : Addr) (ns : List Int) (at_ : Nat), vs = [.ref d, .int (at_ : Int)] ∧ Ent K H d sa ns ∧
  ∀ l bs rs H', Dc K H H' d sa ns → H l = none → H' l = some (.lst (bs.map V.ref)) → RowsAt H' bs rs → 1 ≤ rs.length → rs.length ≤ 6 → 4 * tests rs ≤ rs.length → (∀ r ∈ rs, r.ok 8 (at_ + rs.length + 1)) → Q (.ref l) H'
theorem sIx_neg (n d : Nat) : HT.sIx n d (some (-1)) = ((-1 : Int) + n).toNat := by
  show (if (-1 : Int) < 0 then ((-1 : Int) + (n : Int)).toNat else min (-1 : Int).toNat n) = _
  exact if_pos (by decide)
theorem set_last {α : Type} {l : List α} {x y : α} {n : Nat} (h : l.length = n) : (l ++ [x]).set n y = l ++ [y] := by
  subst h
  rw [List.set_append_right _ _ (Nat.le_refl _), Nat.sub_self]
  rfl
theorem cut_last {xs : List V} (h : 1 ≤ xs.length) : cutV xs none (some (-1)) = xs.dropLast := by
  unfold cutV
  rw [sIx_neg, HT.sIx_none, List.drop_zero, List.dropLast_eq_take, Nat.sub_zero]
  congr 1
  omega
theorem cut_not {xs : List V} (h : 1 ≤ xs.length) : ¬ (HT.sIx xs.length 0 none = 0 ∧ HT.sIx xs.length xs.length (some (-1)) = xs.length) := by
  rintro ⟨_, q⟩
  rw [sIx_neg] at q
  omega
theorem row_ne {r : Row} (p : r.plain) : (rowVs r).dropLast ≠ [] := by
  cases r <;> first | exact p.elim | (intro e; cases e)
def StrAt (K : Frg) (H0 : Hp) (d sa : Addr) (ns : List Int) (D : Addr) (at_ : Nat) (i : Nat) (H : Hp) : Prop :=
  ∃ bs rs, Dc K H0 H d sa ns ∧ H0 D = none ∧ H D = some (.lst (bs.map V.ref)) ∧ RowsAt H bs rs ∧ rs.length = i ∧ ∀ r ∈ rs, r.plain ∧ r.ok 8 (at_ + i + 1)
theorem StrAt.zero {K : Frg} {H0 H : Hp} {d sa : Addr} {ns : List Int} {D : Addr} {a : Nat} (C : Dc K H0 H d sa ns) (hD : H D = none) : StrAt K H0 d sa ns D a 0 (upd H D (.lst [])) :=
  ⟨[], [], C.new hD, C.here hD, upd_same, .nil, rfl, fun _ h => absurd h (by simp)⟩
theorem StrAt.step {K : Frg} {H0 H H' : Hp} {d sa : Addr} {ns : List Int} {D t : Addr} {a i : Nat} {bs : List Addr} {rs : List Row} {r : Row} (C : Dc K H0 H d sa ns) (n0 : H0 D = none) (hD : H D = some (.lst (bs.map V.ref))) (ha : RowsAt H bs rs) (hl : rs.length = i) (hr : ∀ r ∈ rs, r.plain ∧ r.ok 8 (a + i + 1))
    (C2 : Dc K H H' d sa ns) (ht : H' t = some (.tup (rowVs r))) (hp : r.plain) (ho : r.ok 8 (a + i + 2)) :
    H' D = some (.lst (bs.map V.ref)) ∧ StrAt K H0 d sa ns D a (i + 1) (upd H' D (.lst (bs.map V.ref ++ [.ref t]))) := by
  have C3 := C.trans C2
  have hD' : H' D = some (.lst (bs.map V.ref)) := C2.but _ _ (C.ned n0) hD
  refine ⟨hD', bs ++ [t], rs ++ [r], C3.mut n0, n0, by rw [upd_same, List.map_append]; rfl, ?_, by rw [List.length_append, hl]; rfl, ?_⟩
  · exact RowsAt.kp (Paired.app (ha.kp C2.kp) (Paired.one ht)) (Kp.lst hD')
  · refine all_snoc (fun y m => ?_) ⟨hp, by rw [show a + (i + 1) + 1 = a + i + 2 by omega]; exact ho⟩
    exact ⟨(hr y m).1, (hr y m).2.mono (by omega)⟩
section
variable {P : Program} {w : World} {K : PySem.W.Frag} {mg : Str → Option Value} {base : Heap}
abbrev nFork : List Str := ["_law_d", "_law_at", "_law_yes", "_law_begin", "_law_no", "_law_k"]
theorem scFork : FnScope nFork ["_law_d", "_law_at"] (defScope sFork) := ⟨rfl, rfl, rfl, by decide +kernel, rfl, by decide +kernel, by decide +kernel⟩
theorem ok_fork (c : FFork K mg) (cS : FStraight K mg) (cN : FNext K mg) (T : Bt mg) : FnOk P w K mg base CX0 3 c.f c.fd ["_law_d", "_law_at"] (spFork K) := by
  have GN : FnOk P w K mg base CX0 1 cN.f cN.fd ["_law_dice_here", "_law_many"] (spNext K) := ok_next cN.F T
  have GS : FnOk P w K mg base CX0 2 cS.f cS.fd ["_law_d", "_law_at"] (spStraight K) := ok_straight cS cN T
  refine c.F.ok scFork (fun vs H Q E h => ?_) (fun cdv A outer s H vs Q E hr h => ?_)
  · obtain ⟨d, sa, ns, a, rfl, _⟩ := h
    rfl
  · obtain ⟨d, sa, ns, a, rfl, hE, k⟩ := h
    have hr1 : Room 1 _ := hr.mono (by decide)
    refine ⟨_, pss_cons (ps_setLc (i := 2) (own := [("_law_k", 5)]) (g := gName 5) (tt := tYes) rfl scFork.nd rfl rfl (sw_true rfl rfl rfl (by decide +kernel))
        (pi_range1 rfl T.range (pa_cons (pe_op op_add pe_int (pe_call GN hr1 (by rfl) cN.m cN.F.kp cN.b .nil pass0 (pa_cons (pv 0) (pa_cons pe_int pa_nil)))) pa_nil))
        (blkOk_by (N := nFork) (sc := defScope sFork) (by decide +kernel)) (fun _ _ _ _ _ => pg_name (i := 5) scFork.nd rfl (Or.inl rfl)) (fun _ _ _ _ _ => pts_nil)
        (fun _ _ _ _ _ => (pe_call GS hr (by rfl) cS.m cS.F.kp cS.b .nil pass0 (pa_cons (pv 0) (pa_cons (pe_op op_add (pe_op op_add (pv 1) pe_int) (pv 5)) pa_nil)))))
      (pss_cons (ps_set (i := 3) scFork.nd rfl (Or.inr rfl) (pe_op op_add (pe_op op_add (pv 1) pe_int) (pe_callB call_len_seq (by rfl) T.len PySem.boot_len (pa_cons (pv 2) pa_nil))))
      (pss_cons (ps_setLc (i := 4) (own := [("_law_k", 5)]) (g := gName 5) (tt := tYes) rfl scFork.nd rfl rfl (sw_true rfl rfl rfl (by decide +kernel))
        (pi_range1 rfl T.range (pa_cons (pe_op op_add pe_int (pe_call GN hr1 (by rfl) cN.m cN.F.kp cN.b .nil pass0 (pa_cons (pv 0) (pa_cons pe_int pa_nil)))) pa_nil))
        (blkOk_by (N := nFork) (sc := defScope sFork) (by decide +kernel)) (fun _ _ _ _ _ => pg_name (i := 5) scFork.nd rfl (Or.inl rfl)) (fun _ _ _ _ _ => pts_nil)
        (fun _ _ _ _ _ => (pe_call GS hr (by rfl) cS.m cS.F.kp cS.b .nil pass0 (pa_cons (pv 0) (pa_cons (pe_op op_add (pv 3) (pv 5)) pa_nil)))))
      (pss_cons (ps_asg (pe_op op_catT (pe_slice sl_tup (pe_ix ix_list (pv 2) (pe_un un_neg pe_int) (fun _ _ => rfl)) po_none (po_some (pe_un un_neg pe_int)))
          (pe_tup (pa_cons (pe_op op_add (pv 3) (pe_callB call_len_seq (by rfl) T.len PySem.boot_len (pa_cons (pv 4) pa_nil))) pa_nil))) (pg_sub (pv 2) (pe_un un_neg pe_int) set_list))
      (pss_one (ps_ret (pe_op op_cat (pe_op op_cat (pe_lst (pa_cons (pe_tup (pa_cons pe_str (pa_cons (pe_op op_add pe_int (pe_call GN hr1 (by rfl) cN.m cN.F.kp cN.b .nil pass0 (pa_cons (pv 0) (pa_cons pe_int pa_nil)))) (pa_cons (pe_op op_add (pv 1) pe_int) pa_nil))))
        (pa_cons (pe_tup (pa_cons pe_str (pa_cons (pe_op op_add (pv 1) pe_int) (pa_cons (pv 3) pa_nil)))) pa_nil))) (pv 2)) (pv 4))))))), ?_⟩
    refine ⟨_, rfl, d, sa, ns, _, rfl, hE, by decide, by decide, fun n H1 n0 n1 C1 => ?_⟩
    refine ⟨_, _, rfl, rfl, _, rfl, by omega, by omega, fun D1 hD1 => ?_⟩
    refine lc_range (lo := 0) (n := (1 + n).toNat) (StrAt K H d sa ns D1 (a + 2)) (StrAt.zero C1 hD1) ?_ ?_
    · rintro i H2 hi ⟨bs, rs, C2, nD, hD, hR, hl, hr⟩
      refine ⟨rfl, _, rfl, _, rfl, _, _, rfl, rfl, _, rfl, _, _, rfl, rfl, d, sa, ns, a + 2 + i, ?_, C2.ent, fun t r H3 C3 ht hp ho => ?_⟩
      · show [V.ref d, V.int ((a : Int) + 2 + (0 + (i : Int)))] = [V.ref d, V.int ((a + 2 + i : Nat) : Int)]
        rw [show ((a + 2 + i : Nat) : Int) = (a : Int) + 2 + (0 + (i : Int)) by omega]
      · obtain ⟨z1, z2⟩ := StrAt.step C2 nD hD hR hl hr C3 ht hp ho
        exact ⟨_, z1, szl (by have := Paired.length hR; rw [List.length_map]; omega), z2⟩
    · rintro H2 ⟨bs1, rs1, C2, nD1, hD1', hR1, hl1, hr1'⟩
      have lb1 := Paired.length hR1
      refine ⟨_, rfl, _, _, rfl, rfl, _, rfl, D1, _, rfl, .inl (SqL.of hD1'), _, _, rfl, rfl, ?_⟩
      refine ⟨_, rfl, d, sa, ns, _, rfl, C2.ent, by decide, by decide, fun n2 H3 n20 n21 C3 => ?_⟩
      refine ⟨_, _, rfl, rfl, _, rfl, by omega, by omega, fun D2 hD2 => ?_⟩
      have C13 := C2.trans C3
      refine lc_range (lo := 0) (n := (1 + n2).toNat) (fun i H4 => StrAt K H d sa ns D2 (a + 2 + rs1.length) i H4 ∧ D2 ≠ D1 ∧ H4 D1 = some (.lst (bs1.map V.ref)) ∧ RowsAt H4 bs1 rs1) ?_ ?_ ?_
      · have nD12 : D2 ≠ D1 := (ne_of_none (C3.but _ _ (C2.ned nD1) hD1') hD2).symm
        exact ⟨StrAt.zero C13 hD2, nD12, by rw [upd_ne nD12.symm]; exact C3.but _ _ (C2.ned nD1) hD1', (hR1.kp C3.kp).kp (Kp.new hD2)⟩
      · rintro i H4 hi ⟨⟨bs, rs, C4, nD, hD, hR, hl, hr⟩, nD12, h1, hR1⟩
        refine ⟨rfl, _, rfl, _, rfl, _, rfl, _, _, rfl, rfl, d, sa, ns, a + 2 + rs1.length + i, ?_, C4.ent, fun t r H5 C5 ht hp ho => ?_⟩
        · show [V.ref d, V.int ((a : Int) + 2 + (((bs1.map V.ref).length : Nat) : Int) + (0 + (i : Int)))] = [V.ref d, V.int ((a + 2 + rs1.length + i : Nat) : Int)]
          rw [List.length_map, lb1, show ((a + 2 + rs1.length + i : Nat) : Int) = (a : Int) + 2 + (rs1.length : Int) + (0 + (i : Int)) by omega]
        · obtain ⟨z1, z2⟩ := StrAt.step C4 nD hD hR hl hr C5 ht hp ho
          refine ⟨_, z1, szl (by have := Paired.length hR; rw [List.length_map]; omega), z2, nD12, ?_, ?_⟩
          · rw [upd_ne nD12.symm]
            exact C5.but _ _ (C4.ned nD1) h1
          · exact (hR1.kp C5.kp).kp (Kp.lst z1)
      · rintro H4 ⟨⟨bs2, rs2, C4, nD2, hD2', hR2, hl2, hr2⟩, nD12, h1, hR1⟩
        have lb2 := Paired.length hR2
        obtain ⟨bs0, b, e⟩ := snoc_of (l := bs1) (by omega)
        subst e
        obtain ⟨rs0, r, e, hR0, hb⟩ := Paired.last hR1
        subst e
        have hr0 := hr1' r (List.mem_append_right _ List.mem_cons_self)
        have h1 : H4 D1 = some (.lst (bs0.map V.ref ++ [.ref b])) := by rw [List.map_append] at h1; exact h1
        have rl := Row.vs_len r
        refine ⟨_, rfl, _, rfl, D1, _, _, _, rfl, rfl, SqL.of h1, atI_last _ _, _, rfl, _, rfl, b, _, rfl, SqT.of hb, cut_not rl.1, fun p1 hp1 => ?_⟩
        rw [cut_last rl.1]
        refine alloc hp1 fun H5 s5 e5 => ?_
        refine ⟨_, rfl, _, rfl, D2, _, rfl, .inl (SqL.of (s5 _ _ hD2')), _, _, rfl, rfl, (by show 1 ≤ sizeLine; decide), fun p2 hp2 => ?_⟩
        refine alloc hp2 fun H6 s6 e6 => ?_
        have hsz : (rowVs r).dropLast.length + 1 ≤ sizeLine := sz (by rw [List.length_dropLast]; omega)
        refine ⟨p1, p2, _, _, rfl, rfl, SqT.of (s6 _ _ e5), SqT.of e6, row_ne hr0.1, hsz, (fun e => nomatch e), fun _ p3 hp3 => ?_⟩
        refine alloc hp3 fun H7 s7 e7 => ?_
        have S47 := (s5.trans s6).trans s7
        have h17 := S47 _ _ h1
        refine ⟨_, rfl, _, rfl, D1, _, _, bs0.length, rfl, rfl, h17, ?_, ?_⟩
        · rw [List.length_append, List.length_map]
          exact ix_last _
        rw [set_last (by rw [List.length_map])]
        have nD1' : D1 ≠ D2 := nD12.symm
        have C7 := (C4.same S47).mut (o := .lst (bs0.map V.ref ++ [.ref p3])) nD1
        have hp3 : p3 ≠ D1 := ne_of e7 h17 (by intro z; cases z)
        have R7 : RowsAt H7 (bs0 ++ [p3]) (rs0 ++ [r.to (a + 2 + rs0.length + 1 + rs2.length)]) := by
          refine Paired.app (RowsAt.kp hR0 (Kp.same S47)) (Paired.one ?_)
          rw [e7, Row.vs_to hr0.1]
          congr 3
          show [V.int ((a : Int) + 2 + (((bs0 ++ [b]).map V.ref).length : Int) + ((bs2.map V.ref).length : Int))] = _
          rw [List.length_map, List.length_map, lb1, lb2, List.length_append]
          congr 2
        have R72 : RowsAt H7 bs2 rs2 := RowsAt.kp hR2 (Kp.same S47)
        have K7 : Kp H7 (upd H7 D1 (.lst (bs0.map V.ref ++ [.ref p3]))) := Kp.lst h17
        have hD28 : (upd H7 D1 (.lst (bs0.map V.ref ++ [.ref p3]))) D2 = some (.lst (bs2.map V.ref)) := by rw [upd_ne nD12]; exact S47 _ _ hD2'
        revert C7 K7 hD28
        refine change fun H8 b8 e8 => ?_
        intro C8 K8 hD28
        have R8 := R7.kp K8
        have R82 := R72.kp K8
        refine ⟨_, rfl, d, sa, ns, _, rfl, C8.ent, by decide, by decide, fun m H9 m0 m1 C9 => ?_⟩
        refine ⟨_, _, rfl, rfl, _, rfl, _, _, rfl, rfl, (by show 3 ≤ sizeLine; decide), fun t1 ht1 => ?_⟩
        refine alloc ht1 fun H10 s10 e10 => ?_
        refine ⟨_, rfl, _, _, rfl, rfl, _, rfl, (by show 3 ≤ sizeLine; decide), fun t2 ht2 => ?_⟩
        refine alloc ht2 fun H11 s11 e11 => ?_
        refine ⟨(by show 2 ≤ sizeLine; decide), fun l1 hl1n => ?_⟩
        refine alloc hl1n fun H12 s12 e12 => ?_
        have S9 := (s10.trans s11).trans s12
        have g1 : H12 D1 = some (.lst (bs0.map V.ref ++ [.ref p3])) := S9 _ _ (C9.but _ _ (C8.ned nD1) e8)
        have g2 : H12 D2 = some (.lst (bs2.map V.ref)) := S9 _ _ (C9.but _ _ (C8.ned nD2) hD28)
        have C12 := (C8.trans C9).same S9
        refine ⟨_, rfl, l1, D1, _, _, rfl, rfl, e12, g1, ?_, fun l2 hl2n => ?_⟩
        · refine sz ?_
          rw [List.length_append, List.length_map]
          have z1 := Paired.length hR0
          rw [List.length_append] at hl1
          show 2 + (bs0.length + 1) ≤ 100000
          simp only [List.length_singleton] at hl1
          omega
        refine alloc hl2n fun H13 s13 e13 => ?_
        refine ⟨_, rfl, l2, D2, _, _, rfl, rfl, e13, s13 _ _ g2, ?_, fun l3 hl3n => ?_⟩
        · refine sz ?_
          rw [List.length_append, List.length_append, List.length_map, List.length_map]
          have z1 := Paired.length hR0
          rw [List.length_append] at hl1
          show 2 + (bs0.length + 1) + bs2.length ≤ 100000
          simp only [List.length_singleton] at hl1
          omega
        have C13' := C12.same s13
        have K13 : Kp H8 H13 := (C9.kp.trans (Kp.same S9)).trans (Kp.same s13)
        have rl0 := Paired.length hR0
        have hlen1 : rs0.length + 1 = (1 + n).toNat := by rw [← hl1, List.length_append]; rfl
        obtain ⟨x, hx⟩ : ∃ x : Nat, (5 : Int) + m = (x : Int) := ⟨(5 + m).toNat, by omega⟩
        have hm8 : x < 8 := by omega
        refine k l3 (t1 :: t2 :: (bs0 ++ [p3]) ++ bs2) (.load x (a + 1) :: .test (a + 2) (a + 2 + rs0.length + 1) :: (rs0 ++ [r.to (a + 2 + rs0.length + 1 + rs2.length)]) ++ rs2) _ (C13'.new hl3n) (C13'.here hl3n) ?_ ?_ ?_ ?_ ?_ ?_
        · rw [upd_same]
          simp only [List.map_append, List.map_cons, List.map_nil]
          rfl
        · refine RowsAt.kp ?_ (Kp.new hl3n)
          refine Paired.app (.cons ?_ (.cons ?_ (R8.kp K13))) (R82.kp K13)
          · refine (s11.trans (s12.trans s13)) _ _ (e10.trans ?_)
            show some (HO.tup [V.str "load", V.int (5 + m), V.int ((a : Int) + 1)]) = some (.tup [V.str "load", V.int (x : Int), V.int ((a + 1 : Nat) : Int)])
            rw [hx]
            rfl
          · refine (s12.trans s13) _ _ (e11.trans ?_)
            show some (HO.tup [V.str "test", V.int ((a : Int) + 2), V.int ((a : Int) + 2 + (((bs0 ++ [b]).map V.ref).length : Int))]) = some (.tup [V.str "test", V.int ((a + 2 : Nat) : Int), V.int ((a + 2 + rs0.length + 1 : Nat) : Int)])
            rw [List.length_map, List.length_append, rl0]
            rfl
        · simp
        · simp only [List.length_append, List.length_cons, List.length_nil]
          omega
        · have t2 : tests rs2 = 0 := tests_plain fun y hy => (hr2 y hy).1
          have t0 : tests rs0 = 0 := tests_plain fun y hy => (hr1' y (List.mem_append_left _ hy)).1
          have t1 := isT_le (.test (a + 2) (a + 2 + rs0.length + 1))
          have tl : isT (.load x (a + 1)) = 0 := isT_plain trivial
          have tr := isT_to (m := a + 2 + rs0.length + 1 + rs2.length) hr0.1
          rw [List.cons_append, List.cons_append, tests_cons, tests_cons, tests_app, tests_app, tests_one, t2, t0, tl, tr]
          simp only [List.length_append, List.length_cons, List.length_nil]
          omega
        · have hL : (Row.load x (a + 1) :: .test (a + 2) (a + 2 + rs0.length + 1) :: (rs0 ++ [r.to (a + 2 + rs0.length + 1 + rs2.length)]) ++ rs2).length = rs0.length + rs2.length + 3 := by
            simp only [List.length_append, List.length_cons, List.length_nil]
            omega
          rw [hL]
          intro y hy
          rcases List.mem_append.mp hy with hy | hy
          · rcases List.mem_cons.mp hy with rfl | hy
            · exact ⟨hm8, by omega⟩
            · rcases List.mem_cons.mp hy with rfl | hy
              · exact ⟨by omega, by omega⟩
              · rcases List.mem_append.mp hy with hy | hy
                · exact (hr1' y (List.mem_append_left _ hy)).2.mono (by omega)
                · rw [List.mem_singleton.mp hy]
                  exact hr0.2.to (by omega) hr0.1
          · refine (hr2 y hy).2.mono ?_
            rw [List.length_append, List.length_singleton]
            omega
end
end DL
namespace DL
open PySem L2
theorem if_elim {c : TT} {t u : TS} {D : Ends} {σ : St} {H : Hp} (R : Bool → Hp → Prop) (key : ∀ b H', R b H' → if b = true then t D σ H' else u D σ H') (test : ∀ F' : Bool → Hp → Prop, (∀ b H', R b H' → F' b H') → c σ H F') : tIfS c t u D σ H := test _ key
def PB : Nat → Nat
  | 0 => 6
  | n + 1 => 6 + 3 * PB n
abbrev sBody : Stmt := top 108
abbrev pBody : List Str := ["_law_d", "_law_at", "_law_deep"]
abbrev FBody (K : Frg) (mg : Str → Option Value) := Fd K mg "_law_body" sBody pBody
def spBody (K : Frg) (n : Nat) : Sp := fun vs H Q _ => ∃ (d sa : Addr) (ns : List Int) (at_ : Nat), vs = [.ref d, .int (at_ : Int), .int (n : Int)] ∧ n ≤ 2 ∧ Ent K H d sa ns ∧
  ∀ l bs rs H', Dc K H H' d sa ns → H l = none → H' l = some (.lst (bs.map V.ref)) → RowsAt H' bs rs → rs.length ≤ 3 * PB n → 4 * tests rs ≤ rs.length → (∀ r ∈ rs, r.ok 8 (at_ + rs.length + 1)) → Q (.ref l) H'
def BodyAt (K : Frg) (H0 : Hp) (d sa : Addr) (ns : List Int) (l : Addr) (at_ : Nat) (z : Nat) (H : Hp) : Prop :=
  ∃ bs rs, Dc K H0 H d sa ns ∧ H0 l = none ∧ H l = some (.lst (bs.map V.ref)) ∧ RowsAt H bs rs ∧ rs.length ≤ z ∧ 4 * tests rs ≤ rs.length ∧ ∀ r ∈ rs, r.ok 8 (at_ + rs.length + 1)
theorem BodyAt.after {K : Frg} {H0 H H' : Hp} {d sa : Addr} {ns : List Int} {l : Addr} {a z : Nat} (h : BodyAt K H0 d sa ns l a z H) (C : Dc K H H' d sa ns) : BodyAt K H0 d sa ns l a z H' := by
  obtain ⟨bs, rs, C0, n0, hl, hR, hz, hT, ho⟩ := h
  exact ⟨bs, rs, C0.trans C, n0, C.but _ _ (C0.ned n0) hl, hR.kp C.kp, hz, hT, ho⟩
theorem PB_le : ∀ {n : Nat}, n ≤ 2 → PB n ≤ 78
  | 0, _ => by decide
  | 1, _ => by decide
  | 2, _ => by decide
section
variable {P : Program} {w : World} {K : PySem.W.Frag} {mg : Str → Option Value} {base : Heap}
abbrev nBody : List Str := ["_law_d", "_law_at", "_law_deep", "_law_found", "_law_turn", "_law_here", "_law_way", "_law_inner", "_law_behind"]
theorem scBody : FnScope nBody pBody (defScope sBody) := ⟨rfl, rfl, rfl, by decide +kernel, rfl, by decide +kernel, by decide +kernel⟩
theorem body_one {k n : Nat} {sp : Sp} (cBody : FBody K mg) (cFork : FFork K mg) (cStraight : FStraight K mg) (cNext : FNext K mg) (T : Bt mg) (h3 : 3 ≤ k) (GBody : FnOk P w K mg base CX0 k cBody.f cBody.fd pBody sp) (hk : 0 < n → ∀ vs H Q E, spBody K (n - 1) vs H Q E → sp vs H Q E) :
    FnOk P w K mg base CX0 (k + 1) cBody.f cBody.fd pBody (spBody K n) := by
  have GNext : FnOk P w K mg base CX0 1 cNext.f cNext.fd ["_law_dice_here", "_law_many"] (spNext K) := ok_next cNext.F T
  have GStraight : FnOk P w K mg base CX0 2 cStraight.f cStraight.fd ["_law_d", "_law_at"] (spStraight K) := ok_straight cStraight cNext T
  have GFork : FnOk P w K mg base CX0 3 cFork.f cFork.fd ["_law_d", "_law_at"] (spFork K) := ok_fork cFork cStraight cNext T
  refine cBody.F.ok scBody (fun vs H Q E h => ?_) (fun cdv A outer s H vs Q E hr h => ?_)
  · obtain ⟨d, sa, ns, a, rfl, _⟩ := h
    rfl
  · obtain ⟨d, sa, ns, a, rfl, n2, hE, kq⟩ := h
    refine ⟨_, (pss_cons (ps_set (i := 3) scBody.nd rfl (Or.inl rfl) (pe_lst pa_nil))
      (pss_cons (ps_for PassesOwn.never rfl (pi_range1 rfl T.range (pa_cons (pe_op op_add pe_int (pe_call GNext (hr.mono (by first | omega | decide)) (by rfl) cNext.m cNext.F.kp cNext.b .nil pass0 (pa_cons (pv 0) (pa_cons pe_int pa_nil)))) pa_nil)) (pg_name (i := 4) scBody.nd rfl (Or.inl rfl))
          (pss_cons (ps_set (i := 5) scBody.nd rfl (Or.inl rfl) (pe_op op_add (pv 1) (pe_callB call_len_seq (by rfl) T.len PySem.boot_len (pa_cons (pv 3) pa_nil))))
          (pss_cons (ps_set (i := 6) scBody.nd rfl (Or.inl rfl) (pe_call GNext (hr.mono (by first | omega | decide)) (by rfl) cNext.m cNext.F.kp cNext.b .nil pass0 (pa_cons (pv 0) (pa_cons pe_int pa_nil))))
          (pss_one (ps_if (PW.pt (pw_or (pt_cmpR op_lt (pv 6) pe_int (nomark _)) (pw_or1 (PW.pt (pw_and (pt_cmpR op_eq (pv 6) pe_int (nomark _)) (pw_and (pt_cmpR op_lt (pv 2) pe_int (nomark _)) (pw_and1 (pt_cmpR op_eq (pe_call GNext (hr.mono (by first | omega | decide)) (by rfl) cNext.m cNext.F.kp cNext.b .nil pass0 (pa_cons (pv 0) (pa_cons pe_int pa_nil))) pe_int (nomark _)))))))))
              (pss_one (ps_expr (pe_bm PySem.F.plainAttrs_list PySem.F.slot_list_append PySem.F.type_list_append mt_append (pv 3) (pa_cons (pe_call GStraight (hr.mono (by first | omega | decide)) (by rfl) cStraight.m cStraight.F.kp cStraight.b .nil pass0 (pa_cons (pv 0) (pa_cons (pv 5) pa_nil))) pa_nil))))
              (pss_one (ps_if (pt_cmpR op_eq (pv 6) pe_int (nomark _))
                  (pss_one (ps_set (i := 3) scBody.nd rfl (Or.inl rfl) (pe_op op_cat (pv 3) (pe_call GFork (hr.mono (by first | omega | decide)) (by rfl) cFork.m cFork.F.kp cFork.b .nil pass0 (pa_cons (pv 0) (pa_cons (pv 5) pa_nil))))))
                  (pss_one (ps_if (pt_cmpR op_gt (pv 2) pe_int (nomark _))
                      (pss_cons (ps_set (i := 7) scBody.nd rfl (Or.inl rfl) (pe_call GBody (hr.mono (by first | omega | decide)) (by rfl) cBody.m cBody.F.kp cBody.b .nil pass0 (pa_cons (pv 0) (pa_cons (pe_op op_add (pv 5) pe_int) (pa_cons (pe_op op_sub (pv 2) pe_int) pa_nil)))))
                      (pss_cons (ps_set (i := 8) scBody.nd rfl (Or.inl rfl) (pe_op op_add (pe_op op_add (pv 5) pe_int) (pe_callB call_len_seq (by rfl) T.len PySem.boot_len (pa_cons (pv 7) pa_nil))))
                      (pss_cons (ps_set (i := 3) scBody.nd rfl (Or.inl rfl) (pe_op op_cat (pe_op op_cat (pv 3) (pe_lst (pa_cons (pe_tup (pa_cons pe_str (pa_cons (pv 2) (pa_cons (pe_op op_add (pv 5) pe_int) pa_nil)))) (pa_cons (pe_tup (pa_cons pe_str (pa_cons (pe_op op_add pe_int (pv 2)) (pa_cons (pe_op op_add (pv 5) pe_int) pa_nil)))) pa_nil)))) (pv 7)))
                      (pss_cons (ps_set (i := 3) scBody.nd rfl (Or.inl rfl) (pe_op op_cat (pv 3) (pe_lst (pa_cons (pe_tup (pa_cons pe_str (pa_cons (pe_op op_add pe_int (pv 2)) (pa_cons (pe_op op_add (pv 8) pe_int) pa_nil)))) (pa_cons (pe_tup (pa_cons pe_str (pa_cons pe_int (pa_cons (pe_op op_add (pv 8) pe_int) pa_nil)))) (pa_cons (pe_tup (pa_cons pe_str (pa_cons (pe_op op_add pe_int (pv 2)) (pa_cons (pe_op op_add (pv 8) pe_int) pa_nil)))) pa_nil))))))
                      (pss_one (ps_expr (pe_bm PySem.F.plainAttrs_list PySem.F.slot_list_append PySem.F.type_list_append mt_append (pv 3) (pa_cons (pe_tup (pa_cons pe_str (pa_cons (pe_op op_add (pv 8) pe_int) (pa_cons (pe_op op_add (pv 5) pe_int) pa_nil)))) pa_nil))))))))
                      pss_nil)))))))))
      (pss_one (ps_ret (pv 3))))), ?_⟩
    refine ⟨Nat.zero_le _, fun l0 hl0 => ?_⟩
    have B0 : BodyAt K H d sa ns l0 a 0 (upd H l0 (.lst [])) := ⟨[], [], (Dc.refl hE).new hl0, hl0, upd_same, .nil, Nat.le_refl _, Nat.le_refl 0, fun _ h => absurd h (by simp)⟩
    have C0 : Dc K H (upd H l0 (.lst [])) d sa ns := (Dc.refl hE).new hl0
    refine ⟨_, rfl, d, sa, ns, _, rfl, C0.ent, by decide, by decide, fun n3 H1 n30 n31 C1 => ?_⟩
    refine ⟨_, _, rfl, rfl, _, rfl, by omega, by omega, ?_⟩
    refine for_range (lo := 0) (n := (1 + n3).toNat) (fun i σ H' => ∃ (l : Addr) (x4 x5 x6 x7 x8 : Option V), σ = [some (.ref d), some (.int (a : Int)), some (.int (n : Int)), some (.ref l), x4, x5, x6, x7, x8] ∧ BodyAt K H d sa ns l a (i * PB n) H')
      ⟨l0, _, _, _, _, _, rfl, by rw [Nat.zero_mul]; exact B0.after C1⟩ ?_ ?_
    · rintro i σ H2 hi ⟨l, x4, x5, x6, x7, x8, rfl, bs, rs, C2, l0, hl, hR, hz, hT, ho⟩
      have hbl := Paired.length hR
      refine ⟨_, rfl, _, rfl, l, _, rfl, .inl (SqL.of hl), _, _, rfl, rfl, ?_⟩
      refine ⟨_, rfl, d, sa, ns, _, rfl, C2.ent, by decide, by decide, fun n6 H3 n60 n61 C3 => ?_⟩
      dsimp only [gName]
      refine if_elim (fun _ H4 => Dc K H2 H4 d sa ns) ?_ ?_
      · intro bb H4 C4
        have C24 := C2.trans C4
        have hl4 := C4.but _ _ (C2.ned l0) hl
        have hR4 := hR.kp C4.kp
        have hh : (a : Int) + ((bs.map V.ref).length : Int) = ((a + rs.length : Nat) : Int) := by rw [List.length_map, hbl]; rfl
        have hm : (i + 1) * PB n = i * PB n + PB n := Nat.succ_mul _ _
        have hp6 : 6 ≤ PB n := by cases n with
          | zero => exact Nat.le_refl _
          | succ n => show 6 ≤ 6 + 3 * PB n; omega
        have hi3 : i < 3 := by omega
        have hbig : i * PB n ≤ 300 := by
          have h1 := PB_le n2
          have h2 := Nat.mul_le_mul (show i ≤ 3 by omega) h1
          omega
        cases bb with
        | true =>
          refine ⟨_, rfl, .inl ⟨rfl, _, SqL.of hl4⟩, _, rfl, _, rfl, d, sa, ns, a + rs.length, ?_, C24.ent, fun t r H5 C5 ht hp ho5 => ?_⟩
          · show [V.ref d, V.int ((a : Int) + ((bs.map V.ref).length : Int))] = _
            rw [hh]
          · have hl5 := C5.but _ _ (C24.ned l0) hl4
            refine ⟨l, _, _, rfl, rfl, hl5, szl (by rw [List.length_map]; omega), ?_⟩
            refine ⟨l, _, _, _, _, _, rfl, bs ++ [t], rs ++ [r], (C24.trans C5).mut l0, l0, by rw [upd_same, List.map_append]; rfl, ?_, by rw [List.length_append, List.length_singleton]; omega, by rw [tests_app, tests_one, isT_plain hp, List.length_append, List.length_singleton]; omega, ?_⟩
            · exact RowsAt.kp (Paired.app (hR4.kp C5.kp) (Paired.one ht)) (Kp.lst hl5)
            · rw [List.length_append, List.length_singleton]
              exact all_snoc (fun y m => (ho y m).mono (by omega)) (ho5.mono (by omega))
        | false =>
          refine ⟨_, rfl, rfl, _, rfl, ite2 (fun _ => ?_) (fun _ => ?_)⟩
          · refine ⟨_, rfl, _, rfl, _, rfl, d, sa, ns, a + rs.length, ?_, C24.ent, fun l2 bs2 rs2 H5 C5 nl2 hl2 hR2 h21 h26 hT2 ho2 => ?_⟩
            · show [V.ref d, V.int ((a : Int) + ((bs.map V.ref).length : Int))] = _
              rw [hh]
            · have hl5 := C5.but _ _ (C24.ned l0) hl4
              have hb2 := Paired.length hR2
              refine ⟨l, l2, _, _, rfl, rfl, hl5, hl2, sz (by rw [List.length_map, List.length_map]; omega), fun l3 hl3 => ?_⟩
              refine ⟨l3, _, _, _, _, _, rfl, bs ++ bs2, rs ++ rs2, (C24.trans C5).new hl3, (C24.trans C5).here hl3, by rw [upd_same, List.map_append], ?_, by rw [List.length_append]; omega, by rw [tests_app, List.length_append]; omega, ?_⟩
              · exact RowsAt.kp (Paired.app (hR4.kp C5.kp) hR2) (Kp.new hl3)
              · rw [List.length_append]
                exact all_app (fun y m => (ho y m).mono (by omega)) (fun y m => (ho2 y m).mono (by omega))
          · refine ⟨_, rfl, _, _, rfl, rfl, _, rfl, ite2 (fun c => ?_) (fun _ => ?_)⟩
            · have hn0 : 0 < n := by
                have c := of_decide_eq_true c
                omega
              have hPn : PB n = 6 + 3 * PB (n - 1) := by
                obtain ⟨n', e⟩ : ∃ n', n = n' + 1 := ⟨n - 1, by omega⟩
                subst e
                rfl
              have hP1 := PB_le (n := n - 1) (by omega)
              refine ⟨_, rfl, _, rfl, _, _, rfl, rfl, _, rfl, _, _, rfl, rfl, ?_⟩
              refine hk hn0 _ _ _ _ ⟨d, sa, ns, a + rs.length + 2, ?_, by omega, C24.ent, fun li bsi rsi H5 C5 nli hli hRi hzi hTi hoi => ?_⟩
              · show [V.ref d, V.int ((a : Int) + ((bs.map V.ref).length : Int) + 2), V.int ((n : Int) - 1)] = [V.ref d, V.int ((a + rs.length + 2 : Nat) : Int), V.int ((n - 1 : Nat) : Int)]
                rw [hh, show ((n - 1 : Nat) : Int) = (n : Int) - 1 by omega]
                rfl
              · have hl5 := C5.but _ _ (C24.ned l0) hl4
                have hR5 := hR4.kp C5.kp
                have hbi := Paired.length hRi
                have C25 := C24.trans C5
                have nlli : l ≠ li := ne_of_none hl4 nli
                refine ⟨_, rfl, _, _, rfl, rfl, _, rfl, li, _, rfl, .inl (SqL.of hli), _, _, rfl, rfl, ?_⟩
                refine ⟨_, rfl, _, rfl, _, rfl, _, _, rfl, rfl, (by show 3 ≤ sizeLine; decide), fun t1 ht1 => ?_⟩
                refine alloc ht1 fun H6 s6 e6 => ?_
                refine ⟨_, rfl, _, _, rfl, rfl, _, rfl, _, _, rfl, rfl, (by show 3 ≤ sizeLine; decide), fun t2 ht2 => ?_⟩
                refine alloc ht2 fun H7 s7 e7 => ?_
                refine ⟨(by show 2 ≤ sizeLine; decide), fun l6 hl6 => ?_⟩
                refine alloc hl6 fun H8 s8 e8 => ?_
                have S58 := (s6.trans s7).trans s8
                refine ⟨l, l6, _, _, rfl, rfl, S58 _ _ hl5, e8, sz (by rw [List.length_map]; show _ + 2 ≤ _; omega), fun l7 hl7 => ?_⟩
                refine alloc hl7 fun H9 s9 e9 => ?_
                refine ⟨_, rfl, l7, li, _, _, rfl, rfl, e9, (S58.trans s9) _ _ hli, sz (by rw [List.length_append, List.length_map, List.length_map]; show _ + 2 + _ ≤ _; omega), fun l8 hl8 => ?_⟩
                refine alloc hl8 fun H10 s10 e10 => ?_
                refine ⟨_, rfl, _, rfl, _, _, rfl, rfl, _, rfl, _, _, rfl, rfl, (by show 3 ≤ sizeLine; decide), fun t3 ht3 => ?_⟩
                refine alloc ht3 fun H11 s11 e11 => ?_
                refine ⟨_, rfl, _, _, rfl, rfl, (by show 3 ≤ sizeLine; decide), fun t4 ht4 => ?_⟩
                refine alloc ht4 fun H12 s12 e12 => ?_
                refine ⟨_, rfl, _, _, rfl, rfl, _, rfl, _, _, rfl, rfl, (by show 3 ≤ sizeLine; decide), fun t5 ht5 => ?_⟩
                refine alloc ht5 fun H13 s13 e13 => ?_
                refine ⟨(by show 3 ≤ sizeLine; decide), fun l9 hl9 => ?_⟩
                refine alloc hl9 fun H14 s14 e14 => ?_
                have S1014 := ((s11.trans s12).trans s13).trans s14
                refine ⟨l8, l9, _, _, rfl, rfl, S1014 _ _ e10, e14, sz (by rw [List.length_append, List.length_append, List.length_map, List.length_map]; show _ + 2 + _ + 3 ≤ _; omega), fun l10 hl10 => ?_⟩
                refine alloc hl10 fun H15 s15 e15 => ?_
                refine ⟨_, rfl, .inl ⟨rfl, _, SqL.of e15⟩, _, rfl, _, _, rfl, rfl, _, rfl, _, _, rfl, rfl, (by show 3 ≤ sizeLine; decide), fun t6 ht6 => ?_⟩
                refine alloc ht6 fun H16 s16 e16 => ?_
                have S516 := (((S58.trans s9).trans s10).trans S1014).trans (s15.trans s16)
                have C26 := C25.same S516
                have n10 : H l10 = none := C25.here ((((S58.trans s9).trans s10).trans S1014).free hl10)
                have f10 : H16 l10 = some (.lst (((bs.map V.ref ++ [.ref t1, .ref t2]) ++ bsi.map V.ref) ++ [.ref t3, .ref t4, .ref t5])) := s16 _ _ e15
                refine ⟨l10, _, _, rfl, rfl, f10, szl (by simp only [List.length_append, List.length_map, List.length_cons, List.length_nil]; omega), ?_⟩
                refine ⟨l10, _, _, _, _, _, rfl, ((bs ++ [t1, t2]) ++ bsi) ++ ([t3, t4, t5] ++ [t6]),
                  ((rs ++ [Row.load n (a + rs.length + 1), .store (2 + n) (a + rs.length + 2)]) ++ rsi) ++ ([Row.load (2 + n) (a + rs.length + 2 + rsi.length + 1), .take 0 (a + rs.length + 2 + rsi.length + 2), .store (2 + n) (a + rs.length + 2 + rsi.length + 3)] ++ [Row.test (a + rs.length + 2 + rsi.length + 4) (a + rs.length + 2)]),
                  C26.mut n10, n10, ?_, ?_, ?_, ?_, ?_⟩
                · rw [upd_same]
                  simp only [List.map_append, List.map_cons, List.map_nil, List.append_assoc]
                · refine RowsAt.kp ?_ (Kp.lst f10)
                  have hbe : (a : Int) + ((bs.map V.ref).length : Int) + 2 + ((bsi.map V.ref).length : Int) = ((a + rs.length + 2 + rsi.length : Nat) : Int) := by rw [hh, List.length_map, hbi]; rfl
                  refine Paired.app (Paired.app (Paired.app (hR5.kp (Kp.same S516)) (.cons ?_ (.cons ?_ .nil))) (hRi.kp (Kp.same S516))) (Paired.app (.cons ?_ (.cons ?_ (.cons ?_ .nil))) (Paired.one ?_))
                  · refine (s7.trans (s8.trans (s9.trans (s10.trans (S1014.trans (s15.trans s16)))))) _ _ (e6.trans ?_)
                    show some (HO.tup [V.str "load", V.int (n : Int), V.int ((a : Int) + ((bs.map V.ref).length : Int) + 1)]) = _
                    rw [hh]
                    rfl
                  · refine (s8.trans (s9.trans (s10.trans (S1014.trans (s15.trans s16))))) _ _ (e7.trans ?_)
                    show some (HO.tup [V.str "store", V.int (2 + (n : Int)), V.int ((a : Int) + ((bs.map V.ref).length : Int) + 2)]) = _
                    rw [hh, show (2 : Int) + (n : Int) = ((2 + n : Nat) : Int) by omega]
                    rfl
                  · refine (s12.trans (s13.trans (s14.trans (s15.trans s16)))) _ _ (e11.trans ?_)
                    show some (HO.tup [V.str "load", V.int (2 + (n : Int)), V.int ((a : Int) + ((bs.map V.ref).length : Int) + 2 + ((bsi.map V.ref).length : Int) + 1)]) = _
                    rw [hbe, show (2 : Int) + (n : Int) = ((2 + n : Nat) : Int) by omega]
                    rfl
                  · refine (s13.trans (s14.trans (s15.trans s16))) _ _ (e12.trans ?_)
                    show some (HO.tup [V.str "take", V.int 0, V.int ((a : Int) + ((bs.map V.ref).length : Int) + 2 + ((bsi.map V.ref).length : Int) + 2)]) = _
                    rw [hbe]
                    rfl
                  · refine (s14.trans (s15.trans s16)) _ _ (e13.trans ?_)
                    show some (HO.tup [V.str "store", V.int (2 + (n : Int)), V.int ((a : Int) + ((bs.map V.ref).length : Int) + 2 + ((bsi.map V.ref).length : Int) + 3)]) = _
                    rw [hbe, show (2 : Int) + (n : Int) = ((2 + n : Nat) : Int) by omega]
                    rfl
                  · refine e16.trans ?_
                    show some (HO.tup [V.str "test", V.int ((a : Int) + ((bs.map V.ref).length : Int) + 2 + ((bsi.map V.ref).length : Int) + 4), V.int ((a : Int) + ((bs.map V.ref).length : Int) + 2)]) = _
                    rw [hbe, hh]
                    rfl
                · simp only [List.length_append, List.length_cons, List.length_nil]
                  omega
                · have t1 := isT_le (.test (a + rs.length + 2 + rsi.length + 4) (a + rs.length + 2))
                  have q1 : isT (.load n (a + rs.length + 1)) = 0 := isT_plain trivial
                  have q2 : isT (.store (2 + n) (a + rs.length + 2)) = 0 := isT_plain trivial
                  have q3 : isT (.load (2 + n) (a + rs.length + 2 + rsi.length + 1)) = 0 := isT_plain trivial
                  have q4 : isT (.take 0 (a + rs.length + 2 + rsi.length + 2)) = 0 := isT_plain trivial
                  have q5 : isT (.store (2 + n) (a + rs.length + 2 + rsi.length + 3)) = 0 := isT_plain trivial
                  simp only [tests_app, tests_cons, tests_one, show tests [] = 0 from rfl, q1, q2, q3, q4, q5, List.length_append, List.length_cons, List.length_nil]
                  omega
                · have hL : (((rs ++ [Row.load n (a + rs.length + 1), .store (2 + n) (a + rs.length + 2)]) ++ rsi) ++ ([Row.load (2 + n) (a + rs.length + 2 + rsi.length + 1), .take 0 (a + rs.length + 2 + rsi.length + 2), .store (2 + n) (a + rs.length + 2 + rsi.length + 3)] ++ [Row.test (a + rs.length + 2 + rsi.length + 4) (a + rs.length + 2)])).length = rs.length + rsi.length + 6 := by
                    simp only [List.length_append, List.length_cons, List.length_nil]
                    omega
                  rw [hL]
                  refine all_app (all_app (all_app (fun y m => (ho y m).mono (by omega)) ?_) (fun y m => (hoi y m).mono (by omega))) (all_app ?_ ?_)
                  all_goals
                    intro y m
                    simp only [List.mem_cons, List.mem_singleton, List.not_mem_nil, or_false] at m
                    first
                      | (rcases m with rfl | rfl | rfl <;> (simp only [Row.ok]; omega))
                      | (rcases m with rfl | rfl <;> (simp only [Row.ok]; omega))
                      | (rcases m with rfl; simp only [Row.ok]; omega)
            · exact ⟨l, _, _, _, _, _, rfl, bs, rs, C24, l0, hl4, hR4, by omega, hT, ho⟩
      · intro F' hF
        refine ⟨_, rfl, _, _, rfl, rfl, _, rfl, ite2 (fun _ => hF _ _ C3) (fun _ => ?_)⟩
        refine ⟨_, rfl, rfl, _, rfl, ite2 (fun _ => ?_) (fun _ => hF _ _ C3)⟩
        refine ⟨_, rfl, _, _, rfl, rfl, _, rfl, ite2 (fun _ => ?_) (fun _ => hF _ _ C3)⟩
        refine ⟨_, rfl, d, sa, ns, _, rfl, (C2.trans C3).ent, by decide, by decide, fun n7 H5 n70 n71 C5 => ?_⟩
        exact ⟨rfl, _, rfl, hF _ _ (C3.trans C5)⟩
    · rintro σ H2 ⟨l, x4, x5, x6, x7, x8, rfl, bs, rs, C2, l0, hl, hR, hz, hT, ho⟩
      refine ⟨_, rfl, kq l bs rs H2 C2 l0 hl hR ?_ hT ho⟩
      refine Nat.le_trans hz (Nat.mul_le_mul_right _ ?_)
      omega
theorem ok_body (cBody : FBody K mg) (cFork : FFork K mg) (cStraight : FStraight K mg) (cNext : FNext K mg) (T : Bt mg) : ∀ n : Nat, FnOk P w K mg base CX0 (n + 4) cBody.f cBody.fd pBody (spBody K n)
  | 0 => body_one (k := 3) cBody cFork cStraight cNext T (Nat.le_refl _) ok_no (fun h => absurd h (Nat.lt_irrefl 0))
  | n + 1 => body_one (k := n + 4) cBody cFork cStraight cNext T (by omega) (ok_body cBody cFork cStraight cNext T n) (fun _ vs H Q E h => h)
def spBodyU (K : Frg) : Sp := fun vs H Q E => ∃ n, n ≤ 2 ∧ spBody K n vs H Q E
theorem ok_bodyU (cBody : FBody K mg) (cFork : FFork K mg) (cStraight : FStraight K mg) (cNext : FNext K mg) (T : Bt mg) : FnOk P w K mg base CX0 6 cBody.f cBody.fd pBody (spBodyU K) := by
  refine ⟨fun vs H Q E ⟨n, hn, h⟩ => (ok_body (P := P) (w := w) (base := base) cBody cFork cStraight cNext T n).len _ _ _ _ h, fun A outer s H args us vs Q E hr he hb hv ⟨n, hn, h⟩ => ?_⟩
  exact ((ok_body cBody cFork cStraight cNext T n).mono (by omega)).run A outer s H args us vs Q E hr he hb hv h
end
end DL
namespace DL
open PySem L2 DLR
/-! ### programs -/
structure Prog where
  ws : List Int
  rows : List Row
structure Good (p : Prog) : Prop where
  r1 : 1 ≤ p.rows.length
  r40 : p.rows.length ≤ 40
  w8 : p.ws.length ≤ 8
  num : ∀ x ∈ p.ws, -1000000 ≤ x ∧ x ≤ 1000000
  ok : ∀ r ∈ p.rows, r.ok p.ws.length p.rows.length
def ProgAt (H : Hp) (a : Addr) (p : Prog) : Prop :=
  ∃ (wa ra : Addr) (bs : List Addr), H a = some (.tup [.ref wa, .ref ra]) ∧ H wa = some (.tup (p.ws.map V.int)) ∧ H ra = some (.tup (bs.map V.ref)) ∧ RowsAt H bs p.rows
theorem ProgAt.kp {H H' : Hp} {a : Addr} {p : Prog} (h : ProgAt H a p) (k : Kp H H') : ProgAt H' a p := by
  obtain ⟨wa, ra, bs, h1, h2, h3, h4⟩ := h
  exact ⟨wa, ra, bs, k _ _ h1, k _ _ h2, k _ _ h3, h4.kp k⟩
def nI (n : Nat) : V := .int (n : Int)
def PopAt (K : Frg) (H0 : Hp) (d sa : Addr) (ns : List Int) (D l : Addr) (all : List Nat) (i : Nat) (H : Hp) : Prop :=
  ∃ ks ls : List Nat, Dc K H0 H d sa ns ∧ H0 D = none ∧ H0 l = none ∧ D ≠ l ∧ H D = some (.lst (ks.map nI)) ∧ H l = some (.lst (ls.map nI)) ∧ (ks ++ ls).Perm all ∧ ks.length = i
theorem PopAt.perm {K : Frg} {H0 H : Hp} {d sa : Addr} {ns : List Int} {D l : Addr} {all : List Nat} (h : PopAt K H0 d sa ns D l all all.length H) :
    ∃ ks : List Nat, Dc K H0 H d sa ns ∧ H0 D = none ∧ H D = some (.lst (ks.map nI)) ∧ ks.Perm all := by
  obtain ⟨ks, ls, C, nD, nl, ne, hD, hl, hp, hk⟩ := h
  have e := hp.length_eq
  rw [List.length_append, hk] at e
  have z : ls = [] := List.length_eq_zero_iff.mp (by omega)
  subst z
  rw [List.append_nil] at hp
  exact ⟨ks, C, nD, hD, hp⟩
theorem erase_pm {α : Type} : ∀ {l : List α} {j : Nat} {x : α}, l[j]? = some x → (x :: l.eraseIdx j).Perm l
  | [], j, x, h => by simp at h
  | y :: l, 0, x, h => by
    have e : y = x := by simpa using h
    subst e
    exact List.Perm.refl _
  | y :: l, j + 1, x, h => by
    have ih := erase_pm (l := l) (j := j) (x := x) (by simpa using h)
    exact (List.Perm.swap y x _).trans (List.Perm.cons y ih)
theorem sl1 {xs : List V} (h : 1 ≤ xs.length) : cutV xs none (some 1) = xs.take 1 := by
  unfold cutV
  have e : HT.sIx xs.length xs.length (some 1) = min 1 xs.length := HT.sIx_nat _ _ 1
  rw [e, HT.sIx_none, List.drop_zero, Nat.sub_zero, Nat.min_eq_left h]
theorem drop1 {xs : List V} : cutV xs (some 1) none = xs.drop 1 := by
  unfold cutV
  have e : HT.sIx xs.length 0 (some 1) = min 1 xs.length := HT.sIx_nat _ _ 1
  rw [e, HT.sIx_none]
  cases xs with
  | nil => rfl
  | cons x xs =>
    have q : min 1 (x :: xs).length = 1 := Nat.min_eq_left (by simp)
    rw [q]
    exact List.take_of_length_le (by simp)
theorem map_erase {α β : Type} (f : α → β) : ∀ (l : List α) (j : Nat), (l.eraseIdx j).map f = (l.map f).eraseIdx j
  | [], _ => rfl
  | _ :: _, 0 => rfl
  | x :: l, j + 1 => by
    show f x :: (l.eraseIdx j).map f = f x :: (l.map f).eraseIdx j
    rw [map_erase f l j]
theorem pop_perm {ks ls all : List Nat} {j : Nat} {x : Nat} (h : (ks ++ ls).Perm all) (e : ls[j]? = some x) : ((ks ++ [x]) ++ ls.eraseIdx j).Perm all := by
  refine List.Perm.trans ?_ h
  rw [List.append_assoc]
  exact List.Perm.append_left _ (erase_pm e)
theorem nI_get {l : List Nat} {j : Nat} (h : j < l.length) : (l.map nI)[j]? = some (.int ((l[j] : Nat) : Int)) := by
  rw [List.getElem?_map, List.getElem?_eq_getElem h]
  rfl
theorem nI_getD {l : List Nat} {j : Nat} (h : j < l.length) : (l.map nI)[j]? = some (.int ((l.getD j 0 : Nat) : Int)) := by
  rw [nI_get h, List.getD_eq_getElem?_getD, List.getElem?_eq_getElem h]
  rfl
theorem nI_flat (l : List Nat) : (l.map nI).all flatV = true := by
  rw [List.all_eq_true]
  intro x hx
  obtain ⟨n, _, rfl⟩ := List.mem_map.mp hx
  rfl
theorem nI_none {l : List Nat} {x m : Nat} {z : V} (h : l[m]? ≠ some x) (e : (l.map nI)[m]? = some z) : eqV z (.int (x : Int)) = false := by
  rw [List.getElem?_map] at e
  cases q : l[m]? with
  | none => rw [q] at e; cases e
  | some y =>
    rw [q] at e
    have ez : nI y = z := Option.some.inj e
    subst ez
    show ((y : Int) == (x : Int)) = false
    refine beq_eq_false_iff_ne.mpr fun z => h ?_
    rw [q, Int.ofNat_inj.mp z]
theorem rgV_nI (n : Nat) : rgV 0 (n : Int) = (List.range n).map nI := by
  unfold rgV
  have e : ((n : Int) - 0).toNat = n := by omega
  rw [e]
  refine List.map_congr_left fun i _ => ?_
  show V.int (0 + (i : Int)) = V.int (i : Int)
  rw [Int.zero_add]
theorem rgV_nI1 (n : Nat) : rgV 1 (n : Int) = ((List.range (n - 1)).map (· + 1)).map nI := by
  unfold rgV
  have e : ((n : Int) - 1).toNat = n - 1 := by omega
  rw [e, List.map_map]
  refine List.map_congr_left fun i _ => ?_
  show V.int (1 + (i : Int)) = V.int ((i + 1 : Nat) : Int)
  rw [show ((i + 1 : Nat) : Int) = 1 + (i : Int) by omega]
def Row.ren (f g : Nat → Nat) : Row → Row
  | .load w n => .load (f w) (g n)
  | .add w n => .add (f w) (g n)
  | .take w n => .take (f w) (g n)
  | .store w n => .store (f w) (g n)
  | .say n => .say (g n)
  | .test a b => .test (g a) (g b)
  | .stop => .stop
def Row.uses : Row → Bool
  | .load _ _ => true
  | .add _ _ => true
  | .take _ _ => true
  | .store _ _ => true
  | _ => false
def Row.word : Row → Str
  | .load _ _ => "load"
  | .add _ _ => "add"
  | .take _ _ => "take"
  | .store _ _ => "store"
  | .say _ => "say"
  | .test _ _ => "test"
  | .stop => "stop"
theorem Row.w0 (r : Row) : (rowVs r)[0]? = some (.str r.word) := by cases r <;> rfl
theorem Row.ren_len (f g : Nat → Nat) (r : Row) : (rowVs (r.ren f g)).length = (rowVs r).length := by cases r <;> rfl
theorem Row.ren_w (f g : Nat → Nat) (r : Row) : (rowVs r).take 1 = (rowVs (r.ren f g)).take 1 := by cases r <;> rfl
theorem Row.ren_ok {f g : Nat → Nat} {W N : Nat} (hf : ∀ x, x < W → f x < W) (hg : ∀ x, x < N → g x < N) : ∀ {r : Row}, r.ok W N → (r.ren f g).ok W N := fun {r} h => by
  cases r <;> simp only [Row.ok, Row.ren] at * <;> first | exact ⟨hf _ h.1, hg _ h.2⟩ | exact ⟨hg _ h.1, hg _ h.2⟩ | exact hg _ h
theorem Row.ren_at {f g : Nat → Nat} {W N : Nat} : ∀ {r : Row} {i : Nat}, r.ok W N → i + 1 < (rowVs r).length → ∃ x : Nat, (rowVs r)[i + 1]? = some (.int (x : Int)) ∧
    ((i == 0 && r.uses) = true → x < W ∧ (rowVs (r.ren f g))[i + 1]? = some (.int (f x : Int))) ∧ ((i == 0 && r.uses) = false → x < N ∧ (rowVs (r.ren f g))[i + 1]? = some (.int (g x : Int))) := by
  intro r i h hi
  have hi3 : i < 2 := by have := Row.vs_len r; omega
  match i, hi3 with
  | 0, _ =>
    cases r <;> first
      | exact ⟨_, rfl, fun _ => ⟨h.1, rfl⟩, fun e => Bool.noConfusion e⟩
      | exact ⟨_, rfl, fun e => Bool.noConfusion e, fun _ => ⟨h, rfl⟩⟩
      | exact ⟨_, rfl, fun e => Bool.noConfusion e, fun _ => ⟨h.1, rfl⟩⟩
      | (exfalso; simp [rowVs] at hi)
  | 1, _ =>
    cases r <;> first
      | exact ⟨_, rfl, fun e => Bool.noConfusion e, fun _ => ⟨h.2, rfl⟩⟩
      | (exfalso; simp [rowVs] at hi)
theorem Row.in4 (r : Row) : inV (.str r.word) [.str "load", .str "add", .str "take", .str "store"] = r.uses := by cases r <;> (dsimp only [Row.word, Row.uses]; decide +kernel)
theorem first_of {l : List Nat} {x : Nat} (h : x ∈ l) : ∃ j, j < l.length ∧ l[j]? = some x ∧ ∀ m, m < j → l[m]? ≠ some x := by
  induction l with
  | nil => cases h
  | cons y l ih =>
    by_cases e : y = x
    · exact ⟨0, by simp, by simp [e], fun m hm => absurd hm (Nat.not_lt_zero _)⟩
    · obtain ⟨j, h1, h2, h3⟩ := ih ((List.mem_cons.mp h).resolve_left fun z => e z.symm)
      refine ⟨j + 1, by simp; omega, by simpa using h2, fun m hm => ?_⟩
      cases m with
      | zero => simpa using e
      | succ m => simpa using h3 m (by omega)
theorem refs_of {F : Addr → Row → Prop} : ∀ {l : List V}, (∀ i, i < l.length → ∃ b r, l[i]? = some (.ref b) ∧ F b r) → ∃ bs rs, l = bs.map V.ref ∧ Paired F bs rs
  | [], _ => ⟨[], [], rfl, .nil⟩
  | x :: l, h => by
    obtain ⟨b, r, h1, h2⟩ := h 0 (by simp)
    obtain ⟨bs, rs, h3, h4⟩ := refs_of (l := l) fun i hi => by
      obtain ⟨b, r, q1, q2⟩ := h (i + 1) (by simp; omega)
      exact ⟨b, r, by simpa using q1, q2⟩
    have e : x = .ref b := by simpa using h1
    exact ⟨b :: bs, r :: rs, by rw [e, h3]; rfl, .cons h2 h4⟩
theorem asg_elim {te : TE} {g : TG} {D : Ends} {σ : L2.St} {H : Hp} (R : V → Hp → Prop) (key : ∀ v H', R v H' → g v σ H' D.nx) (test : ∀ Q' : VK, (∀ v H', R v H' → Q' v H') → te σ H Q') : tAsg te g D σ H := test _ key
theorem ixN_nat {n x : Nat} (h : x < n) : ixN n (x : Int) = some x := by
  unfold ixN
  rw [if_pos (by omega), if_pos (by omega)]
  rfl
structure MixAt (K : Frg) (H0 : Hp) (d sa : Addr) (ns : List Int) (D1 ln lf : Addr) (ks nums ts : List Nat) (W N : Nat) (i : Nat) (H : Hp) : Prop where
  dc : Dc K H0 H d sa ns
  nf : H0 lf = none
  ne1 : D1 ≠ lf
  ne2 : ln ≠ lf
  names : H D1 = some (.lst (ks.map nI))
  numbers : H ln = some (.lst (nums.map nI))
  found : ∃ fs : List V, H lf = some (.lst fs) ∧ fs.length = N ∧ ∀ x, x < N → x ∈ nums.take i → ∃ b r, fs[x]? = some (.ref b) ∧ H b = some (.tup (rowVs r)) ∧ r.ok W N ∧ ∃ j, nums[j]? = some x ∧ isT r = ts.getD j 0
theorem MixAt.same {K : Frg} {H0 H H' : Hp} {d sa : Addr} {ns : List Int} {D1 ln lf : Addr} {ks nums ts : List Nat} {W N i : Nat} (m : MixAt K H0 d sa ns D1 ln lf ks nums ts W N i H) (s : Same1 H H') : MixAt K H0 d sa ns D1 ln lf ks nums ts W N i H' := by
  obtain ⟨fs, h1, h2, h3⟩ := m.found
  refine ⟨m.dc.same s, m.nf, m.ne1, m.ne2, s _ _ m.names, s _ _ m.numbers, fs, s _ _ h1, h2, fun x hx hm => ?_⟩
  obtain ⟨b, r, q1, q2, q3⟩ := h3 x hx hm
  exact ⟨b, r, q1, s _ _ q2, q3⟩
theorem MixAt.put {K : Frg} {H0 H : Hp} {d sa : Addr} {ns : List Int} {D1 ln lf : Addr} {ks nums ts : List Nat} {W N i y : Nat} {t : Addr} {r : Row} {fs : List V} (m : MixAt K H0 d sa ns D1 ln lf ks nums ts W N i H) (hf : H lf = some (.lst fs)) (hy : nums[i]? = some y) (hyN : y < N)
    (ht : H t = some (.tup (rowVs r))) (ho : r.ok W N) (hT : isT r = ts.getD i 0) : MixAt K H0 d sa ns D1 ln lf ks nums ts W N (i + 1) (upd H lf (.lst (fs.set y (.ref t)))) := by
  obtain ⟨fs', h1, h2, h3⟩ := m.found
  rw [hf] at h1
  have e : fs = fs' := by injection (Option.some.inj h1)
  subst e
  have kp : Kp H (upd H lf (.lst (fs.set y (.ref t)))) := Kp.lst hf
  refine ⟨m.dc.mut m.nf, m.nf, m.ne1, m.ne2, by rw [upd_ne m.ne1]; exact m.names, by rw [upd_ne m.ne2]; exact m.numbers, fs.set y (.ref t), upd_same, by rw [List.length_set]; exact h2, fun x hx hm => ?_⟩
  by_cases e : y = x
  · subst e
    exact ⟨t, r, by rw [List.getElem?_set_self (by omega)], kp _ _ ht, ho, i, hy, hT⟩
  · rw [List.getElem?_set_ne e]
    rw [List.take_add_one, hy] at hm
    rcases List.mem_append.mp hm with q | q
    · obtain ⟨b, r, q1, q2, q3⟩ := h3 x hx q
      exact ⟨b, r, q1, kp _ _ q2, q3⟩
    · have q : x = y := by simpa using q
      exact absurd q.symm e
theorem isT_of {r r' : Row} (h : rowVs r = rowVs r') : isT r = isT r' := by
  unfold isT
  rw [h]
theorem isT_ren (f g : Nat → Nat) (r : Row) : isT (r.ren f g) = isT r := by
  unfold isT
  have e : (rowVs (r.ren f g))[0]? = (rowVs r)[0]? := by cases r <;> rfl
  rw [e]
theorem permN_sum {α : Type} {f : α → Nat} {l m : List α} (h : l.Perm m) : (l.map f).sum = (m.map f).sum := by
  induction h with
  | nil => rfl
  | cons x _ ih => rw [List.map_cons, List.map_cons, List.sum_cons, List.sum_cons, ih]
  | swap x y l =>
    rw [List.map_cons, List.map_cons, List.map_cons, List.map_cons, List.sum_cons, List.sum_cons, List.sum_cons, List.sum_cons]
    omega
  | trans _ _ a b => rw [a, b]
theorem tests_range (rs : List Row) : tests rs = ((List.range rs.length).map fun x => isT (rs.getD x .stop)).sum := by
  unfold tests
  congr 1
  refine List.ext_getElem (by simp) fun i h1 h2 => ?_
  rw [List.length_map] at h1
  rw [List.getElem_map, List.getElem_map, List.getElem_range, List.getD_eq_getElem?_getD, List.getElem?_eq_getElem h1]
  rfl
theorem tests_perm {rs rs' : List Row} {nums : List Nat} (hl : rs'.length = rs.length) (hp : nums.Perm (List.range rs.length)) (h : ∀ x, x < rs.length → ∃ j, nums[j]? = some x ∧ isT (rs'.getD x .stop) = (rs.map isT).getD j 0) : tests rs' = tests rs := by
  have nd : nums.Nodup := hp.nodup_iff.mpr List.nodup_range
  rw [tests_range rs', hl, ← permN_sum hp]
  unfold tests
  congr 1
  have nl : nums.length = rs.length := by rw [hp.length_eq, List.length_range]
  refine List.ext_getElem (by rw [List.length_map, List.length_map, nl]) fun i h1 h2 => ?_
  rw [List.length_map] at h1 h2
  rw [List.getElem_map, List.getElem_map]
  have hx : nums[i] < rs.length := List.mem_range.mp (hp.mem_iff.mp (List.getElem_mem h1))
  obtain ⟨j, hj, e⟩ := h nums[i] hx
  obtain ⟨hj1, hj2⟩ := List.getElem?_eq_some_iff.mp hj
  have ij : j = i := (List.getElem_inj nd).mp hj2
  subst ij
  rw [e, List.getD_eq_getElem?_getD, List.getElem?_map, List.getElem?_eq_getElem h2]
  rfl
abbrev sMixed : Stmt := top 109
abbrev pMixed : List Str := ["_law_d", "_law_program"]
abbrev FMixed (K : Frg) (mg : Str → Option Value) := Fd K mg "_law_mixed" sMixed pMixed
def spMixed (K : Frg) : Sp := fun vs H Q _ => ∃ (d sa : Addr) (ns : List Int) (a : Addr) (p : Prog), vs = [.ref d, .ref a] ∧ Ent K H d sa ns ∧ ProgAt H a p ∧ Good p ∧
  ∀ b q H', Dc K H H' d sa ns → ProgAt H' b q → Good q → tests q.rows = tests p.rows → q.rows.length = p.rows.length → Q (.ref b) H'
section
variable {P : Program} {w : World} {K : PySem.W.Frag} {mg : Str → Option Value} {base : Heap}
abbrev nMixed : List Str := ["_law_d", "_law_program", "_law_worths", "_law_rows", "_law_left", "_law_names", "_law_row", "_law_numbers", "_law_found", "_law_number", "_law_told_here", "_law_k", "_law_is_worth", "_law_order", "_law_worth"]
theorem scMixed : FnScope nMixed pMixed (defScope sMixed) := ⟨rfl, rfl, rfl, by decide +kernel, rfl, by decide +kernel, by decide +kernel⟩
theorem ok_mixed (cMixed : FMixed K mg) (cNext : FNext K mg) (T : Bt mg) : FnOk P w K mg base CX0 2 cMixed.f cMixed.fd pMixed (spMixed K) := by
  have GNext : FnOk P w K mg base CX0 1 cNext.f cNext.fd ["_law_dice_here", "_law_many"] (spNext K) := ok_next cNext.F T
  refine cMixed.F.ok scMixed (fun vs H Q E h => ?_) (fun cdv A outer s H vs Q E hr h => ?_)
  · obtain ⟨d, sa, ns, a, p, rfl, _⟩ := h
    rfl
  · obtain ⟨d, sa, ns, a, p, rfl, hE, ⟨wa, ra, bs, ha, hwa, hra, hR⟩, g, kq⟩ := h
    refine ⟨_, (pss_cons (ps_asg (pv 1) (pg_tup rfl (pgs_cons (pg_name (i := 2) scMixed.nd rfl (Or.inr rfl)) (pgs_cons (pg_name (i := 3) scMixed.nd rfl (Or.inl rfl)) pgs_nil))))
      (pss_cons (ps_set (i := 4) scMixed.nd rfl (Or.inr rfl) (pe_listRg rfl (by rfl) T.list (prg_1 (by rfl) T.range (pe_callB call_len_seq (by rfl) T.len PySem.boot_len (pa_cons (pv 2) pa_nil)))))
      (pss_cons (ps_set (i := 5) scMixed.nd rfl (Or.inr rfl) (pe_lc (own := [("_law_worth", 14)]) (g := gName 14) (tt := tYes) rfl scMixed.nd (pi_tup (pv 2)) (blkOk_by (N := nMixed) (sc := defScope sMixed) (by decide +kernel)) (fun _ _ _ _ _ => (pg_name (i := 14) scMixed.nd rfl (Or.inl rfl))) (fun _ _ _ _ _ => pts_nil) (fun _ _ _ _ _ => (pe_bmK K rfl PySem.F.plainAttrs_list PySem.F.slot_list_pop PySem.F.type_list_pop mt_popAt (pv 4) (pa_cons (pe_call GNext (hr.mono (by first | omega | decide)) (by rfl) cNext.m cNext.F.kp cNext.b .nil pass0 (pa_cons (pv 0) (pa_cons (pe_callB (call_lenK K rfl) (by rfl) T.len PySem.boot_len (pa_cons (pv 4) pa_nil)) pa_nil))) pa_nil)))))
      (pss_cons (ps_set (i := 4) scMixed.nd rfl (Or.inr rfl) (pe_listRg rfl (by rfl) T.list (prg_2 (by rfl) T.range pe_int (pe_callB call_len_seq (by rfl) T.len PySem.boot_len (pa_cons (pv 3) pa_nil)))))
      (pss_cons (ps_set (i := 7) scMixed.nd rfl (Or.inl rfl) (pe_op op_cat (pe_lst (pa_cons pe_int pa_nil)) (pe_lc (own := [("_law_row", 6)]) (g := gName 6) (tt := tYes) rfl scMixed.nd (pi_tup (pe_slice sl_tupS (pv 3) (po_some pe_int) po_none)) (blkOk_by (N := nMixed) (sc := defScope sMixed) (by decide +kernel)) (fun _ _ _ _ _ => (pg_name (i := 6) scMixed.nd rfl (Or.inl rfl))) (fun _ _ _ _ _ => pts_nil) (fun _ _ _ _ _ => (pe_bmK K rfl PySem.F.plainAttrs_list PySem.F.slot_list_pop PySem.F.type_list_pop mt_popAt (pv 4) (pa_cons (pe_call GNext (hr.mono (by first | omega | decide)) (by rfl) cNext.m cNext.F.kp cNext.b .nil pass0 (pa_cons (pv 0) (pa_cons (pe_callB (call_lenK K rfl) (by rfl) T.len PySem.boot_len (pa_cons (pv 4) pa_nil)) pa_nil))) pa_nil))))))
      (pss_cons (ps_set (i := 8) scMixed.nd rfl (Or.inl rfl) (pe_op op_rep (pe_lst (pa_cons pe_non pa_nil)) (pe_callB call_len_seq (by rfl) T.len PySem.boot_len (pa_cons (pv 3) pa_nil))))
      (pss_cons (ps_for PassesOwn.never rfl (pi_enumT (by rfl) T.enumerate (pa_cons (pv 3) pa_nil)) (pg_tup rfl (pgs_cons (pg_name (i := 9) scMixed.nd rfl (Or.inl rfl)) (pgs_cons (pg_name (i := 6) scMixed.nd rfl (Or.inl rfl)) pgs_nil)))
          (pss_cons (ps_set (i := 10) scMixed.nd rfl (Or.inl rfl) (pe_slice sl_tupS (pv 6) po_none (po_some pe_int)))
          (pss_cons (ps_for PassesOwn.never rfl (pi_range2 rfl T.range (pa_cons pe_int (pa_cons (pe_callB call_len_seq (by rfl) T.len PySem.boot_len (pa_cons (pv 6) pa_nil)) pa_nil))) (pg_name (i := 11) scMixed.nd rfl (Or.inl rfl))
              (pss_cons (ps_set (i := 12) scMixed.nd rfl (Or.inl rfl) (pe_and (pe_cmpR op_eq (pv 11) pe_int (nomark _)) (pe_one (pe_cmpR op_in_seq (pe_ix ix_tup (pv 6) pe_int (fun _ _ => rfl)) (pe_tup (pa_cons pe_str (pa_cons pe_str (pa_cons pe_str (pa_cons pe_str pa_nil))))) rfl))))
              (pss_one (ps_set (i := 10) scMixed.nd rfl (Or.inl rfl) (pe_op op_catS (pv 10) (pe_tup (pa_cons (pe_ix ix_list (pe_ifExp (pt_val (pv 12)) (pv 5) (pv 7)) (pe_ix ix_tup (pv 6) (pv 11) (fun _ _ => rfl)) (fun _ _ => rfl)) pa_nil)))))))
          (pss_one (ps_asg (pv 10) (pg_sub (pv 8) (pe_ix ix_list (pv 7) (pv 9) (fun _ _ => rfl)) set_list))))))
      (pss_cons (ps_setLc (i := 13) (own := [("_law_worth", 14)]) (g := gName 14) (tt := tYes) rfl scMixed.nd rfl rfl (sw_true rfl rfl rfl (by decide +kernel)) (pi_range1 rfl T.range (pa_cons (pe_callB call_len_seq (by rfl) T.len PySem.boot_len (pa_cons (pv 2) pa_nil)) pa_nil)) (blkOk_by (N := nMixed) (sc := defScope sMixed) (by decide +kernel)) (fun _ _ _ _ _ => (pg_name (i := 14) scMixed.nd rfl (Or.inl rfl))) (fun _ _ _ _ _ => pts_nil) (fun _ _ _ _ _ => (pe_bmK K rfl PySem.F.plainAttrs_list PySem.F.slot_list_index PySem.F.type_list_index (mt_indexK K rfl) (pv 5) (pa_cons (pv 14) pa_nil))))
      (pss_one (ps_ret (pe_tup (pa_cons (pe_callTy call_tuple_of (by rfl) T.tuple (by decide +kernel) (pa_cons (pe_lc (own := [("_law_worth", 14)]) (g := gName 14) (tt := tYes) rfl scMixed.nd (pi_list (pv 13)) (blkOk_by (N := nMixed) (sc := defScope sMixed) (by decide +kernel)) (fun _ _ _ _ _ => (pg_name (i := 14) scMixed.nd rfl (Or.inl rfl))) (fun _ _ _ _ _ => pts_nil) (fun _ _ _ _ _ => (pe_ix (ix_tupK K rfl) (pv 2) (pv 14) (fun _ _ => rfl)))) pa_nil)) (pa_cons (pe_callTy call_tuple_of (by rfl) T.tuple (by decide +kernel) (pa_cons (pv 8) pa_nil)) pa_nil))))))))))))), ?_⟩
    have hK0 := Dc.refl hE
    have hbr := Paired.length hR
    refine ⟨_, rfl, a, _, rfl, SqT.of ha, rfl, .ref wa, _, rfl, .ref ra, _, rfl, rfl, ?_⟩
    have hW8 := g.w8
    have hR40 := g.r40
    have hR1 := g.r1
    refine ⟨_, rfl, wa, _, rfl, .inr (SqT.of hwa), _, rfl, RgOk.of_le (Int.le_refl _) (by rw [List.length_map]; omega) (by omega) (by omega), fun l1 hl1 => ?_⟩
    refine alloc hl1 fun H1 s1 e1 => ?_
    rw [List.length_map, rgV_nI] at e1
    have C1 := hK0.same s1
    refine ⟨_, rfl, wa, rfl, ⟨_, SqT.of (s1 _ _ hwa)⟩, fun D1 hD1 => ?_⟩
    have nDl : D1 ≠ l1 := (ne_of_none e1 hD1).symm
    refine lc_tup (K := K) (a := wa) (xs := p.ws.map V.int) (PopAt K H d sa ns D1 l1 (List.range p.ws.length))
      ⟨[], _, C1.new hD1, C1.here hD1, hl1, nDl, upd_same, by rw [upd_ne nDl.symm]; exact e1, List.Perm.refl _, rfl⟩ (fun i H2 _ ⟨_, _, C, _⟩ => SqT.of (C.kp _ _ hwa)) ?_ ?_
    · rintro i x H2 hi ⟨ks, ls, C2, nD, nl, ne, hD, hl, hp, hk⟩
      have hiW : i < p.ws.length := by
        have q := (List.getElem?_eq_some_iff.mp hi).1
        rwa [List.length_map] at q
      have hle := hp.length_eq
      rw [List.length_append, hk, List.length_range] at hle
      refine ⟨rfl, _, rfl, .inl ⟨rfl, _, SqL.of hl⟩, _, rfl, _, rfl, l1, _, rfl, .inl (SqL.of hl), d, sa, ns, _, rfl, C2.ent, ?_, ?_, fun n H3 n0 n1 C3 => ?_⟩
      · rw [List.length_map]; omega
      · rw [List.length_map]; omega
      · rw [List.length_map] at n1
        obtain ⟨j, hj⟩ : ∃ j : Nat, n = (j : Int) := ⟨n.toNat, by omega⟩
        subst hj
        have hjl : j < ls.length := by omega
        have hl3 := C3.but _ _ (C2.ned nl) hl
        have hD3 := C3.but _ _ (C2.ned nD) hD
        refine ⟨l1, _, _, j, _, rfl, rfl, hl3, by omega, by omega, ?_, nI_get hjl, _, ?_, szl (show (ks.map nI).length < 100000 by rw [List.length_map]; omega), ?_⟩
        · rw [List.length_map, seqIndex_of (by omega) (by omega)]
          rfl
        · rw [upd_ne ne]; exact hD3
        · refine ⟨ks ++ [ls[j]], ls.eraseIdx j, ((C2.trans C3).mut nl).mut nD, nD, nl, ne, ?_, ?_, pop_perm hp (List.getElem?_eq_getElem hjl), by rw [List.length_append, hk]; rfl⟩
          · rw [upd_same, List.map_append]; rfl
          · rw [upd_ne ne.symm, upd_same, map_erase]
    · intro H2 h2
      rw [List.length_map] at h2
      obtain ⟨ks, C2, nD1, hks, hkp⟩ := PopAt.perm (all := List.range p.ws.length) (by rw [List.length_range]; exact h2)
      have hra2 := C2.kp _ _ hra
      refine ⟨_, rfl, ra, _, rfl, .inr (SqT.of hra2), _, _, rfl, rfl, RgOk.of_le (by decide) (by rw [List.length_map]; omega) (by decide) (by omega), fun l2 hl2 => ?_⟩
      refine alloc hl2 fun H3 s3 e3 => ?_
      rw [List.length_map, hbr, rgV_nI1] at e3
      have C3 := C2.same s3
      refine ⟨(by show 1 ≤ sizeLine; decide), fun l0 hl0 => ?_⟩
      refine alloc hl0 fun H4 s4 e4 => ?_
      have C4 := C3.same s4
      refine ⟨_, rfl, _, rfl, ra, _, rfl, C4.kp _ _ hra, fun p2 H5 s5 e5 => ?_⟩
      rw [drop1] at e5
      have C5 := C4.same s5
      refine ⟨p2, rfl, ⟨_, SqT.of e5⟩, fun D2 hD2 => ?_⟩
      have hxl : ((bs.map V.ref).drop 1).length = p.rows.length - 1 := by rw [List.length_drop, List.length_map, hbr]
      have el2 : H5 l2 = some (.lst (((List.range (p.rows.length - 1)).map (· + 1)).map nI)) := (s4.trans s5) _ _ e3
      have el0 : H5 l0 = some (.lst [.int 0]) := s5 _ _ e4
      have hks5 : H5 D1 = some (.lst (ks.map nI)) := ((s3.trans s4).trans s5) _ _ hks
      have nDl2 : D2 ≠ l2 := (ne_of_none el2 hD2).symm
      have nl2 : H l2 = none := C2.here hl2
      have nl0 : H l0 = none := C3.here hl0
      have nDa : D1 ≠ l2 := ne_of_none hks hl2
      have nDb : D1 ≠ D2 := ne_of_none hks5 hD2
      have nl02 : l0 ≠ l2 := (ne_of_none e3 hl0).symm
      have nl0D : l0 ≠ D2 := ne_of_none el0 hD2
      refine lc_tup (K := K) (a := p2) (xs := (bs.map V.ref).drop 1)
        (fun i H6 => PopAt K H d sa ns D2 l2 ((List.range (p.rows.length - 1)).map (· + 1)) i H6 ∧ H6 D1 = some (.lst (ks.map nI)) ∧ H6 l0 = some (.lst [.int 0]) ∧ H6 p2 = some (.tup ((bs.map V.ref).drop 1)))
        ⟨⟨[], _, C5.new hD2, C5.here hD2, nl2, nDl2, upd_same, by rw [upd_ne nDl2.symm]; exact el2, List.Perm.refl _, rfl⟩, by rw [upd_ne nDb]; exact hks5, by rw [upd_ne nl0D]; exact el0,
          by rw [upd_ne (ne_of_none e5 hD2)]; exact e5⟩ (fun i H2 _ ⟨_, _, _, q⟩ => SqT.of q) ?_ ?_
      · rintro i x H2 hi ⟨⟨ks2, ls, C2, nD, nl, ne, hD, hl, hp, hk⟩, g1, g0, g2⟩
        have hiW : i < p.rows.length - 1 := by
          have q := (List.getElem?_eq_some_iff.mp hi).1
          rwa [hxl] at q
        have hle := hp.length_eq
        rw [List.length_append, hk, List.length_map, List.length_range] at hle
        refine ⟨rfl, _, rfl, .inl ⟨rfl, _, SqL.of hl⟩, _, rfl, _, rfl, l2, _, rfl, .inl (SqL.of hl), d, sa, ns, _, rfl, C2.ent, ?_, ?_, fun n H3 n0 n1 C3 => ?_⟩
        · rw [List.length_map]; omega
        · rw [List.length_map]; omega
        · rw [List.length_map] at n1
          obtain ⟨j, hj⟩ : ∃ j : Nat, n = (j : Int) := ⟨n.toNat, by omega⟩
          subst hj
          have hjl : j < ls.length := by omega
          have hl3 := C3.but _ _ (C2.ned nl) hl
          have hD3 := C3.but _ _ (C2.ned nD) hD
          refine ⟨l2, _, _, j, _, rfl, rfl, hl3, by omega, by omega, ?_, nI_get hjl, _, ?_, szl (show (ks2.map nI).length < 100000 by rw [List.length_map]; omega), ?_⟩
          · rw [List.length_map, seqIndex_of (by omega) (by omega)]
            rfl
          · rw [upd_ne ne]; exact hD3
          · refine ⟨⟨ks2 ++ [ls[j]], ls.eraseIdx j, ((C2.trans C3).mut nl).mut nD, nD, nl, ne, ?_, ?_, pop_perm hp (List.getElem?_eq_getElem hjl), by rw [List.length_append, hk]; rfl⟩, ?_, ?_, ?_⟩
            · rw [upd_same, List.map_append]; rfl
            · rw [upd_ne ne.symm, upd_same, map_erase]
            · rw [upd_ne nDb, upd_ne nDa]; exact C3.but _ _ (C2.ned nD1) g1
            · rw [upd_ne nl0D, upd_ne nl02]; exact C3.but _ _ (C2.ned nl0) g0
            · exact ((C3.kp.trans (Kp.lst hl3)).trans (Kp.lst (by rw [upd_ne ne]; exact hD3))) _ _ g2
      · rintro H6 ⟨h6, g1, g0, g2⟩
        rw [hxl] at h6
        obtain ⟨ms, C6, nD2, hms, hmp⟩ := PopAt.perm (all := (List.range (p.rows.length - 1)).map (· + 1)) (by rw [List.length_map, List.length_range]; exact h6)
        have hml := hmp.length_eq
        rw [List.length_map, List.length_range] at hml
        refine ⟨l0, D2, _, _, rfl, rfl, g0, hms, sz (by rw [List.length_map]; show 1 + _ ≤ _; omega), fun ln hln => ?_⟩
        refine alloc hln fun H7 s7 e7 => ?_
        have e7 : H7 ln = some (.lst ((0 :: ms).map nI)) := e7
        have C7 := C6.same s7
        refine ⟨(by show 1 ≤ sizeLine; decide), fun l7 hl7 => ?_⟩
        refine alloc hl7 fun H8 s8 e8 => ?_
        have C8 := C7.same s8
        have hra8 := C8.kp _ _ hra
        refine ⟨_, rfl, ra, _, rfl, .inr (SqT.of hra8), l7, _, _, rfl, rfl, e8, ?_, ?_, ?_, fun lf hlf => ?_⟩
        · rw [List.length_map]; omega
        · rw [List.length_map]; omega
        · refine sz ?_
          show 1 * _ ≤ _
          rw [List.length_map]; omega
        refine alloc hlf fun H9 s9 e9 => ?_
        rw [List.flatten_replicate_singleton, List.length_map, hbr] at e9
        have C9 := C8.same s9
        have n1f : D1 ≠ lf := ne_of_none ((s7.trans s8) _ _ g1) hlf
        have n2f : ln ≠ lf := ne_of_none (s8 _ _ e7) hlf
        have hmem : ∀ x, x ∈ (0 :: ms) ↔ x < p.rows.length := fun x => by
          rw [List.mem_cons, hmp.mem_iff, List.mem_map]
          constructor
          · rintro (q | ⟨y, q1, q2⟩)
            · omega
            · have := List.mem_range.mp q1; omega
          · intro q
            cases x with
            | zero => exact .inl rfl
            | succ x => exact .inr ⟨x, List.mem_range.mpr (by omega), rfl⟩
        have hpm : (0 :: ms).Perm (List.range p.rows.length) := by
          have e : List.range p.rows.length = 0 :: (List.range (p.rows.length - 1)).map (· + 1) := by
            rw [show p.rows.length = (p.rows.length - 1) + 1 by omega, List.range_succ_eq_map]
            rfl
          rw [e]
          exact hmp.cons 0
        have hkm : ∀ x, x ∈ ks ↔ x < p.ws.length := fun x => by rw [hkp.mem_iff, List.mem_range]
        have hnl : (0 :: ms).length = p.rows.length := by show ms.length + 1 = _; omega
        have hkl : ks.length = p.ws.length := by rw [hkp.length_eq, List.length_range]
        have hf : ∀ x, x < p.ws.length → ks.getD x 0 < p.ws.length := fun x hx => by
          rw [List.getD_eq_getElem?_getD, List.getElem?_eq_getElem (by omega)]
          exact (hkm _).mp (List.getElem_mem _)
        have hg : ∀ x, x < p.rows.length → (0 :: ms).getD x 0 < p.rows.length := fun x hx => by
          rw [List.getD_eq_getElem?_getD, List.getElem?_eq_getElem (by omega)]
          exact (hmem _).mp (List.getElem_mem _)
        refine ⟨_, rfl, ra, _, rfl, SqT.of (C9.kp _ _ hra), for_enumT (K := K) (a := ra) (xs := bs.map V.ref)
          (fun i σ H' => ∃ x6 x9 x10 x11 x12 : Option V, σ = [some (.ref d), some (.ref a), some (.ref wa), some (.ref ra), some (.ref l2), some (.ref D1), x6, some (.ref ln), some (.ref lf), x9, x10, x11, x12, none, none] ∧
            MixAt K H d sa ns D1 ln lf ks (0 :: ms) (p.rows.map isT) p.ws.length p.rows.length i H')
          ⟨_, _, _, _, _, rfl, C9, C8.here hlf, n1f, n2f, ((s7.trans s8).trans s9) _ _ g1, (s8.trans s9) _ _ e7, _, e9, List.length_replicate, fun _ _ q => absurd q (by simp)⟩
          (fun i σ H' ⟨_, _, _, _, _, _, m⟩ => SqT.of (m.dc.kp _ _ hra)) ?_ ?_⟩
        · rintro i x T' σ H' hi ⟨x6, x9, x10, x11, x12, rfl, m⟩ hT'
          have hiR : i < p.rows.length := by
            have q := (List.getElem?_eq_some_iff.mp hi).1
            rwa [List.length_map, hbr] at q
          obtain ⟨r, hr1⟩ : ∃ r, p.rows[i]? = some r := ⟨_, List.getElem?_eq_getElem hiR⟩
          obtain ⟨b, hb1, hb2⟩ := Paired.getR hR hr1
          have hrm : r ∈ p.rows := List.mem_of_getElem? hr1
          have hro := g.ok r hrm
          have ex : x = V.ref b := by
            rw [List.getElem?_map, hb1] at hi
            exact (Option.some.inj hi).symm
          subst ex
          refine alloc hT' fun H2 s2 e2 => ?_
          have m2 := m.same s2
          have hb3 := m2.dc.kp _ _ hb2
          refine ⟨T', _, rfl, SqT.of e2, rfl, _, _, rfl, _, _, rfl, rfl, ?_⟩
          refine ⟨_, rfl, _, rfl, b, _, rfl, hb3, fun t H3 s3 e3 => ?_⟩
          have rl := Row.vs_len r
          rw [sl1 rl.1, Row.ren_w (fun x => ks.getD x 0) (fun x => (0 :: ms).getD x 0)] at e3
          have m3 := m2.same s3
          have hb4 := s3 _ _ hb3
          refine ⟨_, rfl, b, _, rfl, .inr (SqT.of hb4), _, _, rfl, ⟨by decide, by decide, by omega, by omega⟩, ?_⟩
          refine for_range (lo := 1) (n := (((rowVs r).length : Int) - 1).toNat) (fun j σ H' => ∃ (x11 x12 : Option V) (t : Addr), σ = [some (.ref d), some (.ref a), some (.ref wa), some (.ref ra), some (.ref l2), some (.ref D1), some (.ref b), some (.ref ln), some (.ref lf), some (.int (i : Int)), some (.ref t), x11, x12, none, none] ∧
            Same1 H3 H' ∧ H' t = some (.tup ((rowVs (r.ren (fun x => ks.getD x 0) (fun x => (0 :: ms).getD x 0))).take (1 + j)))) ⟨_, _, t, rfl, Same.refl _, e3⟩ ?_ ?_
          · rintro j σ H4 hj ⟨x11, x12, t, rfl, S4, ht⟩
            have hj1 : j + 1 < (rowVs r).length := by omega
            obtain ⟨x, hx, hx1, hx2⟩ := Row.ren_at (f := fun x => ks.getD x 0) (g := fun x => (0 :: ms).getD x 0) hro hj1
            have hb5 := S4 _ _ hb4
            have ej : (1 : Int) + (j : Int) = ((j + 1 : Nat) : Int) := by omega
            refine asg_elim (fun v H' => v = .bl (j == 0 && r.uses) ∧ Same1 H4 H') ?_ ?_
            · rintro v H5 ⟨rfl, s5⟩
              have S5 := S4.trans s5
              have m5 := m3.same S5
              have fin : ∀ (y : Nat) (t5 t6 : Addr) (H6 H7 : Hp) (c : Bool), (rowVs (r.ren (fun x => ks.getD x 0) (fun x => (0 :: ms).getD x 0)))[j + 1]? = some (.int (y : Int)) → Same1 H5 H6 → Same1 H6 H7 →
                  H7 t6 = some (.tup ((rowVs (r.ren (fun x => ks.getD x 0) (fun x => (0 :: ms).getD x 0))).take (1 + j) ++ [.int (y : Int)])) →
                  Same1 H3 H7 ∧ H7 t6 = some (.tup ((rowVs (r.ren (fun x => ks.getD x 0) (fun x => (0 :: ms).getD x 0))).take (1 + (j + 1)))) := by
                intro y t5 t6 H6 H7 c q1 q2 q3 q4
                refine ⟨(S5.trans q2).trans q3, q4.trans ?_⟩
                rw [show 1 + (j + 1) = (1 + j) + 1 by omega, List.take_add_one, show 1 + j = j + 1 by omega, q1]
                rfl
              cases hc : (j == 0 && r.uses) with
              | true =>
                obtain ⟨q1, q2⟩ := hx1 hc
                refine ⟨_, rfl, _, rfl, _, rfl, _, rfl, _, rfl, _, rfl, b, _, _, .int (x : Int), rfl, rfl, SqT.of (s5 _ _ hb5), by rw [ej]; exact atI_nat hx, D1, _, _, _, rfl, rfl, SqL.of m5.names, atI_nat (nI_getD (by rw [hkl]; exact q1)), (by show 1 ≤ sizeLine; decide), fun t5 ht5 => ?_⟩
                refine alloc ht5 fun H6 s6 e6 => ?_
                refine ⟨t, t5, _, _, rfl, rfl, (s5.trans s6) _ _ ht, e6, sz (by rw [List.length_take]; show _ + 1 ≤ _; omega), fun t6 H7 s7 e7 => ?_⟩
                exact ⟨_, _, t6, rfl, fin _ t5 t6 H6 H7 true q2 s6 s7 e7⟩
              | false =>
                obtain ⟨q1, q2⟩ := hx2 hc
                refine ⟨_, rfl, _, rfl, _, rfl, _, rfl, _, rfl, _, rfl, b, _, _, .int (x : Int), rfl, rfl, SqT.of (s5 _ _ hb5), by rw [ej]; exact atI_nat hx, ln, _, _, _, rfl, rfl, SqL.of m5.numbers, atI_nat (nI_getD (by rw [hnl]; exact q1)), (by show 1 ≤ sizeLine; decide), fun t5 ht5 => ?_⟩
                refine alloc ht5 fun H6 s6 e6 => ?_
                refine ⟨t, t5, _, _, rfl, rfl, (s5.trans s6) _ _ ht, e6, sz (by rw [List.length_take]; show _ + 1 ≤ _; omega), fun t6 H7 s7 e7 => ?_⟩
                exact ⟨_, _, t6, rfl, fin _ t5 t6 H6 H7 true q2 s6 s7 e7⟩
            · intro Q' hQ
              refine ⟨_, rfl, rfl, _, rfl, ite2 (fun c => ?_) (fun c => ?_)⟩
              · have c := of_decide_eq_true c
                have c : (1 : Int) + (j : Int) = 1 := by injection c
                have j0 : j = 0 := by omega
                subst j0
                refine ⟨_, rfl, b, _, _, _, rfl, rfl, SqT.of hb5, atI_nat (j := 0) (Row.w0 r), (by show 4 ≤ sizeLine; decide), fun t4 ht4 => ?_⟩
                refine alloc ht4 fun H5 s5 e5 => ?_
                refine ⟨t4, _, rfl, .inr (SqT.of e5), rfl, rfl, hQ _ _ ⟨?_, s5⟩⟩
                show V.bl (inV (.str r.word) [.str "load", .str "add", .str "take", .str "store"]) = V.bl (0 == 0 && r.uses)
                rw [Row.in4]
                rfl
              · refine hQ _ _ ⟨?_, Same.refl _⟩
                have hj0 : j ≠ 0 := fun e => by subst e; exact c (decide_eq_true rfl)
                rw [beq_false_of_ne hj0]
                rfl
          · rintro σ H4 ⟨x11, x12, t, rfl, S4, ht⟩
            have m4 := m3.same S4
            rw [List.take_of_length_le (by rw [Row.ren_len]; omega)] at ht
            obtain ⟨fs, hf1, hf2, hf3⟩ := m4.found
            have hy := nI_getD (l := 0 :: ms) (j := i) (by rw [hnl]; exact hiR)
            have hy2 : (0 :: ms)[i]? = some ((0 :: ms).getD i 0) := by
              rw [List.getD_eq_getElem?_getD, List.getElem?_eq_getElem (by rw [hnl]; exact hiR)]
              rfl
            have hyN := hg i hiR
            refine ⟨_, rfl, _, rfl, _, rfl, _, rfl, ln, _, _, _, rfl, rfl, SqL.of m4.numbers, atI_nat hy, lf, fs, _, (0 :: ms).getD i 0, rfl, rfl, hf1, ixN_nat (by rw [hf2]; exact hyN), ?_⟩
            exact ⟨_, _, _, _, _, rfl, m4.put hf1 hy2 hyN ht (Row.ren_ok hf hg hro) (by rw [isT_ren, List.getD_eq_getElem?_getD, List.getElem?_map, hr1]; rfl)⟩
        · rintro σ H' ⟨x6, x9, x10, x11, x12, rfl, m⟩
          rw [List.length_map, hbr] at m
          obtain ⟨fs, hf1, hf2, hf3⟩ := m.found
          obtain ⟨bs', rs', hfs, hF⟩ := refs_of (F := fun b r => H' b = some (.tup (rowVs r)) ∧ r.ok p.ws.length p.rows.length) (l := fs) (fun i hi => by
            obtain ⟨b, r, q1, q2, q3, _⟩ := hf3 i (by omega) (by rw [List.take_of_length_le (by omega)]; exact (hmem i).mpr (by omega))
            exact ⟨b, r, q1, q2, q3⟩)
          have hwa2 := m.dc.kp _ _ hwa
          have hfl : bs'.length = p.rows.length := by rw [← hf2, hfs, List.length_map]
          have hrl : rs'.length = p.rows.length := by rw [← Paired.length hF, hfl]
          have hTT : tests rs' = tests p.rows := by
            refine tests_perm (nums := 0 :: ms) hrl hpm fun x hx => ?_
            obtain ⟨b, r, q1, q2, q3, j, q4, q5⟩ := hf3 x (by omega) (by rw [List.take_of_length_le (by omega)]; exact (hmem x).mpr hx)
            refine ⟨j, q4, ?_⟩
            rw [← q5]
            have hx' : x < rs'.length := by omega
            obtain ⟨b', hb1, hb2⟩ := Paired.getR hF (List.getElem?_eq_getElem hx')
            have eb : b' = b := by
              rw [hfs, List.getElem?_map, hb1] at q1
              exact V.ref.inj (Option.some.inj q1)
            subst eb
            have e2 := hb2.1
            rw [q2] at e2
            rw [List.getD_eq_getElem?_getD, List.getElem?_eq_getElem hx']
            exact (isT_of (HO.tup.inj (Option.some.inj e2))).symm
          refine ⟨_, rfl, wa, _, rfl, .inr (SqT.of hwa2), _, rfl, by rw [List.length_map]; omega, by rw [List.length_map]; omega, fun D3 hD3 => ?_⟩
          have n13 : D1 ≠ D3 := ne_of_none m.names hD3
          have nf3 : lf ≠ D3 := ne_of_none hf1 hD3
          refine lc_range (lo := 0) (n := (((p.ws.map V.int).length : Nat) : Int).toNat) (fun i H2 => ∃ js : List Nat, Dc K H H2 d sa ns ∧ H D3 = none ∧ H2 D3 = some (.lst (js.map nI)) ∧ js.length = i ∧ (∀ x ∈ js, x < p.ws.length) ∧ Kp H' H2 ∧ H2 D1 = some (.lst (ks.map nI)) ∧ H2 lf = some (.lst fs))
            ⟨[], m.dc.new hD3, m.dc.here hD3, upd_same, rfl, fun _ h => absurd h (by simp), Kp.new hD3, by rw [upd_ne n13]; exact m.names, by rw [upd_ne nf3]; exact hf1⟩ ?_ ?_
          · rintro i H2 hi ⟨js, C, nD3, hj, hjl, hjm, k2, g1, g2⟩
            have hiW : i < p.ws.length := by rw [List.length_map] at hi; omega
            obtain ⟨j, j1, j2, j3⟩ := first_of ((hkm i).mpr hiW)
            have e0 : (0 : Int) + (i : Int) = (i : Int) := Int.zero_add _
            rw [e0]
            refine ⟨rfl, _, rfl, .inl ⟨rfl, _, SqL.of g1⟩, _, rfl, D1, _, _, j, .int (i : Int), rfl, rfl, SqL.of g1, rfl, nI_flat ks, ?_, ?_, fun m z hm e => nI_none (j3 m hm) e, _, hj, szl (by rw [List.length_map]; omega), ?_⟩
            · rw [List.getElem?_map, j2]; rfl
            · show ((i : Int) == (i : Int)) = true
              exact beq_self_eq_true _
            · refine ⟨js ++ [j], C.mut nD3, nD3, by rw [upd_same, List.map_append]; rfl, by rw [List.length_append, hjl]; rfl, all_snoc hjm (by omega), k2.trans (Kp.lst hj), by rw [upd_ne n13]; exact g1, by rw [upd_ne nf3]; exact g2⟩
          · rintro H2 ⟨js, C, nD3, hj, hjl, hjm, k2, g1, g2⟩
            rw [List.length_map, Int.toNat_natCast] at hjl
            have hwa3 := k2 _ _ hwa2
            refine ⟨_, rfl, D3, rfl, ⟨_, SqL.of hj⟩, fun D4 hD4 => ?_⟩
            have nf4 : lf ≠ D4 := ne_of_none g2 hD4
            have n34 : D3 ≠ D4 := ne_of_none hj hD4
            refine lc_list (K := K) (a := D3) (xs := js.map nI) (fun i H3 => ∃ us : List Int, Dc K H H3 d sa ns ∧ H D4 = none ∧ H3 D4 = some (.lst (us.map V.int)) ∧ us.length = i ∧ (∀ x ∈ us, x ∈ p.ws) ∧ Kp H2 H3 ∧ H3 D3 = some (.lst (js.map nI)) ∧ H3 lf = some (.lst fs))
              ⟨[], C.new hD4, C.here hD4, upd_same, rfl, fun _ h => absurd h (by simp), Kp.new hD4, by rw [upd_ne n34]; exact hj, by rw [upd_ne nf4]; exact g2⟩ (fun i H3 _ ⟨_, _, _, _, _, _, _, q, _⟩ => SqL.of q) ?_ ?_
            · rintro i x H3 hi ⟨us, C3, nD4, hu, hul, hum, k3, g3, g4⟩
              have hij : i < js.length := by
                have q := (List.getElem?_eq_some_iff.mp hi).1
                rwa [List.length_map] at q
              have ex : x = .int ((js[i] : Nat) : Int) := by
                rw [nI_get hij] at hi
                exact (Option.some.inj hi).symm
              subst ex
              have hjw := hjm _ (List.getElem_mem hij)
              have hat : (p.ws.map V.int)[js[i]]? = some (.int p.ws[js[i]]) := by
                rw [List.getElem?_map, List.getElem?_eq_getElem hjw]
                rfl
              refine ⟨rfl, _, rfl, _, rfl, wa, _, _, _, rfl, rfl, SqT.of (k3 _ _ hwa3), atI_nat hat, _, hu, szl (by rw [List.length_map]; omega), ?_⟩
              exact ⟨us ++ [p.ws[js[i]]], C3.mut nD4, nD4, by rw [upd_same, List.map_append]; rfl, by rw [List.length_append, hul]; rfl, all_snoc hum (List.getElem_mem _), k3.trans (Kp.lst hu), by rw [upd_ne n34]; exact g3, by rw [upd_ne nf4]; exact g4⟩
            · rintro H3 ⟨us, C3, nD4, hu, hul, hum, k3, g3, g4⟩
              rw [List.length_map, hjl] at hul
              refine ⟨D4, _, rfl, .inl ⟨SqL.of hu, fun t1 ht1 => ?_⟩⟩
              refine alloc ht1 fun H4 s4 e4 => ?_
              refine ⟨_, rfl, lf, _, rfl, .inl ⟨SqL.of (s4 _ _ g4), fun t2 ht2 => ?_⟩⟩
              refine alloc ht2 fun H5 s5 e5 => ?_
              refine ⟨(by show 2 ≤ sizeLine; decide), fun t3 ht3 => ?_⟩
              refine alloc ht3 fun H6 s6 e6 => ?_
              have S36 := (s4.trans s5).trans s6
              have kF : Kp H' H6 := (k2.trans k3).trans (Kp.same S36)
              refine kq t3 ⟨us, rs'⟩ H6 (C3.same S36) ⟨t1, t2, bs', e6, (s5.trans s6) _ _ e4, ?_, ?_⟩ ⟨?_, ?_, ?_, ?_, ?_⟩ hTT hrl
              · rw [← hfs]; exact s6 _ _ e5
              · exact Paired.mapP hF fun b r q => kF _ _ q.1
              · show 1 ≤ rs'.length
                omega
              · show rs'.length ≤ 40
                omega
              · show us.length ≤ 8
                omega
              · exact fun x hx => g.num x (hum x hx)
              · intro r hr
                show r.ok us.length rs'.length
                rw [hul, hrl]
                obtain ⟨i, hi⟩ := List.getElem?_of_mem hr
                obtain ⟨b, _, q⟩ := Paired.getR hF hi
                exact q.2
end
end DL
namespace DL
open PySem L2 DLR
def rowD : Row → PyData
  | .load w n => .tuple [.str "load", .int (w : Int), .int (n : Int)]
  | .add w n => .tuple [.str "add", .int (w : Int), .int (n : Int)]
  | .take w n => .tuple [.str "take", .int (w : Int), .int (n : Int)]
  | .store w n => .tuple [.str "store", .int (w : Int), .int (n : Int)]
  | .say n => .tuple [.str "say", .int (n : Int)]
  | .test a b => .tuple [.str "test", .int (a : Int), .int (b : Int)]
  | .stop => .tuple [.str "stop"]
theorem rowD_dp {K : Frg} {H : Hp} {b : Addr} {r : Row} (h : H b = some (.tup (rowVs r))) : Dp K H (.ref b) (rowD r) := by
  cases r <;> exact .tup (SqT.of h) (by first | exact .cons (.str _) (.cons (.int _) (.cons (.int _) .nil)) | exact .cons (.str _) (.cons (.int _) .nil) | exact .cons (.str _) .nil)
theorem rowsD_dp {K : Frg} {H : Hp} : ∀ {bs : List Addr} {rs : List Row}, RowsAt H bs rs → DpAll K H (bs.map V.ref) (rs.map rowD)
  | _, _, .nil => .nil
  | _, _, .cons h t => .cons (rowD_dp h) (rowsD_dp t)
theorem strOk4 : (["load", "add", "take", "store", "say", "test", "stop"] : List Str).all PyData.strOk = true := by decide +kernel
theorem rowD_lay (r : Row) : (rowD r).canLay0 = true := by
  have k : ∀ x ∈ (["load", "add", "take", "store", "say", "test", "stop"] : List Str), PyData.strOk x = true := List.all_eq_true.mp strOk4
  cases r <;> (simp only [rowD, PyData.canLay0, PyData.canLayAll0, Bool.and_true, Bool.and_eq_true]; apply k; simp)
theorem rowsD_lay : ∀ rs : List Row, PyData.canLayAll0 (rs.map rowD) = true
  | [] => rfl
  | r :: rs => by
    show ((rowD r).canLay0 && PyData.canLayAll0 (rs.map rowD)) = true
    rw [rowD_lay, rowsD_lay rs]
    rfl
theorem rowsD_dep : ∀ rs : List Row, PyData.depthAll (rs.map rowD) ≤ 3
  | [] => by decide
  | r :: rs => by
    have h := rowsD_dep rs
    show max (rowD r).depth (PyData.depthAll (rs.map rowD)) ≤ 3
    have : (rowD r).depth ≤ 3 := by cases r <;> simp [rowD, PyData.depth, PyData.depthAll]
    omega
theorem eq_nil {K : Frg} {H : Hp} {l e : Addr} {bs : List Addr} {rs : List Row} {Q : VK} (hl : H l = some (.lst (bs.map V.ref))) (hR : RowsAt H bs rs) (he : H e = some (.lst [])) (q : Q (.bl rs.isEmpty) H) : rEqD K (.ref l) (.ref e) H Q := by
  refine ⟨.list (rs.map rowD), .list [], .lst (SqL.of hl) (rowsD_dp hR), .lst (SqL.of he) .nil, ?_, by decide +kernel, ?_⟩
  · show (PyData.canLayAll0 (rs.map rowD) && decide (PyData.depth (.list (rs.map rowD)) ≤ 64)) = true
    rw [rowsD_lay]
    refine decide_eq_true ?_
    have := rowsD_dep rs
    show _ + _ ≤ 64
    omega
  · have e : PyData.eqv (.list (rs.map rowD)) (.list []) = rs.isEmpty := by cases rs <;> rfl
    rw [e]; exact q
theorem seq_elim {t u : TS} {D : Ends} {σ : L2.St} {H : Hp} (R : L2.St → Hp → Prop) (key : ∀ σ' H', R σ' H' → u D σ' H') (first : ∀ N : L2.St → Hp → Prop, (∀ σ' H', R σ' H' → N σ' H') → t { D with nx := N } σ H) : tSeq t u D σ H := first _ key
def RowsL (K : Frg) (H0 : Hp) (d sa : Addr) (ns : List Int) (t3 : Addr) (ws : List Int) (l : Addr) (z : Nat) (H : Hp) : Prop :=
  ∃ bs rs, Dc K H0 H d sa ns ∧ H t3 = some (.tup (ws.map V.int)) ∧ H l = some (.lst (bs.map V.ref)) ∧ RowsAt H bs rs ∧ rs.length ≤ z ∧ 4 * tests rs ≤ rs.length ∧ ∀ r ∈ rs, r.ok 8 (rs.length + 1)
abbrev sStopping : Stmt := top 110
abbrev pStopping : List Str := ["_law_d", "_law_deep"]
abbrev FStopping (K : Frg) (mg : Str → Option Value) := Fd K mg "_law_stopping" sStopping pStopping
def spStopping (K : Frg) : Sp := fun vs H Q _ => ∃ (d sa : Addr) (ns : List Int) (n : Nat), vs = [.ref d, .int (n : Int)] ∧ n ≤ 2 ∧ Ent K H d sa ns ∧
  ∀ b q H', Dc K H H' d sa ns → ProgAt H' b q → Good q → 4 * tests q.rows ≤ q.rows.length → Q (.ref b) H'
section
variable {P : Program} {w : World} {K : PySem.W.Frag} {mg : Str → Option Value} {base : Heap}
abbrev nStopping : List Str := ["_law_d", "_law_deep", "_law_worths", "_law_rows", "_law_program", "_law_k"]
theorem scStopping : FnScope nStopping pStopping (defScope sStopping) := ⟨rfl, rfl, rfl, by decide +kernel, rfl, by decide +kernel, by decide +kernel⟩
theorem ok_stopping (cStopping : FStopping K mg) (cMixed : FMixed K mg) (cBody : FBody K mg) (cFork : FFork K mg) (cStraight : FStraight K mg) (cNext : FNext K mg) (T : Bt mg) : FnOk P w K mg base CX0 7 cStopping.f cStopping.fd pStopping (spStopping K) := by
  have GNext : FnOk P w K mg base CX0 1 cNext.f cNext.fd ["_law_dice_here", "_law_many"] (spNext K) := ok_next cNext.F T
  have GStraight : FnOk P w K mg base CX0 2 cStraight.f cStraight.fd ["_law_d", "_law_at"] (spStraight K) := ok_straight cStraight cNext T
  have GBody : FnOk P w K mg base CX0 6 cBody.f cBody.fd pBody (spBodyU K) := ok_bodyU cBody cFork cStraight cNext T
  have GMixed : FnOk P w K mg base CX0 2 cMixed.f cMixed.fd pMixed (spMixed K) := ok_mixed cMixed cNext T
  refine cStopping.F.ok scStopping (fun vs H Q E h => ?_) (fun cdv A outer s H vs Q E hr h => ?_)
  · obtain ⟨d, sa, ns, n, rfl, _⟩ := h
    rfl
  · obtain ⟨d, sa, ns, n, rfl, hn, hE, kq⟩ := h
    refine ⟨_, (pss_cons (ps_set (i := 2) scStopping.nd rfl (Or.inl rfl) (pe_tup (pa_cons pe_int (pa_cons (pe_op op_add pe_int (pe_call GNext (hr.mono (by first | omega | decide)) (by rfl) cNext.m cNext.F.kp cNext.b .nil pass0 (pa_cons (pv 0) (pa_cons pe_int pa_nil)))) (pa_cons (pe_op op_add pe_int (pe_call GNext (hr.mono (by first | omega | decide)) (by rfl) cNext.m cNext.F.kp cNext.b .nil pass0 (pa_cons (pv 0) (pa_cons pe_int pa_nil)))) (pa_cons pe_int (pa_cons pe_int pa_nil)))))))
      (pss_cons (ps_set (i := 2) scStopping.nd rfl (Or.inl rfl) (pe_op op_catS (pv 2) (pe_callTy call_tuple_of (by rfl) T.tuple (by decide +kernel) (pa_cons (pe_lc (own := [("_law_k", 5)]) (g := gName 5) (tt := tYes) rfl scStopping.nd (pi_range1 rfl T.range (pa_cons pe_int pa_nil)) (blkOk_by (N := nStopping) (sc := defScope sStopping) (by decide +kernel)) (fun _ _ _ _ _ => (pg_name (i := 5) scStopping.nd rfl (Or.inl rfl))) (fun _ _ _ _ _ => pts_nil) (fun _ _ _ _ _ => (pe_op op_sub (pe_call GNext (hr.mono (by first | omega | decide)) (by rfl) cNext.m cNext.F.kp cNext.b .nil pass0 (pa_cons (pv 0) (pa_cons pe_int pa_nil))) pe_int))) pa_nil))))
      (pss_cons (ps_set (i := 3) scStopping.nd rfl (Or.inl rfl) (pe_call GBody (hr.mono (by first | omega | decide)) (by rfl) cBody.m cBody.F.kp cBody.b .nil pass0 (pa_cons (pv 0) (pa_cons pe_int (pa_cons (pv 1) pa_nil)))))
      (pss_cons (ps_while PassesOwn.never (pt_cmpR op_gt (pe_callB call_len_seq (by rfl) T.len PySem.boot_len (pa_cons (pv 3) pa_nil)) pe_int (nomark _))
          (pss_one (ps_set (i := 3) scStopping.nd rfl (Or.inl rfl) (pe_call GBody (hr.mono (by first | omega | decide)) (by rfl) cBody.m cBody.F.kp cBody.b .nil pass0 (pa_cons (pv 0) (pa_cons pe_int (pa_cons pe_int pa_nil)))))))
      (pss_cons (ps_if (pt_cmpR (op_eqD hr.units) (pv 3) (pe_lst pa_nil) (nomark _))
          (pss_one (ps_set (i := 3) scStopping.nd rfl (Or.inl rfl) (pe_lst (pa_cons (pe_call GStraight (hr.mono (by first | omega | decide)) (by rfl) cStraight.m cStraight.F.kp cStraight.b .nil pass0 (pa_cons (pv 0) (pa_cons pe_int pa_nil))) pa_nil))))
          pss_nil)
      (pss_cons (ps_set (i := 4) scStopping.nd rfl (Or.inl rfl) (pe_tup (pa_cons (pv 2) (pa_cons (pe_op op_catS (pe_callTy call_tuple_of (by rfl) T.tuple (by decide +kernel) (pa_cons (pv 3) pa_nil)) (pe_tup (pa_cons (pe_tup (pa_cons pe_str pa_nil)) pa_nil))) pa_nil))))
      (pss_one (ps_ret (pe_ifExp (pt_cmpR op_eq (pe_call GNext (hr.mono (by first | omega | decide)) (by rfl) cNext.m cNext.F.kp cNext.b .nil pass0 (pa_cons (pv 0) (pa_cons pe_int pa_nil))) pe_int (nomark _)) (pe_call GMixed (hr.mono (by first | omega | decide)) (by rfl) cMixed.m cMixed.F.kp cMixed.b .nil pass0 (pa_cons (pv 0) (pa_cons (pv 4) pa_nil))) (pv 4)))))))))), ?_⟩
    refine ⟨_, rfl, d, sa, ns, _, rfl, hE, by decide, by decide, fun n5 H1 a0 a1 C1 => ?_⟩
    refine ⟨_, _, rfl, rfl, _, rfl, d, sa, ns, _, rfl, C1.ent, by decide, by decide, fun n4 H2 b0 b1 C2 => ?_⟩
    refine ⟨_, _, rfl, rfl, (by show 5 ≤ sizeLine; decide), fun t1 ht1 => ?_⟩
    refine alloc ht1 fun H3 s3 e3 => ?_
    have C3 := (C1.trans C2).same s3
    refine ⟨_, rfl, _, rfl, by decide, by decide, fun D hD => ?_⟩
    refine lc_range (lo := 0) (n := 3) (fun i H4 => ∃ us : List Int, Dc K H H4 d sa ns ∧ H D = none ∧ H4 D = some (.lst (us.map V.int)) ∧ us.length = i ∧ (∀ x ∈ us, -3 ≤ x ∧ x ≤ 3) ∧ Kp H3 H4)
      ⟨[], C3.new hD, C3.here hD, upd_same, rfl, fun _ h => absurd h (by simp), Kp.new hD⟩ ?_ ?_
    · rintro i H4 hi ⟨us, C4, nD, hu, hul, hum, k4⟩
      refine ⟨rfl, _, rfl, d, sa, ns, _, rfl, C4.ent, by decide, by decide, fun m H5 m0 m1 C5 => ?_⟩
      have hu5 := C5.but _ _ (C4.ned nD) hu
      refine ⟨_, _, rfl, rfl, _, hu5, szl (by rw [List.length_map]; omega), us ++ [m - 3], (C4.trans C5).mut nD, nD, by rw [upd_same, List.map_append]; rfl, by rw [List.length_append, hul]; rfl, all_snoc hum (by omega), (k4.trans C5.kp).trans (Kp.lst hu5)⟩
    · rintro H4 ⟨us, C4, nD, hu, hul, hum, k4⟩
      refine ⟨D, _, rfl, .inl ⟨SqL.of hu, fun t2 ht2 => ?_⟩⟩
      refine alloc ht2 fun H5 s5 e5 => ?_
      refine ⟨t1, t2, _, _, rfl, rfl, s5 _ _ (k4 _ _ e3), e5, sz (by rw [List.length_map]; show 5 + _ ≤ _; omega), fun t3 H6 s6 e6 => ?_⟩
      have e6 : H6 t3 = some (.tup (([1, 1 + n5, 1 + n4, 0, 0] ++ us).map V.int)) := by rw [e6, List.map_append]; rfl
      have hwl : ([1, 1 + n5, 1 + n4, 0, 0] ++ us).length = 8 := by simp [hul]
      have hwm : ∀ x ∈ ([1, 1 + n5, 1 + n4, 0, 0] ++ us), -1000000 ≤ x ∧ x ≤ 1000000 := by
        intro x hx
        rcases List.mem_append.mp hx with q | q
        · simp only [List.mem_cons, List.not_mem_nil, or_false] at q
          omega
        · have := hum x q; omega
      revert e6 hwl hwm
      generalize ([1, 1 + n5, 1 + n4, 0, 0] ++ us) = ws
      intro e6 hwl hwm
      have C6 := (C4.same s5).same s6
      have hP := PB_le hn
      refine ⟨_, rfl, _, rfl, n, hn, d, sa, ns, 0, rfl, hn, C6.ent, fun l bs rs H7 C7 nl hl hR hz hT ho => ?_⟩
      have w0 : RowsL K H d sa ns t3 ws l 300 H7 := ⟨bs, rs, C6.trans C7, C7.kp _ _ e6, hl, hR, by omega, hT, fun r hr => (ho r hr).mono (by omega)⟩
      refine ⟨fun m σ H' => ∃ l, σ = [some (.ref d), some (.int (n : Int)), some (.ref t3), some (.ref l), none, none] ∧ RowsL K H d sa ns t3 ws l (39 + m * 300) H', ⟨1, l, rfl, ?_⟩, ?_⟩
      · obtain ⟨bs, rs, q1, q2, q3, q4, q5, q6⟩ := w0
        exact ⟨bs, rs, q1, q2, q3, q4, by omega, q6⟩
      rintro m σ H8 ⟨l, rfl, bs, rs, C8, ht3, hl, hR, hz, hT, ho⟩
      have hbr := Paired.length hR
      refine ⟨_, rfl, l, _, rfl, .inl (SqL.of hl), _, _, rfl, rfl, _, rfl, ite2 (fun c => ?_) (fun c => ?_)⟩
      · have c : (39 : Int) < (((bs.map V.ref).length : Nat) : Int) := of_decide_eq_true c
        rw [List.length_map, hbr] at c
        refine ⟨_, fun σ' H' q => q, _, rfl, 0, by decide, d, sa, ns, 0, rfl, by decide, C8.ent, fun l2 bs2 rs2 H9 C9 nl2 hl2 hR2 hz2 hT2 ho2 => ?_⟩
        refine ⟨0, ?_, l2, rfl, bs2, rs2, C8.trans C9, C9.kp _ _ ht3, hl2, hR2, ?_, hT2, fun r hr => (ho2 r hr).mono (by omega)⟩
        · cases m with
          | zero => omega
          | succ m => exact Nat.succ_pos m
        · have z : rs2.length ≤ 3 * 6 := hz2
          omega
      · have c : ¬ (39 : Int) < (((bs.map V.ref).length : Nat) : Int) := fun q => c (decide_eq_true q)
        rw [List.length_map, hbr] at c
        dsimp only
        refine seq_elim (fun σ' H' => ∃ l bs rs, σ' = [some (.ref d), some (.int (n : Int)), some (.ref t3), some (.ref l), none, none] ∧ Dc K H H' d sa ns ∧ H' t3 = some (.tup (ws.map V.int)) ∧ H' l = some (.lst (bs.map V.ref)) ∧ RowsAt H' bs rs ∧ 1 ≤ rs.length ∧ rs.length ≤ 39 ∧ 4 * tests rs ≤ rs.length ∧ ∀ r ∈ rs, r.ok 8 (rs.length + 1)) ?_ ?_
        · rintro σ' H9 ⟨l, bs, rs, rfl, C9, ht3, hl, hR, h1, h39, hT, ho⟩
          have hbr := Paired.length hR
          refine ⟨_, rfl, _, rfl, l, _, rfl, .inl ⟨SqL.of hl, fun t4 ht4 => ?_⟩⟩
          refine alloc ht4 fun H10 s10 e10 => ?_
          refine ⟨(by show 1 ≤ sizeLine; decide), fun t5 ht5 => ?_⟩
          refine alloc ht5 fun H11 s11 e11 => ?_
          refine ⟨(by show 1 ≤ sizeLine; decide), fun t6 ht6 => ?_⟩
          refine alloc ht6 fun H12 s12 e12 => ?_
          refine ⟨t4, t6, _, _, rfl, rfl, (s11.trans s12) _ _ e10, e12, sz (by rw [List.length_map]; show _ + 1 ≤ _; omega), fun t7 H13 s13 e13 => ?_⟩
          refine ⟨(by show 2 ≤ sizeLine; decide), fun t8 ht8 => ?_⟩
          refine alloc ht8 fun H14 s14 e14 => ?_
          have S914 := ((((s10.trans s11).trans s12).trans s13).trans s14)
          have C14 := C9.same S914
          have hP : ProgAt H14 t8 ⟨ws, rs ++ [.stop]⟩ := by
            refine ⟨t3, t7, bs ++ [t5], e14, S914 _ _ ht3, ?_, ?_⟩
            · rw [s14 _ _ e13, List.map_append]; rfl
            · exact Paired.app (hR.kp (Kp.same S914)) (Paired.one (((s12.trans s13).trans s14) _ _ e11))
          have hG : Good ⟨ws, rs ++ [.stop]⟩ := by
            refine ⟨?_, ?_, ?_, hwm, ?_⟩
            · show 1 ≤ (rs ++ [Row.stop]).length
              rw [List.length_append]; exact Nat.le_add_left 1 _
            · show (rs ++ [Row.stop]).length ≤ 40
              rw [List.length_append]; show _ + 1 ≤ 40; omega
            · show ws.length ≤ 8
              omega
            · intro r hr
              show r.ok ws.length (rs ++ [Row.stop]).length
              rw [hwl, List.length_append]
              rcases List.mem_append.mp hr with q | q
              · exact ho r q
              · rw [List.mem_singleton.mp q]; trivial
          have hTs : 4 * tests (rs ++ [Row.stop]) ≤ (rs ++ [Row.stop]).length := by
            rw [tests_app, tests_one, isT_stop, List.length_append]
            omega
          refine ⟨_, rfl, d, sa, ns, _, rfl, C14.ent, by decide, by decide, fun n2 H15 m0 m1 C15 => ?_⟩
          refine ⟨rfl, _, rfl, ite2 (fun _ => ?_) (fun _ => ?_)⟩
          · exact ⟨_, rfl, _, rfl, d, sa, ns, t8, _, rfl, C15.ent, hP.kp C15.kp, hG, fun b q H16 C16 hp hg hT1 hT2 => kq b q H16 ((C14.trans C15).trans C16) hp hg (by rw [hT1, hT2]; exact hTs)⟩
          · exact ⟨_, rfl, kq t8 _ H15 (C14.trans C15) (hP.kp C15.kp) hG hTs⟩
        · intro N hN
          refine ⟨_, rfl, Nat.zero_le _, fun e he => ?_⟩
          refine alloc he fun H9 s9 e9 => ?_
          have C9 := C8.same s9
          refine eq_nil (s9 _ _ hl) (hR.kp (Kp.same s9)) e9 ⟨_, rfl, ?_⟩
          cases rs with
          | nil =>
            refine ⟨_, rfl, d, sa, ns, 0, rfl, C9.ent, fun t r H10 C10 ht hp ho2 => ?_⟩
            refine ⟨(by show 1 ≤ sizeLine; decide), fun l9 hl9 => hN _ _ ?_⟩
            exact ⟨l9, [t], [r], rfl, (C9.trans C10).new hl9, (C10.kp.trans (Kp.new hl9)) _ _ (s9 _ _ ht3), upd_same, Paired.one (Kp.new hl9 _ _ ht), Nat.le_refl _, (by show 1 ≤ 39; decide), (by rw [tests_one, isT_plain hp]; exact Nat.zero_le _), fun y hy => by rw [List.mem_singleton.mp hy]; exact ho2⟩
          | cons r rs =>
            exact hN _ _ ⟨l, bs, r :: rs, rfl, C9, s9 _ _ ht3, s9 _ _ hl, hR.kp (Kp.same s9), by simp, by omega, hT, ho⟩
end
end DL
namespace DL
open PySem L2 DLR
theorem word5 {a : Nat} {j : Nat} (hj : j < 5) : ∃ wd : Str, ([V.str "load", V.str "add", V.str "take", V.str "store", V.str "add"] : List V)[j]? = some (.str wd) ∧ ∀ x y : Nat, ∃ r : Row, rowVs r = [.str wd, .int (x : Int), .int (y : Int)] ∧ ∀ W N, x < W → y < N → r.ok W N := by
  match j, hj with
  | 0, _ => exact ⟨_, rfl, fun x y => ⟨.load x y, rfl, fun _ _ p q => ⟨p, q⟩⟩⟩
  | 1, _ => exact ⟨_, rfl, fun x y => ⟨.add x y, rfl, fun _ _ p q => ⟨p, q⟩⟩⟩
  | 2, _ => exact ⟨_, rfl, fun x y => ⟨.take x y, rfl, fun _ _ p q => ⟨p, q⟩⟩⟩
  | 3, _ => exact ⟨_, rfl, fun x y => ⟨.store x y, rfl, fun _ _ p q => ⟨p, q⟩⟩⟩
  | 4, _ => exact ⟨_, rfl, fun x y => ⟨.add x y, rfl, fun _ _ p q => ⟨p, q⟩⟩⟩
def AnyAt (K : Frg) (H0 : Hp) (d sa : Addr) (ns : List Int) (wt : Addr) (us : List Int) (l : Addr) (N : Nat) (i : Nat) (H : Hp) : Prop :=
  ∃ bs rs, Dc K H0 H d sa ns ∧ H0 l = none ∧ H wt = some (.tup (us.map V.int)) ∧ H l = some (.lst (bs.map V.ref)) ∧ RowsAt H bs rs ∧ rs.length = i ∧ ∀ r ∈ rs, r.ok us.length N
theorem AnyAt.put {K : Frg} {H0 H : Hp} {d sa : Addr} {ns : List Int} {wt : Addr} {us : List Int} {l : Addr} {N : Nat} {i : Nat} {bs : List Addr} {rs : List Row} {t : Addr} {r : Row} (C : Dc K H0 H d sa ns) (n0 : H0 l = none) (hw : H wt = some (.tup (us.map V.int)))
    (hl : H l = some (.lst (bs.map V.ref))) (hR : RowsAt H bs rs) (hi : rs.length = i) (ho : ∀ r ∈ rs, r.ok us.length N) (ht : H t = some (.tup (rowVs r))) (hr : r.ok us.length N) : AnyAt K H0 d sa ns wt us l N (i + 1) (upd H l (.lst (bs.map V.ref ++ [.ref t]))) := by
  have k : Kp H (upd H l (.lst (bs.map V.ref ++ [.ref t]))) := Kp.lst hl
  exact ⟨bs ++ [t], rs ++ [r], C.mut n0, n0, k _ _ hw, by rw [upd_same, List.map_append]; rfl, RowsAt.kp (Paired.app hR (Paired.one ht)) k, by rw [List.length_append, hi]; rfl, all_snoc ho hr⟩
abbrev sAny : Stmt := top 111
abbrev FAny (K : Frg) (mg : Str → Option Value) := Fd K mg "_law_any" sAny ["_law_d"]
def spAny (K : Frg) : Sp := fun vs H Q _ => ∃ (d sa : Addr) (ns : List Int), vs = [.ref d] ∧ Ent K H d sa ns ∧
  ∀ b q H', Dc K H H' d sa ns → ProgAt H' b q → Good q → Q (.ref b) H'
section
variable {P : Program} {w : World} {K : PySem.W.Frag} {mg : Str → Option Value} {base : Heap}
abbrev nAny : List Str := ["_law_d", "_law_many", "_law_rows", "_law_worths", "_law_size", "_law_number", "_law_near", "_law_way", "_law_k"]
theorem scAny : FnScope nAny ["_law_d"] (defScope sAny) := ⟨rfl, rfl, rfl, by decide +kernel, rfl, by decide +kernel, by decide +kernel⟩
theorem ok_any (cAny : FAny K mg) (cStopping : FStopping K mg) (cMixed : FMixed K mg) (cBody : FBody K mg) (cFork : FFork K mg) (cStraight : FStraight K mg) (cNext : FNext K mg) (T : Bt mg) : FnOk P w K mg base CX0 8 cAny.f cAny.fd ["_law_d"] (spAny K) := by
  have GNext : FnOk P w K mg base CX0 1 cNext.f cNext.fd ["_law_dice_here", "_law_many"] (spNext K) := ok_next cNext.F T
  have GStopping : FnOk P w K mg base CX0 7 cStopping.f cStopping.fd pStopping (spStopping K) := ok_stopping cStopping cMixed cBody cFork cStraight cNext T
  refine cAny.F.ok scAny (fun vs H Q E h => ?_) (fun cdv A outer s H vs Q E hr h => ?_)
  · obtain ⟨d, sa, ns, rfl, _⟩ := h
    rfl
  · obtain ⟨d, sa, ns, rfl, hE, kq⟩ := h
    refine ⟨_, (pss_cons (ps_if (pt_cmpR op_gt (pe_call GNext (hr.mono (by first | omega | decide)) (by rfl) cNext.m cNext.F.kp cNext.b .nil pass0 (pa_cons (pv 0) (pa_cons pe_int pa_nil))) pe_int (nomark _))
          (pss_one (ps_ret (pe_call GStopping (hr.mono (by first | omega | decide)) (by rfl) cStopping.m cStopping.F.kp cStopping.b .nil pass0 (pa_cons (pv 0) (pa_cons (pe_call GNext (hr.mono (by first | omega | decide)) (by rfl) cNext.m cNext.F.kp cNext.b .nil pass0 (pa_cons (pv 0) (pa_cons pe_int pa_nil))) pa_nil)))))
          pss_nil)
      (pss_cons (ps_par (i := 1) (j := 2) (by rfl) scAny.nd rfl rfl (by decide) rfl rfl (pa_cons (pe_call GNext (hr.mono (by first | omega | decide)) (by rfl) cNext.m cNext.F.kp cNext.b .nil pass0 (pa_cons (pv 0) (pa_cons pe_int pa_nil))) (pa_cons (pe_lst pa_nil) pa_nil)) (by rfl))
      (pss_cons (ps_set (i := 3) scAny.nd rfl (Or.inl rfl) (pe_callTy call_tuple_of (by rfl) T.tuple (by decide +kernel) (pa_cons (pe_lc (own := [("_law_k", 8)]) (g := gName 8) (tt := tYes) rfl scAny.nd (pi_range1 rfl T.range (pa_cons (pv 1) pa_nil)) (blkOk_by (N := nAny) (sc := defScope sAny) (by decide +kernel)) (fun _ _ _ _ _ => (pg_name (i := 8) scAny.nd rfl (Or.inl rfl))) (fun _ _ _ _ _ => pts_nil) (fun _ _ _ _ _ => (pe_ix (ix_listK K rfl) (pe_lst (pa_cons (pe_op op_sub (pe_call GNext (hr.mono (by first | omega | decide)) (by rfl) cNext.m cNext.F.kp cNext.b .nil pass0 (pa_cons (pv 0) (pa_cons pe_int pa_nil))) pe_int) (pa_cons (pe_op op_sub (pe_call GNext (hr.mono (by first | omega | decide)) (by rfl) cNext.m cNext.F.kp cNext.b .nil pass0 (pa_cons (pv 0) (pa_cons pe_int pa_nil))) (pe_op op_pow pe_int pe_int)) pa_nil))) (pe_call GNext (hr.mono (by first | omega | decide)) (by rfl) cNext.m cNext.F.kp cNext.b .nil pass0 (pa_cons (pv 0) (pa_cons pe_int pa_nil))) (fun _ _ => rfl)))) pa_nil)))
      (pss_cons (ps_set (i := 4) scAny.nd rfl (Or.inl rfl) (pe_op op_add pe_int (pe_call GNext (hr.mono (by first | omega | decide)) (by rfl) cNext.m cNext.F.kp cNext.b .nil pass0 (pa_cons (pv 0) (pa_cons (pe_ix ix_list (pe_lst (pa_cons pe_int (pa_cons pe_int (pa_cons pe_int pa_nil)))) (pe_call GNext (hr.mono (by first | omega | decide)) (by rfl) cNext.m cNext.F.kp cNext.b .nil pass0 (pa_cons (pv 0) (pa_cons pe_int pa_nil))) (fun _ _ => rfl)) pa_nil)))))
      (pss_cons (ps_for PassesOwn.never rfl (pi_range1 rfl T.range (pa_cons (pv 4) pa_nil)) (pg_name (i := 5) scAny.nd rfl (Or.inl rfl))
          (pss_cons (ps_set (i := 6) scAny.nd rfl (Or.inl rfl) (pe_ix ix_list (pe_lst (pa_cons (pe_op op_mod (pe_op op_add (pv 5) pe_int) (pv 4)) (pa_cons (pe_call GNext (hr.mono (by first | omega | decide)) (by rfl) cNext.m cNext.F.kp cNext.b .nil pass0 (pa_cons (pv 0) (pa_cons (pv 4) pa_nil))) pa_nil))) (pe_callTy call_int1 (by rfl) T.int (by decide +kernel) (pa_cons (pe_cmpR op_eq (pe_call GNext (hr.mono (by first | omega | decide)) (by rfl) cNext.m cNext.F.kp cNext.b .nil pass0 (pa_cons (pv 0) (pa_cons pe_int pa_nil))) pe_int (nomark _)) pa_nil)) (fun _ _ => rfl)))
          (pss_cons (ps_set (i := 7) scAny.nd rfl (Or.inl rfl) (pe_call GNext (hr.mono (by first | omega | decide)) (by rfl) cNext.m cNext.F.kp cNext.b .nil pass0 (pa_cons (pv 0) (pa_cons pe_int pa_nil))))
          (pss_one (ps_if (PW.pt (pw_and (pt_cmpR op_lt (pv 7) pe_int (nomark _)) (pw_and1 (pt_cmpR op_gt (pv 1) pe_int (nomark _)))))
              (pss_one (ps_expr (pe_bm PySem.F.plainAttrs_list PySem.F.slot_list_append PySem.F.type_list_append mt_append (pv 2) (pa_cons (pe_tup (pa_cons (pe_ix ix_list (pe_lst (pa_cons pe_str (pa_cons pe_str (pa_cons pe_str (pa_cons pe_str (pa_cons pe_str pa_nil)))))) (pv 7) (fun _ _ => rfl)) (pa_cons (pe_call GNext (hr.mono (by first | omega | decide)) (by rfl) cNext.m cNext.F.kp cNext.b .nil pass0 (pa_cons (pv 0) (pa_cons (pv 1) pa_nil))) (pa_cons (pv 6) pa_nil)))) pa_nil))))
              (pss_one (ps_expr (pe_bm PySem.F.plainAttrs_list PySem.F.slot_list_append PySem.F.type_list_append mt_append (pv 2) (pa_cons (pe_ix ix_list (pe_lst (pa_cons (pe_tup (pa_cons pe_str (pa_cons (pv 6) pa_nil))) (pa_cons (pe_tup (pa_cons pe_str (pa_cons (pe_call GNext (hr.mono (by first | omega | decide)) (by rfl) cNext.m cNext.F.kp cNext.b .nil pass0 (pa_cons (pv 0) (pa_cons (pv 4) pa_nil))) (pa_cons (pv 6) pa_nil)))) (pa_cons (pe_tup (pa_cons pe_str pa_nil)) pa_nil)))) (pe_op op_mod (pv 7) pe_int) (fun _ _ => rfl)) pa_nil)))))))))
      (pss_one (ps_ret (pe_tup (pa_cons (pv 3) (pa_cons (pe_callTy call_tuple_of (by rfl) T.tuple (by decide +kernel) (pa_cons (pv 2) pa_nil)) pa_nil)))))))))), ?_⟩
    refine ⟨_, rfl, d, sa, ns, _, rfl, hE, by decide, by decide, fun n0 H1 a0 a1 C1 => ?_⟩
    refine ⟨_, _, rfl, rfl, _, rfl, ite2 (fun _ => ?_) (fun _ => ?_)⟩
    · refine ⟨_, rfl, _, rfl, d, sa, ns, _, rfl, C1.ent, by decide, by decide, fun n1 H2 b0 b1 C2 => ?_⟩
      refine ⟨d, sa, ns, n1.toNat, ?_, by omega, C2.ent, fun b q H3 C3 hp hg _ => kq b q H3 ((C1.trans C2).trans C3) hp hg⟩
      show [V.ref d, V.int n1] = _
      rw [Int.toNat_of_nonneg b0]
    refine ⟨_, rfl, d, sa, ns, _, rfl, C1.ent, by decide, by decide, fun many H2 b0 b1 C2 => ?_⟩
    obtain ⟨mn, rfl⟩ : ∃ mn : Nat, many = (mn : Int) := ⟨many.toNat, by omega⟩
    refine ⟨Nat.zero_le _, fun l hl => ?_⟩
    refine alloc hl fun H3 s3 e3 => ?_
    have C3 := (C1.trans C2).same s3
    have nl : H l = none := (C1.trans C2).here hl
    refine ⟨_, _, rfl, ?_⟩
    refine ⟨_, rfl, _, rfl, by omega, by omega, fun D hD => ?_⟩
    have nlD : l ≠ D := ne_of_none e3 hD
    refine lc_range (lo := 0) (n := (mn : Int).toNat) (fun i H4 => ∃ us : List Int, Dc K H H4 d sa ns ∧ H D = none ∧ H4 D = some (.lst (us.map V.int)) ∧ us.length = i ∧ (∀ x ∈ us, -1000000 ≤ x ∧ x ≤ 1000000) ∧ H4 l = some (.lst []))
      ⟨[], C3.new hD, C3.here hD, upd_same, rfl, fun _ h => absurd h (by simp), by rw [upd_ne nlD]; exact e3⟩ ?_ ?_
    · rintro i H4 hi ⟨us, C4, nD, hu, hul, hum, hl4⟩
      refine ⟨rfl, _, rfl, d, sa, ns, _, rfl, C4.ent, by decide, by decide, fun m1 H5 m10 m11 C5 => ?_⟩
      refine ⟨_, _, rfl, rfl, _, rfl, d, sa, ns, _, rfl, C5.ent, by decide, by decide, fun m2 H6 m20 m21 C6 => ?_⟩
      refine ⟨_, _, rfl, rfl, ⟨by decide, by decide, by decide⟩, _, _, rfl, rfl, (by show 2 ≤ sizeLine; decide), fun lx hlx => ?_⟩
      refine alloc hlx fun H7 s7 e7 => ?_
      have C7 := (C5.trans C6).same s7
      refine ⟨_, rfl, d, sa, ns, _, rfl, C7.ent, by decide, by decide, fun m3 H8 m30 m31 C8 => ?_⟩
      have C48 := C7.trans C8
      have hu8 := C48.but _ _ (C4.ned nD) hu
      have hl8 := C48.but _ _ (C4.ned nl) hl4
      have hx8 := C8.but _ _ (((C4.trans C5).trans C6).ned (((C4.trans C5).trans C6).here hlx)) e7
      have e6 : ((10 : Int) ^ (6 : Int).toNat) = 1000000 := by decide
      obtain ⟨z, hz, hz1, hz2⟩ : ∃ z : Int, atI ([V.int (m1 - 4), V.int (m2 - (10 : Int) ^ (6 : Int).toNat)] : List V) m3 = some (.int z) ∧ -1000000 ≤ z ∧ z ≤ 1000000 := by
        rcases (show m3 = 0 ∨ m3 = 1 by omega) with q | q
        · exact ⟨m1 - 4, by rw [q]; exact at0, by omega, by omega⟩
        · exact ⟨m2 - 1000000, by rw [q, e6]; exact at1, by omega, by omega⟩
      refine ⟨lx, _, _, _, rfl, rfl, SqL.of hx8, hz, _, hu8, szl (by rw [List.length_map]; omega), us ++ [z], (C4.trans C48).mut nD, nD, by rw [upd_same, List.map_append]; rfl, by rw [List.length_append, hul]; rfl, all_snoc hum ⟨hz1, hz2⟩, by rw [upd_ne nlD]; exact hl8⟩
    · rintro H4 ⟨us, C4, nD, hu, hul, hum, hl4⟩
      rw [Int.toNat_natCast] at hul
      refine ⟨D, _, rfl, .inl ⟨SqL.of hu, fun wt hwt => ?_⟩⟩
      refine alloc hwt fun H5 s5 e5 => ?_
      have C5 := C4.same s5
      refine ⟨_, rfl, (by show 3 ≤ sizeLine; decide), fun ly hly => ?_⟩
      refine alloc hly fun H6 s6 e6 => ?_
      have C6 := C5.same s6
      refine ⟨_, rfl, d, sa, ns, _, rfl, C6.ent, by decide, by decide, fun m3 H7 m30 m31 C7 => ?_⟩
      have C67 := C6.trans C7
      obtain ⟨z, hz, hz1, hz2⟩ : ∃ z : Int, atI ([V.int 6, V.int 12, V.int 40] : List V) m3 = some (.int z) ∧ 0 < z ∧ z ≤ 40 := by
        rcases (show m3 = 0 ∨ m3 = 1 ∨ m3 = 2 by omega) with q | q | q
        · exact ⟨6, by rw [q]; exact at0, by decide, by decide⟩
        · exact ⟨12, by rw [q]; exact at1, by decide, by decide⟩
        · exact ⟨40, by rw [q]; exact at2, by decide, by decide⟩
      refine ⟨ly, _, _, _, rfl, rfl, SqL.of (C7.but _ _ (C5.ned (C5.here hly)) e6), hz, d, sa, ns, _, rfl, C67.ent, hz1, by omega, fun m4 H8 m40 m41 C8 => ?_⟩
      refine ⟨_, _, rfl, rfl, ?_⟩
      have C8' := C67.trans C8
      obtain ⟨N, hN⟩ : ∃ N : Nat, 1 + m4 = (N : Int) := ⟨(1 + m4).toNat, by omega⟩
      have hN1 : 1 ≤ N := by omega
      have hN40 : N ≤ 40 := by omega
      refine ⟨_, rfl, 1 + m4, rfl, by omega, by omega, ?_⟩
      refine for_range (lo := 0) (n := (1 + m4).toNat) (fun i σ H' => ∃ x5 x6 x7 : Option V, σ = [some (.ref d), some (.int (mn : Int)), some (.ref l), some (.ref wt), some (.int (N : Int)), x5, x6, x7, none] ∧ AnyAt K H d sa ns wt us l N i H')
        ⟨none, none, none, by rw [← hN]; rfl, [], [], C8', nl, (C7.kp.trans C8.kp) _ _ (s6 _ _ e5), (C7.trans C8).but _ _ (C6.ned nl) ((s5.trans s6) _ _ hl4), .nil, rfl, fun _ h => absurd h (by simp)⟩ ?_ ?_
      · rintro i σ H9 hi ⟨x5, x6, x7, rfl, bs, rs, C9, _, hw9, hl9, hR, hil, ho⟩
        have hbr := Paired.length hR
        have hiN : i < N := by omega
        refine ⟨_, rfl, _, _, rfl, rfl, _, rfl, _, _, rfl, rfl, (by omega), _, rfl, _, rfl, d, sa, ns, _, rfl, C9.ent, (by omega), (by omega), fun m5 H10 m50 m51 C10 => ?_⟩
        refine ⟨(by show 2 ≤ sizeLine; decide), fun lz hlz => ?_⟩
        refine alloc hlz fun H11 s11 e11 => ?_
        have C11 := C10.same s11
        refine ⟨_, rfl, d, sa, ns, _, rfl, C11.ent, by decide, by decide, fun m6 H12 m60 m61 C12 => ?_⟩
        obtain ⟨z, hz, hzN⟩ : ∃ z : Nat, atI ([V.int ((0 + (i : Int) + 1) % (N : Int)), V.int m5] : List V) (if decide (V.int m6 = V.int 3) = true then 1 else 0) = some (.int (z : Int)) ∧ z < N := by
          by_cases c : decide (V.int m6 = V.int 3) = true
          · rw [if_pos c]
            obtain ⟨z, q⟩ : ∃ z : Nat, m5 = (z : Int) := ⟨m5.toNat, by omega⟩
            exact ⟨z, by rw [q]; exact at1, by omega⟩
          · rw [if_neg c]
            have q0 := Int.emod_nonneg (0 + (i : Int) + 1) (show (N : Int) ≠ 0 by omega)
            have q1 := Int.emod_lt_of_pos (0 + (i : Int) + 1) (show (0 : Int) < (N : Int) by omega)
            obtain ⟨z, q⟩ : ∃ z : Nat, (0 + (i : Int) + 1) % (N : Int) = (z : Int) := ⟨((0 + (i : Int) + 1) % (N : Int)).toNat, by omega⟩
            exact ⟨z, by rw [q]; exact at0, by omega⟩
        have C912 := C11.trans C12
        refine ⟨rfl, .inr ⟨_, rfl, lz, _, _, _, rfl, rfl, SqL.of (C12.but _ _ (C10.ned (C10.here hlz)) e11), hz, ?_⟩⟩
        refine ⟨_, rfl, d, sa, ns, _, rfl, C912.ent, by decide, by decide, fun wy H13 w0 w1 C13 => ?_⟩
        dsimp only [gName]
        have C913 := C912.trans C13
        have hl13 := C913.but _ _ (C9.ned nl) hl9
        have hw13 := C913.kp _ _ hw9
        have hR13 := hR.kp C913.kp
        refine if_elim (fun b H' => H' = H13 ∧ (b = true → wy < 5 ∧ 0 < mn)) ?_ ?_
        · rintro bb _ ⟨rfl, hbb⟩
          cases bb with
          | true =>
            obtain ⟨hw5, hm0⟩ := hbb rfl
            refine ⟨_, rfl, .inl ⟨rfl, _, SqL.of hl13⟩, (by show 5 ≤ sizeLine; decide), fun l5 hl5 => ?_⟩
            refine alloc hl5 fun H14 s14 e14 => ?_
            obtain ⟨j, rfl⟩ : ∃ j : Nat, wy = (j : Int) := ⟨wy.toNat, by omega⟩
            obtain ⟨wd, hwd, hrow⟩ := word5 (a := 0) (j := j) (by omega)
            have C14 := C913.same s14
            refine ⟨_, rfl, l5, _, _, _, rfl, rfl, SqL.of e14, atI_nat hwd, ?_⟩
            refine ⟨_, rfl, _, rfl, d, sa, ns, _, rfl, C14.ent, (by omega), (by omega), fun m7 H15 m70 m71 C15 => ?_⟩
            obtain ⟨y, rfl⟩ : ∃ y : Nat, m7 = (y : Int) := ⟨m7.toNat, by omega⟩
            obtain ⟨r, hr1, hr2⟩ := hrow y z
            refine ⟨_, rfl, (by show 3 ≤ sizeLine; decide), fun t ht => ?_⟩
            refine alloc ht fun H16 s16 e16 => ?_
            have C16 := (C14.trans C15).same s16
            have hl16 := C16.but _ _ (C9.ned nl) hl9
            refine ⟨l, _, _, rfl, rfl, hl16, szl (by rw [List.length_map]; omega), _, _, _, rfl, ?_⟩
            exact AnyAt.put (C9.trans C16) nl (C16.kp _ _ hw9) hl16 (hR.kp C16.kp) hil ho (by rw [e16, hr1]) (hr2 _ _ (by omega) hzN)
          | false =>
            refine ⟨_, rfl, .inl ⟨rfl, _, SqL.of hl13⟩, _, rfl, (by show 2 ≤ sizeLine; decide), fun t1 ht1 => ?_⟩
            refine alloc ht1 fun H14 s14 e14 => ?_
            have C14 := C913.same s14
            refine ⟨_, rfl, _, rfl, d, sa, ns, _, rfl, C14.ent, (by omega), (by omega), fun m7 H15 m70 m71 C15 => ?_⟩
            obtain ⟨y, rfl⟩ : ∃ y : Nat, m7 = (y : Int) := ⟨m7.toNat, by omega⟩
            refine ⟨_, rfl, (by show 3 ≤ sizeLine; decide), fun t2 ht2 => ?_⟩
            refine alloc ht2 fun H16 s16 e16 => ?_
            refine ⟨(by show 1 ≤ sizeLine; decide), fun t3 ht3 => ?_⟩
            refine alloc ht3 fun H17 s17 e17 => ?_
            refine ⟨(by show 3 ≤ sizeLine; decide), fun lx hlx => ?_⟩
            refine alloc hlx fun H18 s18 e18 => ?_
            have C18 := (((C14.trans C15).same s16).same s17).same s18
            obtain ⟨t, r, hat, htr, hrr⟩ : ∃ (t : Addr) (r : Row), atI ([V.ref t1, V.ref t2, V.ref t3] : List V) (wy % 3) = some (.ref t) ∧ H18 t = some (.tup (rowVs r)) ∧ r.ok us.length N := by
              have S18 := s17.trans s18
              rcases (show wy % 3 = 0 ∨ wy % 3 = 1 ∨ wy % 3 = 2 by omega) with q | q | q
              · exact ⟨t1, .say z, by rw [q]; exact at0, (C15.kp.trans (Kp.same (s16.trans S18))) _ _ e14, hzN⟩
              · exact ⟨t2, .test y z, by rw [q]; exact at1, S18 _ _ e16, by omega, hzN⟩
              · exact ⟨t3, .stop, by rw [q]; exact at2, s18 _ _ e17, trivial⟩
            have hl18 := C18.but _ _ (C9.ned nl) hl9
            refine ⟨_, rfl, _, _, rfl, rfl, (by show (0 : Int) < 3; decide), lx, _, _, _, rfl, rfl, SqL.of e18, hat, l, _, _, rfl, rfl, hl18, szl (by rw [List.length_map]; omega), _, _, _, rfl, ?_⟩
            exact AnyAt.put (C9.trans C18) nl (C18.kp _ _ hw9) hl18 (hR.kp C18.kp) hil ho htr hrr
        · intro F' hF
          refine ⟨_, rfl, _, _, rfl, rfl, _, rfl, ite2 (fun c => ?_) (fun _ => hF _ _ ⟨rfl, fun e => Bool.noConfusion e⟩)⟩
          have c := of_decide_eq_true c
          refine ⟨_, rfl, _, _, rfl, rfl, _, rfl, hF _ _ ⟨rfl, fun e => ⟨c, ?_⟩⟩⟩
          have e := of_decide_eq_true e
          omega
      · rintro σ H9 ⟨x5, x6, x7, rfl, bs, rs, C9, _, hw9, hl9, hR, hil, ho⟩
        have hbr := Paired.length hR
        refine ⟨_, rfl, _, rfl, l, _, rfl, .inl ⟨SqL.of hl9, fun t1 ht1 => ?_⟩⟩
        refine alloc ht1 fun H10 s10 e10 => ?_
        refine ⟨(by show 2 ≤ sizeLine; decide), fun t2 ht2 => ?_⟩
        refine alloc ht2 fun H11 s11 e11 => ?_
        have S := s10.trans s11
        have hNl : rs.length = N := by omega
        refine kq t2 ⟨us, rs⟩ H11 (C9.same S) ⟨wt, t1, bs, e11, S _ _ hw9, s11 _ _ e10, hR.kp (Kp.same S)⟩ ⟨?_, ?_, ?_, hum, ?_⟩
        · show 1 ≤ rs.length
          omega
        · show rs.length ≤ 40
          omega
        · show us.length ≤ 8
          omega
        · intro r hr
          show r.ok us.length rs.length
          rw [hNl]
          exact ho r hr
end
end DL
namespace DL
open PySem L2 DLR
/-! ### the machine -/
def ring (n : Int) : Int := (n + 1000000000) % 2000000000 - 1000000000
structure Mach where
  desk : Int
  ws : List Int
  said : List Int
def InR (x : Int) : Prop := -1000000000 ≤ x ∧ x < 1000000000
theorem ring_in (n : Int) : InR (ring n) := by
  have h0 := Int.emod_nonneg (n + 1000000000) (show (2000000000 : Int) ≠ 0 by decide)
  have h1 := Int.emod_lt_of_pos (n + 1000000000) (show (0 : Int) < 2000000000 by decide)
  unfold ring InR
  omega
theorem ring_id {n : Int} (h : InR n) : ring n = n := by
  unfold ring
  rw [Int.emod_eq_of_lt (by unfold InR at h; omega) (by unfold InR at h; omega)]
  omega
theorem ring_add (a b : Int) : ring (ring a + b) = ring (a + b) := by
  unfold ring
  have e : (a + 1000000000) % 2000000000 - 1000000000 + b + 1000000000 = (a + 1000000000) % 2000000000 + b := by omega
  rw [e, Int.emod_add_emod]
  have e2 : a + 1000000000 + b = a + b + 1000000000 := by omega
  rw [e2]
structure MOk (m : Mach) : Prop where
  desk : InR m.desk
  ws : ∀ x ∈ m.ws, InR x
def Mach.at (m : Mach) (w : Nat) : Int := m.ws.getD w 0
def stepM (m : Mach) : Row → Mach × Option Nat
  | .load w n => ({ m with desk := m.at w }, some n)
  | .add w n => ({ m with desk := ring (m.desk + m.at w) }, some n)
  | .take w n => ({ m with desk := ring (m.desk - m.at w) }, some n)
  | .store w n => ({ m with ws := m.ws.set w m.desk }, some n)
  | .say n => ({ m with said := m.said ++ [m.desk] }, some n)
  | .test a b => (m, some (if m.desk = 0 then a else b))
  | .stop => (m, none)
theorem at_in {m : Mach} (h : MOk m) {w : Nat} (hw : w < m.ws.length) : m.ws[w]? = some (m.at w) ∧ InR (m.at w) := by
  have e : m.ws[w]? = some (m.at w) := by
    unfold Mach.at
    rw [List.getD_eq_getElem?_getD, List.getElem?_eq_getElem hw]
    rfl
  exact ⟨e, h.ws _ (List.mem_of_getElem? e)⟩
theorem stepM_ok {m : Mach} (h : MOk m) {r : Row} {N : Nat} (ho : r.ok m.ws.length N) : MOk (stepM m r).1 ∧ (stepM m r).1.ws.length = m.ws.length ∧ (stepM m r).1.said.length ≤ m.said.length + 1 ∧ ∀ n, (stepM m r).2 = some n → n < N := by
  cases r with
  | load w n => exact ⟨⟨(at_in h ho.1).2, h.ws⟩, rfl, Nat.le_succ _, fun k e => by cases e; exact ho.2⟩
  | add w n => exact ⟨⟨ring_in _, h.ws⟩, rfl, Nat.le_succ _, fun k e => by cases e; exact ho.2⟩
  | take w n => exact ⟨⟨ring_in _, h.ws⟩, rfl, Nat.le_succ _, fun k e => by cases e; exact ho.2⟩
  | store w n =>
    refine ⟨⟨h.desk, fun x hx => ?_⟩, List.length_set .., Nat.le_succ _, fun k e => by cases e; exact ho.2⟩
    rcases List.mem_or_eq_of_mem_set hx with q | q
    · exact h.ws x q
    · rw [q]; exact h.desk
  | say n => exact ⟨⟨h.desk, h.ws⟩, rfl, by show (m.said ++ [m.desk]).length ≤ _; rw [List.length_append]; exact Nat.le_refl _, fun k e => by cases e; exact ho⟩
  | test a b =>
    refine ⟨h, rfl, Nat.le_succ _, fun k e => ?_⟩
    have e : (if m.desk = 0 then a else b) = k := Option.some.inj e
    rw [← e]
    split
    · exact ho.1
    · exact ho.2
  | stop => exact ⟨h, rfl, Nat.le_succ _, fun k e => by cases e⟩
def oV : Option Nat → V
  | none => .non
  | some n => .int (n : Int)
/-! ### the law's own machine: a dict -/
def kW : Key := .inr "worths"
def kD : Key := .inr "desk"
def kS : Key := .inr "said"
theorem k_WD : kW ≠ kD := by decide +kernel
theorem k_WS : kW ≠ kS := by decide +kernel
theorem k_DS : kD ≠ kS := by decide +kernel
structure LawM (ex : Key → Option V) (H : Hp) (ad aw as_ : Addr) (m : Mach) : Prop where
  dic : ∃ kvs : List (Key × V), H ad = some (.dK kvs) ∧ kvs.length ≤ 100 ∧ valV kvs kW = some (.ref aw) ∧ valV kvs kD = some (.int m.desk) ∧ valV kvs kS = some (.ref as_) ∧ ∀ k, k ≠ kW → k ≠ kD → k ≠ kS → valV kvs k = ex k
  ws : H aw = some (.lst (m.ws.map V.int))
  said : H as_ = some (.lst (m.said.map V.int))
  ne : aw ≠ as_
def But3 (a b c : Addr) (H H' : Hp) : Prop := ∀ x o, x ≠ a → x ≠ b → x ≠ c → H x = some o → H' x = some o
theorem But3.of {a b c : Addr} {H H' : Hp} (s : Same1 H H') : But3 a b c H H' := fun x o _ _ _ h => s x o h
theorem But3.trans {a b c : Addr} {H H1 H2 : Hp} (s : But3 a b c H H1) (t : But3 a b c H1 H2) : But3 a b c H H2 := fun x o h1 h2 h3 h => t x o h1 h2 h3 (s x o h1 h2 h3 h)
theorem But3.upd1 {a b c : Addr} {H : Hp} {o : HO} : But3 a b c H (upd H a o) := fun x u h _ _ e => by rw [upd_ne h]; exact e
theorem But3.upd2 {a b c : Addr} {H : Hp} {o : HO} : But3 a b c H (upd H b o) := fun x u _ h _ e => by rw [upd_ne h]; exact e
theorem But3.upd3 {a b c : Addr} {H : Hp} {o : HO} : But3 a b c H (upd H c o) := fun x u _ _ h e => by rw [upd_ne h]; exact e
theorem LawM.same {ex : Key → Option V} {H H' : Hp} {ad aw as_ : Addr} {m : Mach} (h : LawM ex H ad aw as_ m) (s : Same1 H H') : LawM ex H' ad aw as_ m := by
  obtain ⟨⟨kvs, h1, h2⟩, h3, h4, h5⟩ := h
  exact ⟨⟨kvs, s _ _ h1, h2⟩, s _ _ h3, s _ _ h4, h5⟩
theorem put_len {κ : Type} [DecidableEq κ] {kvs : List (κ × V)} {k : κ} {v x : V} (h : valV kvs k = some x) : (putK kvs k v).length = kvs.length := by
  unfold putK
  rw [valV_any, h, if_pos (by rfl), List.length_map]
theorem LawM.put {ex : Key → Option V} {H : Hp} {ad aw as_ : Addr} {m : Mach} {kvs : List (Key × V)} {z : Int} (h : LawM ex H ad aw as_ m) (e : H ad = some (.dK kvs)) : LawM ex (upd H ad (.dK (putK kvs kD (.int z)))) ad aw as_ { m with desk := z } := by
  obtain ⟨⟨kvs', h1, h2, h3, h4, h5, h9⟩, h6, h7, h8⟩ := h
  rw [e] at h1
  have q : kvs = kvs' := by injection (Option.some.inj h1)
  subst q
  have nw : aw ≠ ad := ne_of h6 e (by intro z; cases z)
  have ns : as_ ≠ ad := ne_of h7 e (by intro z; cases z)
  refine ⟨⟨putK kvs kD (.int z), upd_same, by rw [put_len h4]; exact h2, ?_, ?_, ?_, fun k a b c => by rw [valV_put, if_neg (fun z => b z)]; exact h9 k a b c⟩, by rw [upd_ne nw]; exact h6, by rw [upd_ne ns]; exact h7, h8⟩
  · rw [valV_put, if_neg k_WD]; exact h3
  · rw [valV_put, if_pos rfl]
  · rw [valV_put, if_neg k_DS.symm]; exact h5
theorem dget {H : Hp} {a : Addr} {kvs : List (Key × V)} {k : Key} {v : V} (e : H a = some (.dK kvs)) (h : valV kvs k = some v) : DGet H a (kV k) (some v) := by
  have q := DGet.k (k := k) e
  rw [h] at q
  exact q
def Row.ar : Row → Bool
  | .load _ _ => true
  | .add _ _ => true
  | .take _ _ => true
  | _ => false
theorem Row.in3 (r : Row) : inV (.str r.word) [.str "load", .str "add", .str "take"] = r.ar := by cases r <;> (dsimp only [Row.word, Row.ar]; decide +kernel)
def Row.isWd (s : Str) (r : Row) : Bool := decide (V.str r.word = V.str s)
def Row.fac (r : Row) : Int × Int := match r with
  | .load _ _ => (0, 1)
  | .take _ _ => (1, -1)
  | _ => (1, 1)
theorem Row.f1 (r : Row) : (if (!decide (V.str r.word = V.str "load")) = true then (1 : Int) else 0) = r.fac.1 := by
  cases r with
  | load _ _ => exact (by decide +kernel : (if (!decide (V.str "load" = V.str "load")) = true then (1 : Int) else 0) = 0)
  | add _ _ => exact (by decide +kernel : (if (!decide (V.str "add" = V.str "load")) = true then (1 : Int) else 0) = 1)
  | take _ _ => exact (by decide +kernel : (if (!decide (V.str "take" = V.str "load")) = true then (1 : Int) else 0) = 1)
  | store _ _ => exact (by decide +kernel : (if (!decide (V.str "store" = V.str "load")) = true then (1 : Int) else 0) = 1)
  | say _ => exact (by decide +kernel : (if (!decide (V.str "say" = V.str "load")) = true then (1 : Int) else 0) = 1)
  | test _ _ => exact (by decide +kernel : (if (!decide (V.str "test" = V.str "load")) = true then (1 : Int) else 0) = 1)
  | stop  => exact (by decide +kernel : (if (!decide (V.str "stop" = V.str "load")) = true then (1 : Int) else 0) = 1)
theorem Row.f2 (r : Row) : atI ([V.int 1, V.int (-1)] : List V) (if decide (V.str r.word = V.str "take") = true then (1 : Int) else 0) = some (.int r.fac.2) := by
  cases r with
  | load _ _ => exact (by decide +kernel : atI ([V.int 1, V.int (-1)] : List V) (if decide (V.str "load" = V.str "take") = true then (1 : Int) else 0) = some (.int (1)))
  | add _ _ => exact (by decide +kernel : atI ([V.int 1, V.int (-1)] : List V) (if decide (V.str "add" = V.str "take") = true then (1 : Int) else 0) = some (.int (1)))
  | take _ _ => exact (by decide +kernel : atI ([V.int 1, V.int (-1)] : List V) (if decide (V.str "take" = V.str "take") = true then (1 : Int) else 0) = some (.int (-1)))
  | store _ _ => exact (by decide +kernel : atI ([V.int 1, V.int (-1)] : List V) (if decide (V.str "store" = V.str "take") = true then (1 : Int) else 0) = some (.int (1)))
  | say _ => exact (by decide +kernel : atI ([V.int 1, V.int (-1)] : List V) (if decide (V.str "say" = V.str "take") = true then (1 : Int) else 0) = some (.int (1)))
  | test _ _ => exact (by decide +kernel : atI ([V.int 1, V.int (-1)] : List V) (if decide (V.str "test" = V.str "take") = true then (1 : Int) else 0) = some (.int (1)))
  | stop  => exact (by decide +kernel : atI ([V.int 1, V.int (-1)] : List V) (if decide (V.str "stop" = V.str "take") = true then (1 : Int) else 0) = some (.int (1)))
theorem Row.wd_eq (r : Row) : r.isWd "test" = (match r with | .test _ _ => true | _ => false) ∧ r.isWd "store" = (match r with | .store _ _ => true | _ => false) ∧ r.isWd "say" = (match r with | .say _ => true | _ => false) ∧ r.isWd "stop" = (match r with | .stop => true | _ => false) := by
  cases r with
  | load _ _ => exact (by decide +kernel : decide (V.str "load" = V.str "test") = false ∧ decide (V.str "load" = V.str "store") = false ∧ decide (V.str "load" = V.str "say") = false ∧ decide (V.str "load" = V.str "stop") = false)
  | add _ _ => exact (by decide +kernel : decide (V.str "add" = V.str "test") = false ∧ decide (V.str "add" = V.str "store") = false ∧ decide (V.str "add" = V.str "say") = false ∧ decide (V.str "add" = V.str "stop") = false)
  | take _ _ => exact (by decide +kernel : decide (V.str "take" = V.str "test") = false ∧ decide (V.str "take" = V.str "store") = false ∧ decide (V.str "take" = V.str "say") = false ∧ decide (V.str "take" = V.str "stop") = false)
  | store _ _ => exact (by decide +kernel : decide (V.str "store" = V.str "test") = false ∧ decide (V.str "store" = V.str "store") = true ∧ decide (V.str "store" = V.str "say") = false ∧ decide (V.str "store" = V.str "stop") = false)
  | say _ => exact (by decide +kernel : decide (V.str "say" = V.str "test") = false ∧ decide (V.str "say" = V.str "store") = false ∧ decide (V.str "say" = V.str "say") = true ∧ decide (V.str "say" = V.str "stop") = false)
  | test _ _ => exact (by decide +kernel : decide (V.str "test" = V.str "test") = true ∧ decide (V.str "test" = V.str "store") = false ∧ decide (V.str "test" = V.str "say") = false ∧ decide (V.str "test" = V.str "stop") = false)
  | stop  => exact (by decide +kernel : decide (V.str "stop" = V.str "test") = false ∧ decide (V.str "stop" = V.str "store") = false ∧ decide (V.str "stop" = V.str "say") = false ∧ decide (V.str "stop" = V.str "stop") = true)
theorem Row.ar_of {r : Row} (h : r.ar = true) {W N : Nat} (ho : r.ok W N) : ∃ w n : Nat, (rowVs r)[1]? = some (.int (w : Int)) ∧ w < W ∧ atI (rowVs r) (-1) = some (.int (n : Int)) ∧
    ∀ m : Mach, MOk m → w < m.ws.length → stepM m r = ({ m with desk := ring (m.desk * r.fac.1 + m.at w * r.fac.2) }, some n) := by
  cases r with
  | load w n =>
    refine ⟨w, n, rfl, ho.1, rfl, fun m hm hw => ?_⟩
    show ({ m with desk := m.at w }, some n) = ({ m with desk := ring (m.desk * 0 + m.at w * 1) }, some n)
    rw [Int.mul_zero, Int.zero_add, Int.mul_one, ring_id (at_in hm hw).2]
  | add w n =>
    refine ⟨w, n, rfl, ho.1, rfl, fun m hm hw => ?_⟩
    show ({ m with desk := ring (m.desk + m.at w) }, some n) = ({ m with desk := ring (m.desk * 1 + m.at w * 1) }, some n)
    rw [Int.mul_one, Int.mul_one]
  | take w n =>
    refine ⟨w, n, rfl, ho.1, rfl, fun m hm hw => ?_⟩
    show ({ m with desk := ring (m.desk - m.at w) }, some n) = ({ m with desk := ring (m.desk * 1 + m.at w * -1) }, some n)
    rw [Int.mul_one, Int.mul_neg_one]
    rfl
  | store w n => cases h
  | say n => cases h
  | test a b => cases h
  | stop => cases h
theorem Row.fb (r : Row) : (0 ≤ r.fac.1 ∧ r.fac.1 ≤ 1) ∧ (-1 ≤ r.fac.2 ∧ r.fac.2 ≤ 1) := by cases r <;> (dsimp only [Row.fac]; decide)
def spRing : Sp := fun vs H Q _ => ∃ n : Int, vs = [.int n] ∧ Q (.int (ring n)) H
def spStep : Sp := fun vs H Q _ => ∃ (ex : Key → Option V) (ad aw as_ ra : Addr) (m : Mach) (r : Row) (N : Nat), vs = [.ref ad, .ref ra] ∧ LawM ex H ad aw as_ m ∧ MOk m ∧ m.said.length ≤ 9000 ∧ H ra = some (.tup (rowVs r)) ∧ r.ok m.ws.length N ∧
  ∀ H', But3 ad aw as_ H H' → LawM ex H' ad aw as_ (stepM m r).1 → Q (oV (stepM m r).2) H'
section
variable {P : Program} {w : World} {K : PySem.W.Frag} {mg : Str → Option Value} {base : Heap}
abbrev nStep : List Str := ["_law_s", "_law_row", "_law_number"]
end
end DL
namespace DLR
open PySem PySem.Spec PyProof.Rows L2
/-! ### sorted(a dict whose keys are pairs of whole numbers), any number of them -/
def pairH (H : Hp) (a : Addr) : Int × Int := match H a with
  | some (.tup [.int i, .int j]) => (i, j)
  | _ => (0, 0)
theorem pairH_of {H : Hp} {a : Addr} {i j : Int} (h : H a = some (.tup [.int i, .int j])) : pairH H a = (i, j) := by
  unfold pairH
  rw [h]
def pairV (H : Hp) : Value → Int × Int
  | .ref a => pairH H a
  | _ => (0, 0)
def keyP (q : Int × Int) : List Key := [Sum.inl q.1, Sum.inl q.2]
def PairsAt (H : Hp) (bs : List Addr) (L : List (Int × Int)) : Prop := Paired (fun b q => H b = some (.tup [.int q.1, .int q.2])) bs L
theorem pairs_of_map {H : Hp} : ∀ {bs : List Addr}, (∀ b ∈ bs, H b = some (.tup [.int (pairH H b).1, .int (pairH H b).2])) → PairsAt H bs (bs.map (pairH H))
  | [], _ => .nil
  | b :: bs, h => .cons (h b List.mem_cons_self) (pairs_of_map fun c hc => h c (List.mem_cons_of_mem _ hc))
theorem keys_pairs {H : Hp} {kvs : List (List Key × V)} {ks : List (List Key × Addr × Value)} (r : KT H kvs ks) : ∀ {ps : List (Int × Int)}, kvs.map (·.1) = ps.map keyP → PairsAt H (ks.map fun x => x.2.1) ps := by
  induction r with
  | nil =>
    intro ps h
    cases ps with
    | nil => exact .nil
    | cons q ps => cases h
  | @cons p x pt xt h t ih =>
    intro ps hp
    cases ps with
    | nil => cases hp
    | cons q ps =>
      obtain ⟨e1, e2⟩ := List.cons.inj hp
      refine .cons ?_ (ih e2)
      have z := h.2.1
      have e1 : p.1 = keyP q := e1
      rw [e1] at z
      exact z
theorem pairs_map {H : Hp} : ∀ {bs : List Addr} {ps : List (Int × Int)}, PairsAt H bs ps → bs.map (pairH H) = ps
  | _, _, .nil => rfl
  | _, _, .cons h t => by
    rw [List.map_cons, pairs_map t, pairH_of h]
def rSortedDT : List V → Hp → VK → Prop := fun vs H Q => ∃ (d : Addr) (kvs : List (List Key × V)) (ps : List (Int × Int)), vs = [V.ref d] ∧ Rd H d (.dT kvs) ∧ kvs.map (·.1) = ps.map keyP ∧
  ∀ (p : Addr) (ys : List Addr) (L : List (Int × Int)), PairsAt H ys L → SrtO.Srtd SrtO.lexB L → SrtO.Stb SrtO.lexB L ps → H p = none → Q (.ref p) (upd H p (.lst (ys.map V.ref)))
theorem cr_sortedDT {X : Cx} (hc : X.calm = true) : CallR X (.builtin "sorted") rSortedDT := by
  intro pins s σ H vs us Q I r h
  obtain ⟨d, kvs, ps, rfl, hd, hps, q⟩ := h
  obtain ⟨u, rfl, rx⟩ := r.one
  cases rx
  obtain ⟨z, hs, ks, pr, o, es, ep, ho, hx, hdt, he, hn⟩ := (show ObjOk X.prog X.w H s.heap d (.dT kvs) from hd.ok I.hok)
  have l1 := size_of_entries he
  have l2 := Paired.length pr
  refine Calls.call_function_entry kind_sorted plain_sorted entry_sorted (args_sorted1 _) ?_
  unfold Builtin.«sorted»
  refine wpAny_bind (m := checkCount "sorted" 1 1 _) (wpAny_pure ?_)
  refine wpAny_bind (PySem.W.kdu_collect (A := X.A.in1) (kdl_raw hs hx hdt) (I.ok.hd hc) ho (by omega) fun h' tk acc kp it => ?_)
  have ea : acc.toList = (ks.map fun x => x.2.1).map Value.ref := by
    apply List.ext_getElem?
    intro j
    rw [List.map_map, List.getElem?_map]
    cases hj : acc.toList[j]? with
    | none =>
      have g := List.getElem?_eq_none_iff.mp hj
      rw [Array.length_toList, it.1, l1] at g
      rw [List.getElem?_eq_none g]
      rfl
    | some v =>
      obtain ⟨en, hen, hv⟩ := it.2 j v (by rw [← Array.getElem?_toList]; exact hj)
      have qe := entry_at he j
      rw [hen] at qe
      cases hb : ks[j]? with
      | none => rw [hb] at qe; cases qe
      | some b =>
        rw [hb] at qe
        have e2 := Option.some.inj qe
        rw [hv, e2]
        rfl
  have hal : acc.toList.length = ks.length := by rw [ea, List.length_map, List.length_map]
  have hz16 : acc.toList.length ≤ sizeLine := by omega
  have hP := keys_pairs pr hps
  have I1 : Inv X pins σ H { s with heap := h', toks := tk } := I.kept kp
  refine wpAny_bind (wpAny_newList ?_ hz16)
  have hoL : (h'.push (seqObj "list" acc.toList.toArray 0)).get? h'.objs.size = some (seqObj "list" acc.toList.toArray 0) := Heap.get?_push_size _ rfl
  have hpv : ∀ v ∈ acc.toList, Srt.IsPair (h'.push (seqObj "list" acc.toList.toArray 0)) v (pairV H v).1 (pairV H v).2 := by
    intro v hv
    rw [ea] at hv
    obtain ⟨b, hb, rfl⟩ := List.mem_map.mp hv
    obtain ⟨j, hj⟩ := List.getElem?_of_mem hb
    obtain ⟨y, hy, hy2⟩ := DL.Paired.get hP hj
    obtain ⟨_, its2, r2, o2, ho2, hc2, n2, hd2⟩ := I1.hok _ _ hy2
    obtain ⟨u1, u2, rfl, ri, rj⟩ := vals2 r2
    obtain ⟨t1, rfl⟩ := ri
    obtain ⟨t2, rfl⟩ := rj
    have e : pairV H (.ref b) = y := pairH_of hy2
    rw [e]
    exact ⟨b, o2, t1, t2, n2, rfl, Heap.get?_push_of_some _ ho2, hc2, hd2⟩
  show wpAny _ _ _ _ _ { s with heap := h'.push (seqObj "list" acc.toList.toArray 0), toks := tk }
  refine wpAny_bind (wpAny_holding (wpAny_call_entry slot_list_sort ⟨_, hoL, rfl⟩ entry_list_sort
    (SrtO.list_sort_ord (s := { s with heap := h'.push (seqObj "list" acc.toList.toArray 0), toks := tk }) (SrtO.swo_lex (pairV H)) hoL hz16 (fun h2 => ?_) fun out hs2 hb => ⟨_, rfl, ?_⟩) (args_list_sort _)))
  · refine SrtO.pairs_sortableO (by omega) hpv fun o3 e3 => ?_
    rw [show (({ s with heap := h'.push (seqObj "list" acc.toList.toArray 0), toks := tk } : Shared).heap.get? h'.objs.size) = _ from hoL] at e3
    cases e3
    intro c
    exact absurd (Value.type.inj c) (by decide)
  · obtain ⟨e', he'⟩ := PyProof.Rows.sortedHeap_at (vs := acc.toList) (out := out.toArray) hoL
    have href : ∀ u ∈ out, ∃ a, u = Value.ref a := fun u hu => by
      have m := hb.perm.mem_iff.mp hu
      rw [ea] at m
      obtain ⟨b, _, e⟩ := List.mem_map.mp m
      exact ⟨b, e.symm⟩
    obtain ⟨ys, hys⟩ : ∃ ys : List Addr, out = ys.map Value.ref := by
      clear hs2 hb he'
      induction out with
      | nil => exact ⟨[], rfl⟩
      | cons u t ih =>
        obtain ⟨a, ha⟩ := href u List.mem_cons_self
        obtain ⟨ys, e⟩ := ih fun v hv => href v (List.mem_cons_of_mem _ hv)
        exact ⟨a :: ys, by rw [ha, e]; rfl⟩
    have hlo : out.length ≤ sizeLine := by rw [hb.len]; exact hz16
    refine wpAny_pure ⟨_, rfl, .ref h'.objs.size, upd H h'.objs.size (.lst (ys.map V.ref)), I1.laid (t' := tk) (fun b u e => ?_) (Nat.le_refl _) ?_, rfl,
      q _ ys (ys.map (pairH H)) ?_ ?_ ?_ (I1.hok.fresh (Nat.le_refl _))⟩
    · have hlt : b < h'.objs.size := Heap.lt_size e
      rw [PyProof.Rows.sortedHeap_old (Nat.ne_of_lt hlt) (by rw [size_push']; exact Nat.lt_succ_of_lt hlt)]
      exact Heap.get?_push_of_some _ e
    · refine ⟨by rw [List.length_map, ← List.length_map (f := Value.ref), ← hys]; exact hlo, out, e', ?_, he'⟩
      rw [hys]
      exact vals_refs ys
    · refine pairs_of_map fun b hb2 => ?_
      have m : Value.ref b ∈ acc.toList := hb.perm.mem_iff.mp (by rw [hys]; exact List.mem_map.mpr ⟨b, hb2, rfl⟩)
      rw [ea] at m
      obtain ⟨c, hc2, e⟩ := List.mem_map.mp m
      cases e
      obtain ⟨j, hj⟩ := List.getElem?_of_mem hc2
      obtain ⟨y, hy, hy2⟩ := DL.Paired.get hP hj
      rw [pairH_of hy2]
      exact hy2
    · have e : ys.map (pairH H) = out.map (pairV H) := by rw [hys, List.map_map]; rfl
      rw [e]
      exact SrtO.srtd_map hs2
    · have e : ys.map (pairH H) = out.map (pairV H) := by rw [hys, List.map_map]; rfl
      have e2 : ps = acc.toList.map (pairV H) := by rw [ea, List.map_map, ← pairs_map hP]; rfl
      rw [e, e2]
      refine SrtO.Stb.map ?_ (pairV H) hb
      refine ⟨fun x y h => ?_, fun x y z h1 h2 => ?_⟩
      · have a := SrtO.lexB_iff.mp h
        exact SrtO.lexB_no.mpr (by omega)
      · have a := SrtO.lexB_no.mp h1
        have b := SrtO.lexB_no.mp h2
        exact SrtO.lexB_no.mpr (by omega)
end DLR
namespace DL
open PySem L2 DLR
/-! ### the mirror of a run -/
abbrev GL := List ((Int × Int) × V)
def gcount : Option V → Int
  | some (.int c) => c
  | _ => 0
def bump (g : GL) (q : Int × Int) : GL := putK g q (.int (gcount (valV g q) + 1))
structure RS where
  m : Mach
  cnt : List Int
  goes : GL
  here : Option Nat
def goesOf (g : GL) (r : Nat) : Option Nat → GL
  | none => g
  | some n => bump g ((r : Int), (n : Int))
def turnS (rows : List Row) (s : RS) : RS := match s.here with
  | none => s
  | some r => ⟨(stepM s.m (rows.getD r .stop)).1, s.cnt.set r (s.cnt.getD r 0 + 1),
      goesOf s.goes r (stepM s.m (rows.getD r .stop)).2,
      (stepM s.m (rows.getD r .stop)).2⟩
def startS (p : Prog) : RS := ⟨⟨0, p.ws, []⟩, List.replicate p.rows.length 0, [], some 0⟩
def runS (p : Prog) : Nat → RS
  | 0 => startS p
  | k + 1 => turnS p.rows (runS p k)
theorem runS_none {p : Prog} {j : Nat} (h : (runS p j).here = none) : ∀ k, runS p (j + k) = runS p j
  | 0 => rfl
  | k + 1 => by
    show turnS p.rows (runS p (j + k)) = _
    rw [runS_none h k]
    unfold turnS
    rw [h]
structure ROk (p : Prog) (k : Nat) (s : RS) : Prop where
  m : MOk s.m
  w : s.m.ws.length = p.ws.length
  said : s.m.said.length ≤ k
  dl : s.cnt.length = p.rows.length
  sum : s.here ≠ none → s.cnt.sum = (k : Int)
  le : s.cnt.sum ≤ (k : Int) ∧ 0 ≤ s.cnt.sum
  gok : ∀ e ∈ s.goes, ∃ c, e.2 = .int c
  gl : s.goes.length ≤ k
  here : ∀ r, s.here = some r → r < p.rows.length
theorem getD_set_sum {l : List Int} {r : Nat} (h : r < l.length) : (l.set r (l.getD r 0 + 1)).sum = l.sum + 1 := by
  have e : l[r]? = some (l.getD r 0) := by
    rw [List.getD_eq_getElem?_getD, List.getElem?_eq_getElem h]
    rfl
  rw [L2.sum_set e]
  omega
theorem sum_rep : ∀ n : Nat, (List.replicate n (0 : Int)).sum = 0
  | 0 => rfl
  | n + 1 => by
    rw [List.replicate_succ, List.sum_cons, sum_rep n]
    rfl
theorem putK_len {κ : Type} [DecidableEq κ] {kvs : List (κ × V)} {k : κ} {v : V} : (putK kvs k v).length ≤ kvs.length + 1 := by
  unfold putK
  split
  · rw [List.length_map]; omega
  · rw [List.length_append]; exact Nat.le_refl _
theorem putK_all {κ : Type} [DecidableEq κ] {kvs : List (κ × V)} {k : κ} {c : Int} (h : ∀ e ∈ kvs, ∃ c, e.2 = V.int c) : ∀ e ∈ putK kvs k (.int c), ∃ c, e.2 = V.int c := by
  intro e he
  unfold putK at he
  split at he
  · obtain ⟨x, hx, rfl⟩ := List.mem_map.mp he
    by_cases q : x.1 = k
    · rw [if_pos q]; exact ⟨c, rfl⟩
    · rw [if_neg q]; exact h x hx
  · rcases List.mem_append.mp he with q | q
    · exact h e q
    · rw [List.mem_singleton.mp q]; exact ⟨c, rfl⟩
theorem runS_ok {p : Prog} (g : Good p) : ∀ k, ROk p k (runS p k)
  | 0 => by
    refine ⟨⟨(by show -1000000000 ≤ (0 : Int) ∧ (0 : Int) < 1000000000; decide), fun x hx => ?_⟩, rfl, Nat.le_refl _, List.length_replicate, fun _ => ?_, ?_, fun _ h => absurd h (by simp [runS, startS]), Nat.le_refl _, fun r h => ?_⟩
    · have := g.num x hx
      unfold InR
      omega
    · show (List.replicate p.rows.length (0 : Int)).sum = 0
      exact sum_rep _
    · show (List.replicate p.rows.length (0 : Int)).sum ≤ 0 ∧ 0 ≤ (List.replicate p.rows.length (0 : Int)).sum
      rw [sum_rep]
      decide
    · have e : (0 : Nat) = r := Option.some.inj h
      rw [← e]
      exact g.r1
  | k + 1 => by
    have ih := runS_ok g k
    show ROk p (k + 1) (turnS p.rows (runS p k))
    generalize runS p k = s at ih ⊢
    unfold turnS
    cases hh : s.here with
    | none =>
      exact ⟨ih.m, ih.w, Nat.le_succ_of_le ih.said, ih.dl, fun q => absurd hh q, ⟨by show s.cnt.sum ≤ ((k + 1 : Nat) : Int); have := ih.le.1; omega, ih.le.2⟩, ih.gok, Nat.le_succ_of_le ih.gl, fun r h => by rw [hh] at h; cases h⟩
    | some r =>
      have hr := ih.here r hh
      have er : p.rows.getD r .stop = p.rows[r] := by rw [List.getD_eq_getElem?_getD, List.getElem?_eq_getElem hr]; rfl
      have ho : (p.rows.getD r .stop).ok s.m.ws.length p.rows.length := by
        rw [er, ih.w]
        exact g.ok _ (List.getElem_mem hr)
      obtain ⟨s1, s2, s3, s4⟩ := stepM_ok ih.m ho
      have hs := getD_set_sum (l := s.cnt) (r := r) (by rw [ih.dl]; exact hr)
      have hsum := ih.sum (by rw [hh]; simp)
      refine ⟨s1, s2.trans ih.w, ?_, by rw [List.length_set]; exact ih.dl, fun _ => by rw [hs, hsum]; rfl, ?_, ?_, ?_, fun n h => s4 n h⟩
      · show (stepM s.m (p.rows.getD r .stop)).1.said.length ≤ k + 1
        have := ih.said
        omega
      · show (s.cnt.set r (s.cnt.getD r 0 + 1)).sum ≤ _ ∧ 0 ≤ (s.cnt.set r (s.cnt.getD r 0 + 1)).sum
        rw [hs, hsum]
        omega
      · show ∀ e ∈ goesOf s.goes r (stepM s.m (p.rows.getD r .stop)).2, _
        cases (stepM s.m (p.rows.getD r .stop)).2 with
        | none => exact ih.gok
        | some n => exact putK_all ih.gok
      · show (goesOf s.goes r (stepM s.m (p.rows.getD r .stop)).2).length ≤ _
        cases (stepM s.m (p.rows.getD r .stop)).2 with
        | none => exact Nat.le_succ_of_le ih.gl
        | some n => exact Nat.le_trans putK_len (Nat.succ_le_succ ih.gl)
/-! ### the goes as they stand in a dict -/
def kmap (g : GL) : List (List Key × V) := g.map fun e => (keyP e.1, e.2)
theorem keyP_inj {a b : Int × Int} (h : keyP a = keyP b) : a = b := by
  obtain ⟨h1, h2⟩ := List.cons.inj h
  obtain ⟨h3, _⟩ := List.cons.inj h2
  exact Prod.ext (Sum.inl.inj h1) (Sum.inl.inj h3)
theorem kmap_val (g : GL) (q : Int × Int) : valV (kmap g) (keyP q) = valV g q := by
  induction g with
  | nil => rfl
  | cons e g ih =>
    by_cases h : e.1 = q
    · rw [valV_pos h]
      exact valV_pos (p := (keyP e.1, e.2)) (by rw [h])
    · rw [valV_neg h, ← ih]
      exact valV_neg (p := (keyP e.1, e.2)) (fun z => h (keyP_inj z))
theorem kmap_put (g : GL) (q : Int × Int) (v : V) : putK (kmap g) (keyP q) v = kmap (putK g q v) := by
  unfold putK
  have e : ((kmap g).any fun kv => decide (kv.1 = keyP q)) = (g.any fun kv => decide (kv.1 = q)) := by
    rw [valV_any, valV_any, kmap_val]
  rw [e]
  split
  · unfold kmap
    rw [List.map_map, List.map_map]
    refine List.map_congr_left fun x _ => ?_
    show (if keyP x.1 = keyP q then (keyP x.1, v) else (keyP x.1, x.2)) = (keyP (if x.1 = q then (x.1, v) else x).1, (if x.1 = q then (x.1, v) else x).2)
    by_cases h : x.1 = q
    · rw [if_pos h, if_pos (by rw [h])]
    · rw [if_neg h, if_neg (fun z => h (keyP_inj z))]
  · unfold kmap
    rw [List.map_append]
    rfl
theorem kmap_keys (g : GL) : (kmap g).map (·.1) = (g.map (·.1)).map keyP := by
  unfold kmap
  rw [List.map_map, List.map_map]
  rfl
theorem kmap_len (g : GL) : (kmap g).length = g.length := List.length_map _
theorem valV_mem {κ : Type} [DecidableEq κ] {g : List (κ × V)} {q : κ} {v : V} (h : valV g q = some v) : ∃ e ∈ g, e.2 = v := by
  induction g with
  | nil => cases h
  | cons e g ih =>
    by_cases z : e.1 = q
    · rw [valV_pos z] at h
      exact ⟨e, List.mem_cons_self, Option.some.inj h⟩
    · rw [valV_neg z] at h
      obtain ⟨x, hx, hy⟩ := ih h
      exact ⟨x, List.mem_cons_of_mem _ hx, hy⟩
theorem gget {g : GL} (h : ∀ e ∈ g, ∃ c, e.2 = V.int c) (q : Int × Int) : (valV g q).getD (.int 0) = .int (gcount (valV g q)) := by
  cases e : valV g q with
  | none => rfl
  | some v =>
    obtain ⟨x, hx, hy⟩ := valV_mem e
    obtain ⟨c, hc⟩ := h x hx
    rw [← hy, hc]
    rfl
theorem ggot {g : GL} (h : ∀ e ∈ g, ∃ c, e.2 = V.int c) {q : Int × Int} (m : q ∈ g.map (·.1)) : valV g q = some (.int (gcount (valV g q))) := by
  have e := gget h q
  cases z : valV g q with
  | none => exact absurd m (L2.valV_not z)
  | some v =>
    rw [z] at e
    exact congrArg some e
/-! ### what a run tells -/
structure Res (p : Prog) (fuel : Nat) (H0 H : Hp) (a ls le ld lg : Addr) (ys : List Addr) (L : List (Int × Int)) : Prop where
  same : Same1 H0 H
  top : H a = some (.tup [.ref ls, .ref le, .ref ld, .ref lg])
  fs : H0 ls = none
  fd : H0 ld = none
  fg : H0 lg = none
  said : H ls = some (.lst ((runS p fuel).m.said.map V.int))
  fin : H le = some (.tup [.str (if (runS p fuel).here = none then "stop" else "long")])
  cnt : H ld = some (.lst ((runS p fuel).cnt.map V.int))
  goes : H lg = some (.lst (ys.map V.ref))
  each : Paired (fun b q => H b = some (.tup [.int q.1, .int q.2, .int (gcount (valV (runS p fuel).goes q))])) ys L
  srt : SrtO.Srtd SrtO.lexB L
  stb : SrtO.Stb SrtO.lexB L ((runS p fuel).goes.map (·.1))
  n1 : ls ≠ ld
  n2 : ls ≠ lg
  n3 : ld ≠ lg
def spRun : Sp := fun vs H Q _ => ∃ (pa : Addr) (p : Prog) (fuel : Nat), vs = [.ref pa, .int (fuel : Int)] ∧ ProgAt H pa p ∧ Good p ∧ fuel ≤ 5000 ∧
  ∀ a ls le ld lg ys L H', Res p fuel H H' a ls le ld lg ys L → Q (.ref a) H'
end DL
namespace DL
open PySem L2 DLR
theorem relI {i : Int} {t : Tok} : RelV (.int i) (.int i t) := ⟨t, rfl⟩
structure Cn (mg : Str → Option Value) where
  tW : Tok
  tR : Tok
  tN : Tok
  mW : mg "MOST_WORTHS" = some (.int 8 tW)
  mR : mg "MOST_ROWS" = some (.int 40 tR)
  mN : mg "MOST_NUMBER" = some (.int 1000000 tN)
structure Cf (mg : Str → Option Value) where
  tF : Tok
  mF : mg "MOST_FUEL" = some (.int 5000 tF)
structure Cd (mg : Str → Option Value) where
  tL : Tok
  tC : Tok
  mL : mg "DESK_LOW" = some (.int (-1000000000) tL)
  mC : mg "DESK_COUNT" = some (.int 2000000000 tC)
abbrev sIsNumber : Stmt := top 17
abbrev sIsBetween : Stmt := top 18
abbrev sPart : Stmt := top 19
abbrev sCheckWorths : Stmt := top 25
abbrev sCheckFuel : Stmt := top 34
abbrev sOnDesk : Stmt := top 33
abbrev FIsNumber (K : Frg) (mg : Str → Option Value) := Fd K mg "is_number" sIsNumber ["thing"]
abbrev FIsBetween (K : Frg) (mg : Str → Option Value) := Fd K mg "is_between" sIsBetween ["thing", "low", "high"]
abbrev FPart (K : Frg) (mg : Str → Option Value) := Fd K mg "part" sPart ["whole", "at"]
abbrev FCheckWorths (K : Frg) (mg : Str → Option Value) := Fd K mg "check_worths" sCheckWorths ["worths"]
abbrev FCheckFuel (K : Frg) (mg : Str → Option Value) := Fd K mg "check_fuel" sCheckFuel ["fuel"]
abbrev FOnDesk (K : Frg) (mg : Str → Option Value) := Fd K mg "on_desk" sOnDesk ["number"]
def spNum : Sp := fun vs H Q _ => ∃ i : Int, vs = [.int i] ∧ Q (.bl true) H
def spBetween : Sp := fun vs H Q _ => ∃ i lo hi : Int, vs = [.int i, .int lo, .int hi] ∧ lo ≤ i ∧ i ≤ hi ∧ Q (.bl true) H
def spPart : Sp := fun vs H Q _ => ∃ (a : Addr) (xs : List V) (j : Nat) (v : V), vs = [.ref a, .int (j : Int)] ∧ H a = some (.tup xs) ∧ xs[j]? = some v ∧ Q v H
def spCheckWorths : Sp := fun vs H Q _ => ∃ (a : Addr) (ws : List Int), vs = [.ref a] ∧ H a = some (.tup (ws.map V.int)) ∧ ws.length ≤ 8 ∧ (∀ x ∈ ws, -1000000 ≤ x ∧ x ≤ 1000000) ∧ Q .non H
def spCheckFuel : Sp := fun vs H Q _ => ∃ n : Int, vs = [.int n] ∧ 0 ≤ n ∧ n ≤ 5000 ∧ Q .non H
section
variable {P : Program} {w : World} {K : PySem.W.Frag} {mg : Str → Option Value} {base : Heap}
theorem scIsNumber : FnScope ["thing"] ["thing"] (defScope sIsNumber) := ⟨rfl, rfl, rfl, by decide +kernel, rfl, by decide +kernel, by decide +kernel⟩
theorem ok_isNumber (c : FIsNumber K mg) (T : Bt mg) : FnOk P w K mg base CX0 1 c.f c.fd ["thing"] spNum := by
  refine c.F.ok scIsNumber (fun vs H Q E h => ?_) (fun cdv A outer s H vs Q E hr h => ?_)
  · obtain ⟨n, rfl, _⟩ := h
    rfl
  · obtain ⟨n, rfl, k⟩ := h
    refine ⟨_, (pss_one (ps_ret (pe_and (pe_callB call_isi (by rfl) T.isinstance (by decide +kernel) (pa_cons (pv 0) (pa_cons (pe_bltn (v := .ty "int") (by rfl) T.int (by decide +kernel) rfl) pa_nil))) (pe_one (pe_not (pe_callB call_isi (by rfl) T.isinstance (by decide +kernel) (pa_cons (pv 0) (pa_cons (pe_bltn (v := .ty "bool") (by rfl) T.bool (by decide +kernel) rfl) pa_nil)))))))), ?_⟩
    refine ⟨_, rfl, _, _, _, _, true, rfl, .ty _, .base (.int _), kit_ty (by decide +kernel), _, rfl, ?_⟩
    exact ⟨_, rfl, _, _, _, _, false, rfl, .ty _, .base (.int _), kit_ty (by decide +kernel), _, rfl, k⟩
theorem scIsBetween : FnScope ["thing", "low", "high"] ["thing", "low", "high"] (defScope sIsBetween) := ⟨rfl, rfl, rfl, by decide +kernel, rfl, by decide +kernel, by decide +kernel⟩
theorem ok_isBetween (c : FIsBetween K mg) (cIsNumber : FIsNumber K mg) (T : Bt mg) : FnOk P w K mg base CX0 2 c.f c.fd ["thing", "low", "high"] spBetween := by
  have GIsNumber : FnOk P w K mg base CX0 1 cIsNumber.f cIsNumber.fd ["thing"] spNum := ok_isNumber cIsNumber T
  refine c.F.ok scIsBetween (fun vs H Q E h => ?_) (fun cdv A outer s H vs Q E hr h => ?_)
  · obtain ⟨i, lo, hi, rfl, _⟩ := h
    rfl
  · obtain ⟨i, lo, hi, rfl, h1, h2, k⟩ := h
    refine ⟨_, (pss_one (ps_ret (pe_and (pe_call GIsNumber (hr.mono (by first | omega | decide)) (by rfl) cIsNumber.m cIsNumber.F.kp cIsNumber.b .nil pass0 (pa_cons (pv 0) pa_nil)) (pe_one (pe_chain op_le op_le (pv 1) (pv 0) (pv 2)))))), ?_⟩
    refine ⟨_, rfl, _, rfl, _, rfl, ?_⟩
    refine ⟨_, rfl, _, rfl, _, _, rfl, rfl, _, rfl, ?_⟩
    rw [decide_eq_true h1]
    refine iteT ⟨_, rfl, _, _, rfl, rfl, ?_⟩
    show Q (.bl (decide (i ≤ hi))) H
    rw [decide_eq_true h2]
    exact k
theorem scPart : FnScope ["whole", "at"] ["whole", "at"] (defScope sPart) := ⟨rfl, rfl, rfl, by decide +kernel, rfl, by decide +kernel, by decide +kernel⟩
theorem ok_part (c : FPart K mg) (T : Bt mg) : FnOk P w K mg base CX0 1 c.f c.fd ["whole", "at"] spPart := by
  refine c.F.ok scPart (fun vs H Q E h => ?_) (fun cdv A outer s H vs Q E hr h => ?_)
  · obtain ⟨a, xs, j, v, rfl, _⟩ := h
    rfl
  · obtain ⟨a, xs, j, v, rfl, h1, h2, k⟩ := h
    have hj := (List.getElem?_eq_some_iff.mp h2).1
    refine ⟨_, (pss_cons (ps_if (PW.pt (pw_and (pt_val (pe_callB call_isi (by rfl) T.isinstance (by decide +kernel) (pa_cons (pv 0) (pa_cons (pe_bltn (v := .ty "tuple") (by rfl) T.tuple (by decide +kernel) rfl) pa_nil)))) (pw_and1 (pt_cmpR op_lt (pv 1) (pe_callB call_len_seq (by rfl) T.len PySem.boot_len (pa_cons (pv 0) pa_nil)) (nomark _)))))
          (pss_one (ps_ret (pe_ix ix_tup (pv 0) (pv 1) (fun _ _ => rfl))))
          pss_nil)
      (pss_one (ps_ret pe_non))), ?_⟩
    refine ⟨_, rfl, _, _, _, _, true, rfl, .ty _, .base (.tup h1), kit_ty (by decide +kernel), _, rfl, ?_⟩
    refine ⟨_, rfl, _, rfl, a, _, rfl, .inr (SqT.of h1), _, _, rfl, rfl, _, rfl, ?_⟩
    rw [decide_eq_true (show (j : Int) < (xs.length : Int) by omega)]
    exact iteT ⟨_, rfl, _, rfl, a, _, _, _, rfl, rfl, SqT.of h1, atI_nat h2, k⟩
theorem scCheckWorths : FnScope ["worths", "worth"] ["worths"] (defScope sCheckWorths) := ⟨rfl, rfl, rfl, by decide +kernel, rfl, by decide +kernel, by decide +kernel⟩
theorem ok_checkWorths (c : FCheckWorths K mg) (cIsBetween : FIsBetween K mg) (cIsNumber : FIsNumber K mg) (T : Bt mg) (C : Cn mg) : FnOk P w K mg base CX0 3 c.f c.fd ["worths"] spCheckWorths := by
  have GIsBetween : FnOk P w K mg base CX0 2 cIsBetween.f cIsBetween.fd ["thing", "low", "high"] spBetween := ok_isBetween cIsBetween cIsNumber T
  refine c.F.ok scCheckWorths (fun vs H Q E h => ?_) (fun cdv A outer s H vs Q E hr h => ?_)
  · obtain ⟨a, ws, rfl, _⟩ := h
    rfl
  · obtain ⟨a, ws, rfl, h1, h8, hb, k⟩ := h
    refine ⟨_, (pss_cons (ps_if (PW.pt (pw_or (pt_not (pt_val (pe_callB call_isi (by rfl) T.isinstance (by decide +kernel) (pa_cons (pv 0) (pa_cons (pe_bltn (v := .ty "tuple") (by rfl) T.tuple (by decide +kernel) rfl) pa_nil))))) (pw_or1 (pt_cmpR op_gt (pe_callB call_len_seq (by rfl) T.len PySem.boot_len (pa_cons (pv 0) pa_nil)) (pe_glob rfl C.mW relI) (nomark _)))))
          (pss_one ps_never)
          pss_nil)
      (pss_one (ps_for PassesOwn.never rfl (pi_tup (pv 0)) (pg_name (i := 1) scCheckWorths.nd rfl (Or.inl rfl))
          (pss_one (ps_if (pt_not (pt_val (pe_call GIsBetween (hr.mono (by first | omega | decide)) (by rfl) cIsBetween.m cIsBetween.F.kp cIsBetween.b .nil pass0 (pa_cons (pv 1) (pa_cons (pe_un un_neg (pe_glob rfl C.mN relI)) (pa_cons (pe_glob rfl C.mN relI) pa_nil))))))
              (pss_one ps_never)
              pss_nil))))), ?_⟩
    refine ⟨_, rfl, _, _, _, _, true, rfl, .ty _, .base (.tup h1), kit_ty (by decide +kernel), _, rfl, ?_⟩
    refine ⟨_, rfl, a, _, rfl, .inr (SqT.of h1), _, _, rfl, rfl, _, rfl, ?_⟩
    rw [decide_eq_false (show ¬ (8 : Int) < ((ws.map V.int).length : Int) by rw [List.length_map]; omega)]
    refine iteF ⟨_, rfl, a, rfl, ⟨_, SqT.of h1⟩, for_tup (K := K) (a := a) (xs := ws.map V.int) (fun i σ H' => ∃ x : Option V, σ = [some (.ref a), x] ∧ H' = H) ⟨_, rfl, rfl⟩ (fun i σ H' _ ⟨_, _, e⟩ => by rw [e]; exact SqT.of h1) ?_ ?_⟩
    · rintro i x σ H' hi ⟨y, rfl, rfl⟩
      rw [List.getElem?_map] at hi
      cases hz : ws[i]? with
      | none => rw [hz] at hi; cases hi
      | some z =>
        rw [hz] at hi
        have e : V.int z = x := Option.some.inj hi
        subst e
        obtain ⟨b1, b2⟩ := hb z (List.mem_of_getElem? hz)
        refine ⟨_, rfl, _, rfl, z, _, _, rfl, by omega, by omega, _, rfl, ?_⟩
        exact ⟨_, rfl, rfl⟩
    · rintro σ H' ⟨y, rfl, rfl⟩
      exact k
theorem scCheckFuel : FnScope ["fuel"] ["fuel"] (defScope sCheckFuel) := ⟨rfl, rfl, rfl, by decide +kernel, rfl, by decide +kernel, by decide +kernel⟩
theorem ok_checkFuel (c : FCheckFuel K mg) (cIsBetween : FIsBetween K mg) (cIsNumber : FIsNumber K mg) (T : Bt mg) (CF : Cf mg) : FnOk P w K mg base CX0 3 c.f c.fd ["fuel"] spCheckFuel := by
  have GIsBetween : FnOk P w K mg base CX0 2 cIsBetween.f cIsBetween.fd ["thing", "low", "high"] spBetween := ok_isBetween cIsBetween cIsNumber T
  refine c.F.ok scCheckFuel (fun vs H Q E h => ?_) (fun cdv A outer s H vs Q E hr h => ?_)
  · obtain ⟨n, rfl, _⟩ := h
    rfl
  · obtain ⟨n, rfl, h1, h2, k⟩ := h
    refine ⟨_, (pss_one (ps_if (pt_not (pt_val (pe_call GIsBetween (hr.mono (by first | omega | decide)) (by rfl) cIsBetween.m cIsBetween.F.kp cIsBetween.b .nil pass0 (pa_cons (pv 0) (pa_cons pe_int (pa_cons (pe_glob rfl CF.mF relI) pa_nil))))))
          (pss_one ps_never)
          pss_nil)), ?_⟩
    exact ⟨_, rfl, n, _, _, rfl, h1, h2, _, rfl, k⟩
theorem scOnDesk : FnScope ["number"] ["number"] (defScope sOnDesk) := ⟨rfl, rfl, rfl, by decide +kernel, rfl, by decide +kernel, by decide +kernel⟩
theorem ok_onDesk (c : FOnDesk K mg) (CD : Cd mg) : FnOk P w K mg base CX0 1 c.f c.fd ["number"] spRing := by
  refine c.F.ok scOnDesk (fun vs H Q E h => ?_) (fun cdv A outer s H vs Q E hr h => ?_)
  · obtain ⟨n, rfl, _⟩ := h
    rfl
  · obtain ⟨n, rfl, k⟩ := h
    refine ⟨_, (pss_one (ps_ret (pe_op op_add (pe_op op_mod (pe_op op_sub (pv 0) (pe_glob rfl CD.mL relI)) (pe_glob rfl CD.mC relI)) (pe_glob rfl CD.mL relI)))), ?_⟩
    refine ⟨_, rfl, _, _, rfl, rfl, _, _, rfl, rfl, (by show (0 : Int) < 2000000000; decide), _, _, rfl, rfl, ?_⟩
    show Q (.int ((n - -1000000000) % 2000000000 + -1000000000)) H
    have e : (n - -1000000000) % 2000000000 + -1000000000 = ring n := by
      unfold ring
      rw [show n - -1000000000 = n + 1000000000 by omega]
      omega
    rw [e]
    exact k
end
end DL
namespace DL
open PySem L2 DLR
def Row.parts : Row → List Str
  | .say _ => ["next"]
  | .test _ _ => ["next", "next"]
  | .stop => []
  | _ => ["worth", "next"]
theorem Row.parts_len (r : Row) : (rowVs r).length = r.parts.length + 1 := by cases r <;> rfl
structure Pt (K : Frg) (w : World) (mg : Str → Option Value) where
  d : Addr
  es : Array DictEntry
  n : Nat
  m : mg "PARTS" = some (.ref d)
  kd : KDict K w d es n
  at_ : ∀ r : Row, ∃ t, PySem.W.nsIn K d r.word = some (some (.ref t)) ∧ ∀ H, SqT K H t (r.parts.map V.str)
theorem Pt.get {K : Frg} {w : World} {mg : Str → Option Value} (Z : Pt K w mg) (r : Row) : ∃ t, PySem.W.nsIn K Z.d r.word = some (some (.ref t)) ∧ KDct K w Z.d r.word (.ref t) ∧ ∀ H, SqT K H t (r.parts.map V.str) := by
  obtain ⟨t, h1, h2⟩ := Z.at_ r
  exact ⟨t, h1, ⟨_, _, _, Z.kd.at_, Z.kd.lit, h1, rfl⟩, h2⟩
theorem Row.args (r : Row) {i : Nat} (h : i < r.parts.length) : ∃ x : Nat, ((rowVs r).drop 1)[i]? = some (.int (x : Int)) ∧ ∀ {W N : Nat}, r.ok W N →
    (r.parts[i]? = some "worth" ∧ x < W) ∨ (r.parts[i]? = some "next" ∧ x < N) := by
  have hi : i < 2 := by cases r <;> simp [Row.parts] at h <;> omega
  match i, hi with
  | 0, _ =>
    cases r <;> first
      | exact ⟨_, rfl, fun o => .inl ⟨rfl, o.1⟩⟩
      | exact ⟨_, rfl, fun o => .inr ⟨rfl, o⟩⟩
      | exact ⟨_, rfl, fun o => .inr ⟨rfl, o.1⟩⟩
      | (exfalso; simp [Row.parts] at h)
  | 1, _ =>
    cases r <;> first
      | exact ⟨_, rfl, fun o => .inr ⟨rfl, o.2⟩⟩
      | (exfalso; simp [Row.parts] at h)
theorem Row.ints (r : Row) : ∃ ns : List Int, (rowVs r).drop 1 = ns.map V.int ∧ ns.length = r.parts.length := by
  cases r with
  | load a b => exact ⟨[(a : Int), (b : Int)], rfl, rfl⟩
  | add a b => exact ⟨[(a : Int), (b : Int)], rfl, rfl⟩
  | take a b => exact ⟨[(a : Int), (b : Int)], rfl, rfl⟩
  | store a b => exact ⟨[(a : Int), (b : Int)], rfl, rfl⟩
  | say b => exact ⟨[(b : Int)], rfl, rfl⟩
  | test a b => exact ⟨[(a : Int), (b : Int)], rfl, rfl⟩
  | stop => exact ⟨[], rfl, rfl⟩
abbrev sHasShape : Stmt := top 27
abbrev sCheckRow : Stmt := top 26
abbrev sCheckProgram : Stmt := top 24
abbrev FHasShape (K : Frg) (mg : Str → Option Value) := Fd K mg "has_shape" sHasShape ["row"]
abbrev FCheckRow (K : Frg) (mg : Str → Option Value) := Fd K mg "check_row" sCheckRow ["row", "number", "counts"]
abbrev FCheckProgram (K : Frg) (mg : Str → Option Value) := Fd K mg "check_program" sCheckProgram ["program"]
def spHasShape : Sp := fun vs H Q _ => ∃ (a : Addr) (r : Row), vs = [.ref a] ∧ H a = some (.tup (rowVs r)) ∧ ∀ H', Same1 H H' → Q (.bl true) H'
def kWo : Key := .inr "worth"
def kNx : Key := .inr "next"
def spCheckRow : Sp := fun vs H Q _ => ∃ (a c : Addr) (n : Int) (r : Row) (W N : Nat) (kvs : List (Key × V)), vs = [.ref a, .int n, .ref c] ∧ H a = some (.tup (rowVs r)) ∧ r.ok W N ∧
  H c = some (.dK kvs) ∧ valV kvs kWo = some (.int (W : Int)) ∧ valV kvs kNx = some (.int (N : Int)) ∧ ∀ H', Same1 H H' → Q .non H'
def spCheckProgram : Sp := fun vs H Q _ => ∃ (a : Addr) (p : Prog), vs = [.ref a] ∧ ProgAt H a p ∧ Good p ∧ ∀ H', Same1 H H' → Q .non H'
abbrev sUsesWorth : Stmt := top 20
abbrev FUsesWorth (K : Frg) (mg : Str → Option Value) := Fd K mg "uses_worth" sUsesWorth ["row"]
def spUses : Sp := fun vs H Q _ => ∃ (a : Addr) (r : Row), vs = [.ref a] ∧ H a = some (.tup (rowVs r)) ∧ Q (.bl r.uses) H
theorem uses_in (r : Row) : inV (.str "worth") (r.parts.map V.str) = r.uses := by
  cases r <;> (dsimp only [Row.parts, Row.uses, List.map]; decide +kernel)
section
variable {P : Program} {w : World} {K : PySem.W.Frag} {mg : Str → Option Value} {base : Heap}
abbrev nHasShape : List Str := ["row", "word", "thing"]
theorem scHasShape : FnScope nHasShape ["row"] (defScope sHasShape) := ⟨rfl, rfl, rfl, by decide +kernel, rfl, by decide +kernel, by decide +kernel⟩
theorem ok_hasShape (c : FHasShape K mg) (cPart : FPart K mg) (cIsNumber : FIsNumber K mg) (T : Bt mg) (Z : Pt K w mg) : FnOk P w K mg base CX0 2 c.f c.fd ["row"] spHasShape := by
  have GPart : FnOk P w K mg base CX0 1 cPart.f cPart.fd ["whole", "at"] spPart := ok_part cPart T
  have GIsNumber : FnOk P w K mg base CX0 1 cIsNumber.f cIsNumber.fd ["thing"] spNum := ok_isNumber cIsNumber T
  refine c.F.ok scHasShape (fun vs H Q E h => ?_) (fun cdv A outer s H vs Q E hr h => ?_)
  · obtain ⟨a, r, rfl, _⟩ := h
    rfl
  · obtain ⟨a, r, rfl, ha, k⟩ := h
    obtain ⟨t, z1, z2, z3⟩ := Z.get r
    obtain ⟨ns, n1, n2⟩ := Row.ints r
    have rl := Row.vs_len r
    refine ⟨_, (pss_cons (ps_set (i := 1) scHasShape.nd rfl (Or.inl rfl) (pe_call GPart (hr.mono (by first | omega | decide)) (by rfl) cPart.m cPart.F.kp cPart.b .nil pass0 (pa_cons (pv 0) (pa_cons pe_int pa_nil))))
      (pss_cons (ps_if (PW.pt (pw_or (pt_not (pt_val (pe_callB call_isi (by rfl) T.isinstance (by decide +kernel) (pa_cons (pv 1) (pa_cons (pe_bltn (v := .ty "str") (by rfl) T.str (by decide +kernel) rfl) pa_nil))))) (pw_or1 (pt_cmpR (op_notIn_kd Z.kd) (pv 1) (pe_glob (v := .ref Z.d) rfl Z.m rfl) rfl))))
          (pss_one (ps_ret pe_bl))
          pss_nil)
      (pss_one (ps_ret (pe_and (pe_cmpR op_eq (pe_callB call_len_seq (by rfl) T.len PySem.boot_len (pa_cons (pv 0) pa_nil)) (pe_op op_add (pe_callB call_len_seq (by rfl) T.len PySem.boot_len (pa_cons (pe_ix ix_kdict (pe_glob (v := .ref Z.d) rfl Z.m rfl) (pv 1) (fun _ _ => rfl)) pa_nil)) pe_int) (nomark _)) (pe_one (pe_callB (cr_all rfl) (by rfl) T.all (by decide +kernel) (pa_cons (pe_lc (own := [("thing", 2)]) (g := gName 2) (tt := tYes) rfl scHasShape.nd (pi_tup (pe_slice sl_tupS (pv 0) (po_some pe_int) po_none)) (blkOk_by (N := nHasShape) (sc := defScope sHasShape) (by decide +kernel)) (fun _ _ _ _ _ => (pg_name (i := 2) scHasShape.nd rfl (Or.inl rfl))) (fun _ _ _ _ _ => pts_nil) (fun _ _ _ _ _ => (pe_call GIsNumber (hr.mono (by first | omega | decide)) (by rfl) cIsNumber.m cIsNumber.F.kp cIsNumber.b .nil pass0 (pa_cons (pv 2) pa_nil)))) pa_nil)))))))), ?_⟩
    refine ⟨_, rfl, a, _, 0, _, rfl, ha, Row.w0 r, ?_⟩
    refine ⟨_, rfl, _, _, _, _, true, rfl, .ty _, .base (.str _), kit_ty (by decide +kernel), _, rfl, ?_⟩
    refine ⟨_, rfl, _, _, rfl, rfl, z1, _, rfl, ?_⟩
    refine ⟨_, rfl, a, _, rfl, .inr (SqT.of ha), _, rfl, Z.d, _, _, rfl, rfl, z2, t, _, rfl, .inr (z3 H), _, _, rfl, rfl, rfl, _, rfl, ?_⟩
    rw [List.length_map, Row.parts_len, decide_eq_true (show V.int ((r.parts.length + 1 : Nat) : Int) = V.int ((r.parts.length : Int) + 1) from rfl)]
    refine iteT ⟨_, rfl, _, rfl, a, _, rfl, ha, fun t2 H2 s2 e2 => ?_⟩
    rw [drop1, n1] at e2
    refine ⟨t2, rfl, ⟨_, SqT.of e2⟩, fun D hD => ?_⟩
    refine lc_tup (K := K) (a := t2) (xs := ns.map V.int) (fun i H' => H' D = some (.lst ((List.replicate i true).map V.bl)) ∧ Same1 H2 H') ⟨upd_same, Same.new hD⟩ (fun i H' _ ⟨_, q⟩ => SqT.of (q _ _ e2)) ?_ ?_
    · rintro i x H3 hi ⟨hd, s3⟩
      have hin : i < ns.length := by
        have q := (List.getElem?_eq_some_iff.mp hi).1
        rwa [List.length_map] at q
      obtain ⟨z, rfl⟩ : ∃ z, x = V.int z := by
        rw [List.getElem?_map, List.getElem?_eq_getElem hin] at hi
        exact ⟨_, (Option.some.inj hi).symm⟩
      refine ⟨rfl, _, rfl, z, rfl, _, hd, szl (by rw [List.length_map, List.length_replicate]; rw [n2] at hin; have := Row.parts_len r; omega), ?_, Same.mut s3 hD⟩
      rw [upd_same, List.replicate_succ', List.map_append]
      rfl
    · rintro H3 ⟨hd, s3⟩
      refine ⟨D, _, rfl, SqL.of hd, ?_⟩
      rw [show (List.replicate (ns.map V.int).length true).all id = true by rw [List.all_eq_true]; intro x hx; rw [List.eq_of_mem_replicate hx]; rfl]
      exact k _ (s2.trans s3)
abbrev nCheckRow : List Str := ["row", "number", "counts", "name", "thing"]
theorem scCheckRow : FnScope nCheckRow ["row", "number", "counts"] (defScope sCheckRow) := ⟨rfl, rfl, rfl, by decide +kernel, rfl, by decide +kernel, by decide +kernel⟩
theorem ok_checkRow (c : FCheckRow K mg) (cHasShape : FHasShape K mg) (cPart : FPart K mg) (cIsNumber : FIsNumber K mg) (T : Bt mg) (Z : Pt K w mg) : FnOk P w K mg base CX0 3 c.f c.fd ["row", "number", "counts"] spCheckRow := by
  have GHasShape : FnOk P w K mg base CX0 2 cHasShape.f cHasShape.fd ["row"] spHasShape := ok_hasShape cHasShape cPart cIsNumber T Z
  refine c.F.ok scCheckRow (fun vs H Q E h => ?_) (fun cdv A outer s H vs Q E hr h => ?_)
  · obtain ⟨a, c, n, r, W, N, kvs, rfl, _⟩ := h
    rfl
  · obtain ⟨a, c, n, r, W, N, kvs, rfl, ha, ho, hc, hW, hN, k⟩ := h
    obtain ⟨t, z1, z2, z3⟩ := Z.get r
    refine ⟨_, (pss_cons (ps_if (pt_not (pt_val (pe_call GHasShape (hr.mono (by first | omega | decide)) (by rfl) cHasShape.m cHasShape.F.kp cHasShape.b .nil pass0 (pa_cons (pv 0) pa_nil))))
          (pss_one ps_never)
          pss_nil)
      (pss_one (ps_for PassesOwn.never rfl (RZ.pi_zipA (by rfl) T.zip (pa_cons (pe_ix ix_kdict (pe_glob (v := .ref Z.d) rfl Z.m rfl) (pe_ix ix_tup (pv 0) pe_int (fun _ _ => rfl)) (fun _ _ => rfl)) (pa_cons (pe_slice sl_tupS (pv 0) (po_some pe_int) po_none) pa_nil))) (pg_tup rfl (pgs_cons (pg_name (i := 3) scCheckRow.nd rfl (Or.inl rfl)) (pgs_cons (pg_name (i := 4) scCheckRow.nd rfl (Or.inl rfl)) pgs_nil)))
          (pss_one (ps_if (pt_not (pt_chain op_le op_lt pe_int (pv 4) (pe_dget (hu_of hr) (pv 2) (pv 3) (fun _ _ => rfl))))
              (pss_one ps_never)
              pss_nil))))), ?_⟩
    refine ⟨_, rfl, a, r, rfl, ha, fun H1 s1 => ⟨_, rfl, ?_⟩⟩
    have ha1 := s1 _ _ ha
    refine ⟨_, rfl, a, _, _, _, rfl, rfl, SqT.of ha1, atI_nat (j := 0) (Row.w0 r), Z.d, _, _, rfl, rfl, z2, _, rfl, _, rfl, a, _, rfl, ha1, fun t2 H2 s2 e2 => ?_⟩
    rw [drop1] at e2
    have hl : (r.parts.map V.str).length = ((rowVs r).drop 1).length := by
      rw [List.length_map, List.length_drop, Row.parts_len]
      omega
    have S2 := s1.trans s2
    refine ⟨t, t2, _, _, rfl, .inr ⟨z3 H2, SqT.of e2, RZ.for_zipT hl (fun i σ H' => ∃ x3 x4 : Option V, σ = [some (.ref a), some (.int n), some (.ref c), x3, x4] ∧ Same1 H2 H') ⟨none, none, rfl, Same.refl _⟩
      (fun i σ H' ⟨_, _, _, q⟩ => ⟨z3 H', SqT.of (q _ _ e2)⟩) ?_ ?_⟩⟩
    · rintro i x y T' σ H3 hx hy ⟨x3, x4, rfl, s3⟩ hT'
      have hi : i < r.parts.length := by
        have q := (List.getElem?_eq_some_iff.mp hx).1
        rwa [List.length_map] at q
      obtain ⟨z, g1, g2⟩ := Row.args r hi
      have ey : y = .int (z : Int) := by
        rw [hy] at g1
        exact Option.some.inj g1
      subst ey
      have hc3 := (S2.trans s3) _ _ hc
      refine alloc hT' fun H4 s4 e4 => ?_
      have hc4 := s4 _ _ hc3
      refine ⟨T', _, rfl, SqT.of e4, rfl, _, _, rfl, _, _, rfl, rfl, ?_⟩
      refine ⟨_, rfl, _, _, rfl, rfl, _, rfl, ?_⟩
      rw [decide_eq_true (show (0 : Int) ≤ (z : Int) by omega)]
      rw [List.getElem?_map] at hx
      rcases g2 ho with ⟨q1, q2⟩ | ⟨q1, q2⟩
      · rw [q1] at hx
        have ex : V.str "worth" = x := Option.some.inj hx
        subst ex
        refine iteT ⟨_, rfl, _, rfl, c, _, rfl, dget (k := kWo) hc4 hW, _, _, rfl, rfl, _, rfl, ?_⟩
        rw [decide_eq_true (show (z : Int) < (W : Int) by omega)]
        exact ⟨_, _, rfl, s3.trans s4⟩
      · rw [q1] at hx
        have ex : V.str "next" = x := Option.some.inj hx
        subst ex
        refine iteT ⟨_, rfl, _, rfl, c, _, rfl, dget (k := kNx) hc4 hN, _, _, rfl, rfl, _, rfl, ?_⟩
        rw [decide_eq_true (show (z : Int) < (N : Int) by omega)]
        exact ⟨_, _, rfl, s3.trans s4⟩
    · rintro σ H3 ⟨x3, x4, rfl, s3⟩
      exact k _ (S2.trans s3)
theorem k_WN : kWo ≠ kNx := by decide +kernel
abbrev nCheckProgram : List Str := ["program", "rows", "number", "row"]
theorem scCheckProgram : FnScope nCheckProgram ["program"] (defScope sCheckProgram) := ⟨rfl, rfl, rfl, by decide +kernel, rfl, by decide +kernel, by decide +kernel⟩
theorem ok_checkProgram (c : FCheckProgram K mg) (cCheckRow : FCheckRow K mg) (cCheckWorths : FCheckWorths K mg) (cHasShape : FHasShape K mg) (cPart : FPart K mg) (cIsBetween : FIsBetween K mg) (cIsNumber : FIsNumber K mg) (T : Bt mg) (C : Cn mg) (Z : Pt K w mg) : FnOk P w K mg base CX0 4 c.f c.fd ["program"] spCheckProgram := by
  have GCheckRow : FnOk P w K mg base CX0 3 cCheckRow.f cCheckRow.fd ["row", "number", "counts"] spCheckRow := ok_checkRow cCheckRow cHasShape cPart cIsNumber T Z
  have GCheckWorths : FnOk P w K mg base CX0 3 cCheckWorths.f cCheckWorths.fd ["worths"] spCheckWorths := ok_checkWorths cCheckWorths cIsBetween cIsNumber T C
  have GPart : FnOk P w K mg base CX0 1 cPart.f cPart.fd ["whole", "at"] spPart := ok_part cPart T
  refine c.F.ok scCheckProgram (fun vs H Q E h => ?_) (fun cdv A outer s H vs Q E hr h => ?_)
  · obtain ⟨a, p, rfl, _⟩ := h
    rfl
  · obtain ⟨a, p, rfl, ⟨wa, ra, bs, ha, hwa, hra, hR⟩, g, k⟩ := h
    have hbr := Paired.length hR
    have hR40 := g.r40
    have hR1 := g.r1
    refine ⟨_, (pss_cons (ps_expr (pe_call GCheckWorths (hr.mono (by first | omega | decide)) (by rfl) cCheckWorths.m cCheckWorths.F.kp cCheckWorths.b .nil pass0 (pa_cons (pe_call GPart (hr.mono (by first | omega | decide)) (by rfl) cPart.m cPart.F.kp cPart.b .nil pass0 (pa_cons (pv 0) (pa_cons pe_int pa_nil))) pa_nil)))
      (pss_cons (ps_set (i := 1) scCheckProgram.nd rfl (Or.inl rfl) (pe_call GPart (hr.mono (by first | omega | decide)) (by rfl) cPart.m cPart.F.kp cPart.b .nil pass0 (pa_cons (pv 0) (pa_cons pe_int pa_nil))))
      (pss_cons (ps_if (PW.pt (pw_or (pt_not (pt_val (pe_callB call_isi (by rfl) T.isinstance (by decide +kernel) (pa_cons (pv 1) (pa_cons (pe_bltn (v := .ty "tuple") (by rfl) T.tuple (by decide +kernel) rfl) pa_nil))))) (pw_or (pt_cmpR op_ne (pe_callB call_len_seq (by rfl) T.len PySem.boot_len (pa_cons (pv 0) pa_nil)) pe_int (nomark _)) (pw_or1 (pt_not (pt_chain op_le op_le pe_int (pe_callB call_len_seq (by rfl) T.len PySem.boot_len (pa_cons (pv 1) pa_nil)) (pe_glob rfl C.mR relI)))))))
          (pss_one ps_never)
          pss_nil)
      (pss_one (ps_for PassesOwn.never rfl (pi_enumT (by rfl) T.enumerate (pa_cons (pv 1) pa_nil)) (pg_tup rfl (pgs_cons (pg_name (i := 2) scCheckProgram.nd rfl (Or.inl rfl)) (pgs_cons (pg_name (i := 3) scCheckProgram.nd rfl (Or.inl rfl)) pgs_nil)))
          (pss_one (ps_expr (pe_call GCheckRow (hr.mono (by first | omega | decide)) (by rfl) cCheckRow.m cCheckRow.F.kp cCheckRow.b .nil pass0 (pa_cons (pv 3) (pa_cons (pv 2) (pa_cons (pe_disp (pps_cons pe_str (pe_callB call_len_seq (by rfl) T.len PySem.boot_len (pa_cons (pe_ix ix_tup (pv 0) pe_int (fun _ _ => rfl)) pa_nil)) (pps_cons pe_str (pe_callB call_len_seq (by rfl) T.len PySem.boot_len (pa_cons (pv 1) pa_nil)) pps_nil)) (by rfl) (by rfl) (fun z => by cases z) (by decide)) pa_nil))))))))))), ?_⟩
    refine ⟨_, rfl, a, _, 0, _, rfl, ha, rfl, wa, p.ws, rfl, hwa, g.w8, g.num, ?_⟩
    refine ⟨_, rfl, a, _, 1, _, rfl, ha, rfl, ?_⟩
    refine ⟨_, rfl, _, _, _, _, true, rfl, .ty _, .base (.tup hra), kit_ty (by decide +kernel), _, rfl, ?_⟩
    refine ⟨_, rfl, a, _, rfl, .inr (SqT.of ha), rfl, _, rfl, ?_⟩
    rw [decide_eq_true (show V.int ((([V.ref wa, V.ref ra] : List V).length : Nat) : Int) = V.int 2 from rfl)]
    refine iteF ⟨_, rfl, ra, _, rfl, .inr (SqT.of hra), _, _, rfl, rfl, _, rfl, ?_⟩
    rw [List.length_map, hbr, decide_eq_true (show (1 : Int) ≤ (p.rows.length : Int) by omega)]
    refine iteT ⟨_, _, rfl, rfl, _, rfl, ?_⟩
    rw [decide_eq_true (show (p.rows.length : Int) ≤ 40 by omega)]
    refine iteF ?_
    refine ⟨_, rfl, ra, _, rfl, SqT.of hra, for_enumT (K := K) (a := ra) (xs := bs.map V.ref) (fun i σ H' => ∃ x2 x3 : Option V, σ = [some (.ref a), some (.ref ra), x2, x3] ∧ Same1 H H') ⟨none, none, rfl, Same.refl _⟩
      (fun i σ H' ⟨_, _, _, q⟩ => SqT.of (q _ _ hra)) ?_ ?_⟩
    · rintro i x T' σ H1 hi ⟨x2, x3, rfl, s1⟩ hT'
      have hiR : i < p.rows.length := by
        have q := (List.getElem?_eq_some_iff.mp hi).1
        rwa [List.length_map, hbr] at q
      have hr1 : p.rows[i]? = some p.rows[i] := List.getElem?_eq_getElem hiR
      obtain ⟨b, hb1, hb2⟩ := Paired.getR hR hr1
      have ex : x = V.ref b := by
        rw [List.getElem?_map, hb1] at hi
        exact (Option.some.inj hi).symm
      subst ex
      refine alloc hT' fun H2 s2 e2 => ?_
      have S2 := s1.trans s2
      refine ⟨T', _, rfl, SqT.of e2, rfl, _, _, rfl, _, _, rfl, rfl, ?_⟩
      refine ⟨_, rfl, _, rfl, fun c1 hc1 => ?_⟩
      refine alloc hc1 fun H3 s3 e3 => ?_
      have S3 := S2.trans s3
      refine ⟨_, rfl, a, _, _, _, rfl, rfl, SqT.of (S3 _ _ ha), at0, wa, _, rfl, .inr (SqT.of (S3 _ _ hwa)), _, rfl, ra, _, rfl, .inr (SqT.of (S3 _ _ hra)), e3,
        [(kWo, .int (((p.ws.map V.int).length : Nat) : Int)), (kNx, .int (((bs.map V.ref).length : Nat) : Int))], rfl, (by show 2 ≤ 15; decide), ?_⟩
      have em : mergeK [] [(kWo, .int (((p.ws.map V.int).length : Nat) : Int)), (kNx, .int (((bs.map V.ref).length : Nat) : Int))] = putK (putK [] kWo (.int (p.ws.length : Int))) kNx (.int (p.rows.length : Int)) := by
        rw [List.length_map, List.length_map, hbr]
        rfl
      rw [em]
      have S4 : Same1 H (upd H3 c1 (.dK (putK (putK [] kWo (.int (p.ws.length : Int))) kNx (.int (p.rows.length : Int))))) := Same.mut S3 (S2.free hc1)
      refine ⟨b, c1, _, p.rows[i], p.ws.length, p.rows.length, putK (putK [] kWo (.int (p.ws.length : Int))) kNx (.int (p.rows.length : Int)), rfl, S4 _ _ hb2, g.ok _ (List.getElem_mem hiR), upd_same, ?_, ?_, fun H5 s5 => ⟨_, _, rfl, S4.trans s5⟩⟩
      · rw [valV_put, if_neg k_WN, valV_put, if_pos rfl]
      · rw [valV_put, if_pos rfl]
    · rintro σ H1 ⟨x2, x3, rfl, s1⟩
      exact k _ s1
theorem scUsesWorth : FnScope ["row"] ["row"] (defScope sUsesWorth) := ⟨rfl, rfl, rfl, by decide +kernel, rfl, by decide +kernel, by decide +kernel⟩
theorem ok_usesWorth (c : FUsesWorth K mg) (Z : Pt K w mg) : FnOk P w K mg base CX0 1 c.f c.fd ["row"] spUses := by
  refine c.F.ok scUsesWorth (fun vs H Q E h => ?_) (fun cdv A outer s H vs Q E hr h => ?_)
  · obtain ⟨a, r, rfl, _⟩ := h
    rfl
  · obtain ⟨a, r, rfl, ha, k⟩ := h
    obtain ⟨t, z1, z2, z3⟩ := Z.get r
    refine ⟨_, (pss_one (ps_ret (pe_cmpR op_in_seq pe_str (pe_ix ix_kdict (pe_glob (v := .ref Z.d) rfl Z.m rfl) (pe_ix ix_tup (pv 0) pe_int (fun _ _ => rfl)) (fun _ _ => rfl)) rfl))), ?_⟩
    refine ⟨_, rfl, a, _, _, _, rfl, rfl, SqT.of ha, atI_nat (j := 0) (Row.w0 r), Z.d, _, _, rfl, rfl, z2, t, _, rfl, .inr (z3 H), rfl, ?_, ?_⟩
    · rw [List.all_eq_true]
      intro x hx
      obtain ⟨y, _, rfl⟩ := List.mem_map.mp hx
      rfl
    · show Q (.bl (inV (.str "worth") (r.parts.map V.str))) H
      rw [uses_in]
      exact k
end
end DL
namespace DL
open PySem L2 DLR
structure Dk (K : Frg) (mg : Str → Option Value) (C : Addr) : Prop where
  cl : Cls K C
  nN : NoAttr K C "number"
  nW : NoAttr K C "worths"
  nS : NoAttr K C "said"
  m : mg "Desk" = some (.ref C)
abbrev fN : Str := "number"
abbrev fW : Str := "worths"
abbrev fS : Str := "said"
theorem f_NW : fN ≠ fW := by decide +kernel
theorem f_NS : fN ≠ fS := by decide +kernel
theorem f_WS : fW ≠ fS := by decide +kernel
structure DeskM (C : Addr) (H : Hp) (p aw as_ : Addr) (m : Mach) : Prop where
  ins : ∃ (dx : Addr) (fs : List (Str × V)), H p = some (.ins C dx fs) ∧ fs.length ≤ 100 ∧ fs.lookup fN = some (.int m.desk) ∧ fs.lookup fW = some (.ref aw) ∧ fs.lookup fS = some (.ref as_) ∧ (∀ x, x ≠ fN → x ≠ fW → x ≠ fS → fs.lookup x = none)
  ws : H aw = some (.lst (m.ws.map V.int))
  said : H as_ = some (.lst (m.said.map V.int))
  ne : aw ≠ as_
theorem DeskM.same {C : Addr} {H H' : Hp} {p aw as_ : Addr} {m : Mach} (h : DeskM C H p aw as_ m) (s : Same1 H H') : DeskM C H' p aw as_ m := by
  obtain ⟨⟨dx, fs, h1, h2⟩, h3, h4, h5⟩ := h
  exact ⟨⟨dx, fs, s _ _ h1, h2⟩, s _ _ h3, s _ _ h4, h5⟩
theorem put_len2 : ∀ {fs : List (Str × V)} {f : Str} {v x : V}, fs.lookup f = some x → (putF f v fs).length = fs.length
  | [], f, v, x, h => by cases h
  | (g, y) :: fs, f, v, x, h => by
    unfold putF
    by_cases e : g = f
    · rw [if_pos e]
      rfl
    · rw [if_neg e]
      have h' : fs.lookup f = some x := by
        rw [List.lookup_cons] at h
        rw [show (f == g) = false from beq_eq_false_iff_ne.mpr (fun z => e z.symm)] at h
        exact h
      show (putF f v fs).length + 1 = fs.length + 1
      rw [put_len2 h']
theorem DeskM.put {C : Addr} {H : Hp} {p aw as_ dx : Addr} {m : Mach} {fs : List (Str × V)} {z : Int} (h : DeskM C H p aw as_ m) (e : H p = some (.ins C dx fs)) : DeskM C (upd H p (.ins C dx (putF fN (.int z) fs))) p aw as_ { m with desk := z } := by
  obtain ⟨⟨dx', fs', h1, h2, h3, h4, h5, h9⟩, h6, h7, h8⟩ := h
  rw [e] at h1
  have q := Option.some.inj h1
  injection q with q1 q2 q3
  subst q2 q3
  have nw : aw ≠ p := ne_of h6 e (by intro z; cases z)
  have ns : as_ ≠ p := ne_of h7 e (by intro z; cases z)
  refine ⟨⟨dx, putF fN (.int z) fs, upd_same, by rw [put_len2 h3]; exact h2, ?_, ?_, ?_, fun x a b c => ?_⟩, by rw [upd_ne nw]; exact h6, by rw [upd_ne ns]; exact h7, h8⟩
  · rw [lookup_putF, if_pos rfl]
  · rw [lookup_putF, if_neg f_NW.symm]; exact h4
  · rw [lookup_putF, if_neg f_NS.symm]; exact h5
  · rw [lookup_putF, if_neg a]; exact h9 x a b c
theorem But.free {H H' : Hp} {p a : Addr} {o : HO} (b : But p H H') (e : H' p = some o) (h : H' a = none) : H a = none := by
  cases q : H a with
  | none => rfl
  | some u =>
    by_cases z : a = p
    · subst z; rw [e] at h; cases h
    · rw [b _ _ z q] at h; cases h
theorem putF_le {fs : List (Str × V)} {f : Str} {v : V} : (putF f v fs).length ≤ fs.length + 1 := by
  induction fs with
  | nil => exact Nat.le_refl _
  | cons e fs ih =>
    obtain ⟨g, y⟩ := e
    unfold putF
    split
    · exact Nat.le_succ _
    · exact Nat.succ_le_succ ih
theorem Row.wd3 (r : Row) : r.isWd "load" = (match r with | .load _ _ => true | _ => false) ∧ r.isWd "add" = (match r with | .add _ _ => true | _ => false) ∧ r.isWd "take" = (match r with | .take _ _ => true | _ => false) := by
  cases r with
  | load _ _ => exact (by decide +kernel : decide (V.str "load" = V.str "load") = true ∧ decide (V.str "load" = V.str "add") = false ∧ decide (V.str "load" = V.str "take") = false)
  | add _ _ => exact (by decide +kernel : decide (V.str "add" = V.str "load") = false ∧ decide (V.str "add" = V.str "add") = true ∧ decide (V.str "add" = V.str "take") = false)
  | take _ _ => exact (by decide +kernel : decide (V.str "take" = V.str "load") = false ∧ decide (V.str "take" = V.str "add") = false ∧ decide (V.str "take" = V.str "take") = true)
  | store _ _ => exact (by decide +kernel : decide (V.str "store" = V.str "load") = false ∧ decide (V.str "store" = V.str "add") = false ∧ decide (V.str "store" = V.str "take") = false)
  | say _ => exact (by decide +kernel : decide (V.str "say" = V.str "load") = false ∧ decide (V.str "say" = V.str "add") = false ∧ decide (V.str "say" = V.str "take") = false)
  | test _ _ => exact (by decide +kernel : decide (V.str "test" = V.str "load") = false ∧ decide (V.str "test" = V.str "add") = false ∧ decide (V.str "test" = V.str "take") = false)
  | stop => exact (by decide +kernel : decide (V.str "stop" = V.str "load") = false ∧ decide (V.str "stop" = V.str "add") = false ∧ decide (V.str "stop" = V.str "take") = false)
abbrev sDInit : Stmt := inClass (top 32) 0
abbrev sDStep : Stmt := inClass (top 32) 1
abbrev sDOnward : Stmt := inClass (top 32) 2
abbrev sDUse : Stmt := inClass (top 32) 3
def spDInit (C : Addr) : Sp := fun vs H Q _ => ∃ (p dx : Addr) (v : V), vs = [.ref p, v] ∧ H p = some (.ins C dx []) ∧
  ∀ as_ fs H', (∀ x o, x ≠ p → H x = some o → H' x = some o) → H as_ = none → H' p = some (.ins C dx fs) → fs.length ≤ 100 → fs.lookup fN = some (.int 0) → fs.lookup fW = some v → fs.lookup fS = some (.ref as_) → (∀ x, x ≠ fN → x ≠ fW → x ≠ fS → fs.lookup x = none) → H' as_ = some (.lst []) → Q .non H'
def spDUse (C : Addr) : Sp := fun vs H Q _ => ∃ (p aw as_ : Addr) (m : Mach) (r : Row) (x N : Nat), vs = [.ref p, .str r.word, .int (x : Int)] ∧ DeskM C H p aw as_ m ∧ MOk m ∧ r.uses = true ∧ (rowVs r)[1]? = some (.int (x : Int)) ∧ r.ok m.ws.length N ∧
  ∀ H', But3 p aw as_ H H' → DeskM C H' p aw as_ (stepM m r).1 → Q .non H'
def spDOnward (C : Addr) : Sp := fun vs H Q _ => ∃ (p aw as_ ra : Addr) (m : Mach) (r : Row) (N : Nat), vs = [.ref p, .ref ra] ∧ DeskM C H p aw as_ m ∧ MOk m ∧ m.said.length ≤ 9000 ∧ H ra = some (.tup (rowVs r)) ∧ r.uses = false ∧ r.ok m.ws.length N ∧
  ∀ H', But3 p aw as_ H H' → DeskM C H' p aw as_ (stepM m r).1 → Q (oV (stepM m r).2) H'
def spDStep (C : Addr) : Sp := fun vs H Q _ => ∃ (p aw as_ ra : Addr) (m : Mach) (r : Row) (N : Nat), vs = [.ref p, .ref ra] ∧ DeskM C H p aw as_ m ∧ MOk m ∧ m.said.length ≤ 9000 ∧ H ra = some (.tup (rowVs r)) ∧ r.ok m.ws.length N ∧
  ∀ H', But3 p aw as_ H H' → DeskM C H' p aw as_ (stepM m r).1 → Q (oV (stepM m r).2) H'
section
variable {P : Program} {w : World} {K : PySem.W.Frag} {mg : Str → Option Value} {base : Heap} {C0 : Addr}
theorem scDInit : FnScope ["self", "worths"] ["self", "worths"] (defScope sDInit) := ⟨rfl, rfl, rfl, by decide +kernel, rfl, by decide +kernel, by decide +kernel⟩
theorem ok_dinit {f : Addr} {fd : FuncData} (F : Fun K "__init__" "Desk.__init__" sDInit f fd) (T : Bt mg) (TC : Dk K mg C0) : FnOk P w K mg base CX0 1 f fd ["self", "worths"] (spDInit C0) := by
  refine F.ok scDInit (fun vs H Q E h => ?_) (fun cdv A outer s H vs Q E hr h => ?_)
  · obtain ⟨p, dx, v, rfl, _⟩ := h
    rfl
  · obtain ⟨p, dx, v, rfl, hp, k⟩ := h
    refine ⟨_, (pss_cons (ps_fld (pv 0) pe_int rfl)
      (pss_cons (ps_fld (pv 0) (pv 1) rfl)
      (pss_one (ps_fld (pv 0) (pe_lst pa_nil) rfl)))), ?_⟩
    refine ⟨_, rfl, p, C0, dx, _, rfl, hp, TC.cl, TC.nN, (by show 0 < 1000; decide), ?_⟩
    refine change fun H1 b1 e1 => ?_
    refine ⟨_, rfl, _, rfl, p, C0, dx, _, rfl, e1, TC.cl, TC.nW, (by show 1 < 1000; decide), ?_⟩
    refine change fun H3 b3 e3 => ?_
    refine ⟨Nat.zero_le _, fun as_ has => ?_⟩
    refine alloc has fun H4 s4 e4 => ?_
    have h4 := s4 _ _ e3
    have nas : as_ ≠ p := ne_of e4 h4 (by intro z; cases z)
    refine ⟨_, rfl, p, C0, dx, _, rfl, h4, TC.cl, TC.nS, (by show 2 < 1000; decide), ?_⟩
    refine k as_ _ _ (fun x o n e => ?_) ?_ upd_same ?_ ?_ ?_ ?_ (fun x a b c => ?_) (by rw [upd_ne nas]; exact e4)
    · rw [upd_ne n]
      exact s4 _ _ (b3 _ _ n (b1 _ _ n e))
    · exact (b1.trans b3).free e3 has
    · have h1 := putF_le (fs := putF fW v (putF fN (.int 0) [])) (f := fS) (v := .ref as_)
      have h2 := putF_le (fs := putF fN (.int 0) []) (f := fW) (v := v)
      have h3 := putF_le (fs := []) (f := fN) (v := .int 0)
      have h4 : ([] : List (Str × V)).length = 0 := rfl
      exact Nat.le_trans h1 (by omega)
    · rw [lookup_putF, if_neg f_NS, lookup_putF, if_neg f_NW, lookup_putF, if_pos rfl]
    · rw [lookup_putF, if_neg f_WS, lookup_putF, if_pos rfl]
    · rw [lookup_putF, if_pos rfl]
    · rw [lookup_putF, if_neg c, lookup_putF, if_neg b, lookup_putF, if_neg a]
      rfl
end
end DL
namespace DL
open PySem L2 DLR
theorem DeskM.get {C : Addr} {H : Hp} {p aw as_ : Addr} {m : Mach} (h : DeskM C H p aw as_ m) : ∃ (dx : Addr) (fs : List (Str × V)), H p = some (.ins C dx fs) ∧ fs.length ≤ 100 ∧ fs.lookup fN = some (.int m.desk) ∧ fs.lookup fW = some (.ref aw) ∧ fs.lookup fS = some (.ref as_) ∧ (∀ x, x ≠ fN → x ≠ fW → x ≠ fS → fs.lookup x = none) := h.ins
theorem Row.use_at {r : Row} (h : r.uses = true) {x W N : Nat} (e : (rowVs r)[1]? = some (.int (x : Int))) (ho : r.ok W N) : x < W ∧ ∃ n : Nat, n < N ∧ (rowVs r)[2]? = some (.int (n : Int)) ∧ (r = .load x n ∨ r = .add x n ∨ r = .take x n ∨ r = .store x n) := by
  cases r with
  | load w n => have q : w = x := Int.ofNat.inj (V.int.inj (Option.some.inj e)); subst q; exact ⟨ho.1, n, ho.2, rfl, .inl rfl⟩
  | add w n => have q : w = x := Int.ofNat.inj (V.int.inj (Option.some.inj e)); subst q; exact ⟨ho.1, n, ho.2, rfl, .inr (.inl rfl)⟩
  | take w n => have q : w = x := Int.ofNat.inj (V.int.inj (Option.some.inj e)); subst q; exact ⟨ho.1, n, ho.2, rfl, .inr (.inr (.inl rfl))⟩
  | store w n => have q : w = x := Int.ofNat.inj (V.int.inj (Option.some.inj e)); subst q; exact ⟨ho.1, n, ho.2, rfl, .inr (.inr (.inr rfl))⟩
  | say n => cases h
  | test a b => cases h
  | stop => cases h
section
variable {P : Program} {w : World} {K : PySem.W.Frag} {mg : Str → Option Value} {base : Heap} {C0 : Addr}
theorem scDUse : FnScope ["self", "word", "worth"] ["self", "word", "worth"] (defScope sDUse) := ⟨rfl, rfl, rfl, by decide +kernel, rfl, by decide +kernel, by decide +kernel⟩
theorem ok_duse {f : Addr} {fd : FuncData} (F : Fun K "use" "Desk.use" sDUse f fd) (cOnDesk : FOnDesk K mg) (T : Bt mg) (CD : Cd mg) (TC : Dk K mg C0) : FnOk P w K mg base CX0 2 f fd ["self", "word", "worth"] (spDUse C0) := by
  have GOnDesk : FnOk P w K mg base CX0 1 cOnDesk.f cOnDesk.fd ["number"] spRing := ok_onDesk cOnDesk CD
  refine F.ok scDUse (fun vs H Q E h => ?_) (fun cdv A outer s H vs Q E hr h => ?_)
  · obtain ⟨p, aw, as_, m, r, x, N, rfl, _⟩ := h
    rfl
  · obtain ⟨p, aw, as_, m, r, x, N, rfl, hM, hO, hu, hx, ho, k⟩ := h
    refine ⟨_, (pss_one (ps_if (pt_cmpR op_eq (pv 1) pe_str (nomark _))
          (pss_one (ps_fld (pv 0) (pe_ix ix_list (pe_fld (pv 0) rfl) (pv 2) (fun _ _ => rfl)) rfl))
          (pss_one (ps_if (pt_cmpR op_eq (pv 1) pe_str (nomark _))
              (pss_one (ps_fld (pv 0) (pe_call GOnDesk (hr.mono (by first | omega | decide)) (by rfl) cOnDesk.m cOnDesk.F.kp cOnDesk.b .nil pass0 (pa_cons (pe_op op_add (pe_fld (pv 0) rfl) (pe_ix ix_list (pe_fld (pv 0) rfl) (pv 2) (fun _ _ => rfl))) pa_nil)) rfl))
              (pss_one (ps_if (pt_cmpR op_eq (pv 1) pe_str (nomark _))
                  (pss_one (ps_fld (pv 0) (pe_call GOnDesk (hr.mono (by first | omega | decide)) (by rfl) cOnDesk.m cOnDesk.F.kp cOnDesk.b .nil pass0 (pa_cons (pe_op op_sub (pe_fld (pv 0) rfl) (pe_ix ix_list (pe_fld (pv 0) rfl) (pv 2) (fun _ _ => rfl))) pa_nil)) rfl))
                  (pss_one (ps_asg (pe_fld (pv 0) rfl) (pg_sub (pe_fld (pv 0) rfl) (pv 2) set_list))))))))), ?_⟩
    obtain ⟨hxw, n, hn, hn2, hcase⟩ := Row.use_at hu hx ho
    obtain ⟨dx, fs, h1, h2, h3, h4, h5, h9⟩ := hM.get
    have hat := (at_in hO hxw).1
    have hatV : (m.ws.map V.int)[x]? = some (.int (m.at x)) := by rw [List.getElem?_map, hat]; rfl
    obtain ⟨w1, w2, w3⟩ := Row.wd3 r
    refine ⟨_, rfl, rfl, r.isWd "load", rfl, ?_⟩
    rcases hcase with rfl | rfl | rfl | rfl
    · rw [w1]
      refine iteT ⟨_, rfl, p, _, _, _, _, rfl, h1, TC.cl, TC.nW, h4, _, rfl, aw, _, _, _, rfl, rfl, SqL.of hM.ws, atI_nat hatV, _, rfl, p, _, _, _, rfl, h1, TC.cl, TC.nN, Nat.lt_of_le_of_lt h2 (by decide), ?_⟩
      exact k _ But3.upd1 (hM.put h1)
    · rw [w1]
      refine iteF ⟨_, rfl, rfl, Row.isWd "add" (.add x n), rfl, ?_⟩
      rw [w2]
      refine iteT ⟨_, rfl, p, _, _, _, _, rfl, h1, TC.cl, TC.nN, h3, _, rfl, p, _, _, _, _, rfl, h1, TC.cl, TC.nW, h4, _, rfl, aw, _, _, _, rfl, rfl, SqL.of hM.ws, atI_nat hatV, _, _, rfl, rfl, _, rfl, _, rfl, p, _, _, _, rfl, h1, TC.cl, TC.nN, Nat.lt_of_le_of_lt h2 (by decide), ?_⟩
      exact k _ But3.upd1 (hM.put h1)
    · rw [w1]
      refine iteF ⟨_, rfl, rfl, Row.isWd "add" (.take x n), rfl, ?_⟩
      rw [w2]
      refine iteF ⟨_, rfl, rfl, Row.isWd "take" (.take x n), rfl, ?_⟩
      rw [w3]
      refine iteT ⟨_, rfl, p, _, _, _, _, rfl, h1, TC.cl, TC.nN, h3, _, rfl, p, _, _, _, _, rfl, h1, TC.cl, TC.nW, h4, _, rfl, aw, _, _, _, rfl, rfl, SqL.of hM.ws, atI_nat hatV, _, _, rfl, rfl, _, rfl, _, rfl, p, _, _, _, rfl, h1, TC.cl, TC.nN, Nat.lt_of_le_of_lt h2 (by decide), ?_⟩
      exact k _ But3.upd1 (hM.put h1)
    · rw [w1]
      refine iteF ⟨_, rfl, rfl, Row.isWd "add" (.store x n), rfl, ?_⟩
      rw [w2]
      refine iteF ⟨_, rfl, rfl, Row.isWd "take" (.store x n), rfl, ?_⟩
      rw [w3]
      refine iteF ⟨_, rfl, p, _, _, _, _, rfl, h1, TC.cl, TC.nN, h3, _, rfl, p, _, _, _, _, rfl, h1, TC.cl, TC.nW, h4, _, rfl, aw, _, _, x, rfl, rfl, hM.ws, ixN_nat (by rw [List.length_map]; exact hxw), ?_⟩
      refine k _ But3.upd2 ⟨⟨dx, fs, by rw [upd_ne (ne_of h1 hM.ws (by intro z; cases z))]; exact h1, h2, h3, h4, h5, h9⟩, ?_, by rw [upd_ne hM.ne.symm]; exact hM.said, hM.ne⟩
      rw [upd_same]
      show _ = some (HO.lst ((m.ws.set x m.desk).map V.int))
      rw [List.map_set]
theorem scDOnward : FnScope ["self", "row"] ["self", "row"] (defScope sDOnward) := ⟨rfl, rfl, rfl, by decide +kernel, rfl, by decide +kernel, by decide +kernel⟩
theorem ok_donward {f : Addr} {fd : FuncData} (F : Fun K "onward" "Desk.onward" sDOnward f fd) (T : Bt mg) (TC : Dk K mg C0) : FnOk P w K mg base CX0 1 f fd ["self", "row"] (spDOnward C0) := by
  refine F.ok scDOnward (fun vs H Q E h => ?_) (fun cdv A outer s H vs Q E hr h => ?_)
  · obtain ⟨p, aw, as_, ra, m, r, N, rfl, _⟩ := h
    rfl
  · obtain ⟨p, aw, as_, ra, m, r, N, rfl, hM, hO, hS, hra, hu, ho, k⟩ := h
    refine ⟨_, (pss_cons (ps_if (pt_cmpR op_eq (pe_ix ix_tup (pv 1) pe_int (fun _ _ => rfl)) pe_str (nomark _))
          (pss_one (ps_ret pe_non))
          pss_nil)
      (pss_cons (ps_if (pt_cmpR op_eq (pe_ix ix_tup (pv 1) pe_int (fun _ _ => rfl)) pe_str (nomark _))
          (pss_one (ps_ret (pe_ifExp (pt_cmpR op_eq (pe_fld (pv 0) rfl) pe_int (nomark _)) (pe_ix ix_tup (pv 1) pe_int (fun _ _ => rfl)) (pe_ix ix_tup (pv 1) pe_int (fun _ _ => rfl)))))
          pss_nil)
      (pss_cons (ps_expr (pe_bm PySem.F.plainAttrs_list PySem.F.slot_list_append PySem.F.type_list_append mt_append (pe_fld (pv 0) rfl) (pa_cons (pe_fld (pv 0) rfl) pa_nil)))
      (pss_one (ps_ret (pe_ix ix_tup (pv 1) pe_int (fun _ _ => rfl))))))), ?_⟩
    obtain ⟨dx, fs, h1, h2, h3, h4, h5, h9⟩ := hM.get
    obtain ⟨w1, w2, w3, w4⟩ := Row.wd_eq r
    refine ⟨_, rfl, ra, _, _, _, rfl, rfl, SqT.of hra, atI_nat (j := 0) (Row.w0 r), rfl, r.isWd "stop", rfl, ?_⟩
    cases r with
    | load w n => cases hu
    | add w n => cases hu
    | take w n => cases hu
    | store w n => cases hu
    | say n =>
      rw [w4]
      refine iteF ⟨_, rfl, ra, _, _, _, rfl, rfl, SqT.of hra, atI_nat (j := 0) (Row.w0 (.say n)), rfl, Row.isWd "test" (.say n), rfl, ?_⟩
      rw [w1]
      refine iteF ⟨_, rfl, p, _, _, _, _, rfl, h1, TC.cl, TC.nS, h5, .inl ⟨rfl, _, SqL.of hM.said⟩, _, rfl, p, _, _, _, _, rfl, h1, TC.cl, TC.nN, h3, as_, _, _, rfl, rfl, hM.said, szl (by rw [List.length_map]; omega), ?_⟩
      have hra2 : (upd H as_ (.lst (m.said.map V.int ++ [.int m.desk]))) ra = some (.tup (rowVs (.say n))) := by
        rw [upd_ne (ne_of hra hM.said (by intro z; cases z))]; exact hra
      refine ⟨_, rfl, ra, _, _, _, rfl, rfl, SqT.of hra2, at1, k _ But3.upd3 ⟨⟨dx, fs, by rw [upd_ne (ne_of h1 hM.said (by intro z; cases z))]; exact h1, h2, h3, h4, h5, h9⟩, by rw [upd_ne hM.ne]; exact hM.ws, ?_, hM.ne⟩⟩
      rw [upd_same]
      show _ = some (HO.lst ((m.said ++ [m.desk]).map V.int))
      rw [List.map_append]
      rfl
    | test a b =>
      rw [w4]
      refine iteF ⟨_, rfl, ra, _, _, _, rfl, rfl, SqT.of hra, atI_nat (j := 0) (Row.w0 (.test a b)), rfl, Row.isWd "test" (.test a b), rfl, ?_⟩
      rw [w1]
      refine iteT ⟨_, rfl, p, _, _, _, _, rfl, h1, TC.cl, TC.nN, h3, rfl, _, rfl, ?_⟩
      by_cases c : m.desk = 0
      · rw [decide_eq_true (show V.int m.desk = V.int 0 by rw [c])]
        refine iteT ⟨_, rfl, ra, _, _, _, rfl, rfl, SqT.of hra, at1, ?_⟩
        have q := k _ (But3.of (Same.refl _)) hM
        show Q (V.int (a : Int)) H
        have e : (stepM m (.test a b)).2 = some a := by show some (if m.desk = 0 then a else b) = _; rw [if_pos c]
        rw [e] at q
        exact q
      · rw [decide_eq_false (show ¬ V.int m.desk = V.int 0 from fun z => c (V.int.inj z))]
        refine iteF ⟨_, rfl, ra, _, _, _, rfl, rfl, SqT.of hra, at2, ?_⟩
        have q := k _ (But3.of (Same.refl _)) hM
        show Q (V.int (b : Int)) H
        have e : (stepM m (.test a b)).2 = some b := by show some (if m.desk = 0 then a else b) = _; rw [if_neg c]
        rw [e] at q
        exact q
    | stop =>
      rw [w4]
      exact iteT (k _ (But3.of (Same.refl _)) hM)
theorem scDStep : FnScope ["self", "row"] ["self", "row"] (defScope sDStep) := ⟨rfl, rfl, rfl, by decide +kernel, rfl, by decide +kernel, by decide +kernel⟩
theorem ok_dstep {f : Addr} {fd : FuncData} {fu : Addr} {fdu : FuncData} {fo : Addr} {fdo : FuncData} (F : Fun K "step" "Desk.step" sDStep f fd) (FU : Fun K "use" "Desk.use" sDUse fu fdu) (mUse : Meth K C0 "use" fu) (bUse : Binds K fdu ["self", "word", "worth"] [])
    (FO : Fun K "onward" "Desk.onward" sDOnward fo fdo) (mOnward : Meth K C0 "onward" fo) (bOnward : Binds K fdo ["self", "row"] []) (cOnDesk : FOnDesk K mg) (cUsesWorth : FUsesWorth K mg) (T : Bt mg) (CD : Cd mg) (Z : Pt K w mg) (TC : Dk K mg C0) : FnOk P w K mg base CX0 3 f fd ["self", "row"] (spDStep C0) := by
  have GUse : FnOk P w K mg base CX0 2 fu fdu ["self", "word", "worth"] (spDUse C0) := ok_duse FU cOnDesk T CD TC
  have GOnward : FnOk P w K mg base CX0 1 fo fdo ["self", "row"] (spDOnward C0) := ok_donward FO T TC
  have GUsesWorth : FnOk P w K mg base CX0 1 cUsesWorth.f cUsesWorth.fd ["row"] spUses := ok_usesWorth cUsesWorth Z
  refine F.ok scDStep (fun vs H Q E h => ?_) (fun cdv A outer s H vs Q E hr h => ?_)
  · obtain ⟨p, aw, as_, ra, m, r, N, rfl, _⟩ := h
    rfl
  · obtain ⟨p, aw, as_, ra, m, r, N, rfl, hM, hO, hS, hra, ho, k⟩ := h
    refine ⟨_, (pss_cons (ps_if (pt_val (pe_call GUsesWorth (hr.mono (by first | omega | decide)) (by rfl) cUsesWorth.m cUsesWorth.F.kp cUsesWorth.b .nil pass0 (pa_cons (pv 1) pa_nil)))
          (pss_cons (ps_expr (pe_meth (pv 0) TC.cl mUse GUse (hr.mono (by first | omega | decide)) bUse .nil pass0 (pa_cons (pe_ix ix_tup (pv 1) pe_int (fun _ _ => rfl)) (pa_cons (pe_ix ix_tup (pv 1) pe_int (fun _ _ => rfl)) pa_nil))))
          (pss_one (ps_ret (pe_ix ix_tup (pv 1) pe_int (fun _ _ => rfl)))))
          pss_nil)
      (pss_one (ps_ret (pe_meth (pv 0) TC.cl mOnward GOnward (hr.mono (by first | omega | decide)) bOnward .nil pass0 (pa_cons (pv 1) pa_nil))))), ?_⟩
    obtain ⟨dx, fs, h1, h2, h3, h4, h5, h9⟩ := hM.get
    refine ⟨_, rfl, ra, r, rfl, hra, _, rfl, ?_⟩
    cases hu : r.uses with
    | true =>
      have h01 : ∃ x : Nat, (rowVs r)[1]? = some (.int (x : Int)) := by
        cases r <;> first | exact ⟨_, rfl⟩ | cases hu
      obtain ⟨x, hx⟩ := h01
      obtain ⟨hxw, n, hn, hn2, hcase⟩ := Row.use_at hu hx ho
      refine iteT ⟨_, rfl, p, dx, fs, rfl, h1, h9 _ (by decide +kernel) (by decide +kernel) (by decide +kernel), _, rfl, ra, _, _, _, rfl, rfl, SqT.of hra, atI_nat (j := 0) (Row.w0 r), _, rfl, ra, _, _, _, rfl, rfl, SqT.of hra, atI_nat (j := 1) hx, p, aw, as_, m, r, x, N, rfl, hM, hO, hu, hx, ho, fun H' b' m' => ?_⟩
      have hnp : ra ≠ p := ne_of hra h1 (by intro z; cases z)
      have hnw : ra ≠ aw := ne_of hra hM.ws (by intro z; cases z)
      have hns : ra ≠ as_ := ne_of hra hM.said (by intro z; cases z)
      refine ⟨_, rfl, ra, _, _, _, rfl, rfl, SqT.of (b' _ _ hnp hnw hns hra), atI_nat (j := 2) hn2, ?_⟩
      have q := k H' b' m'
      rcases hcase with rfl | rfl | rfl | rfl <;> exact q
    | false =>
      exact iteF ⟨_, rfl, p, dx, fs, rfl, h1, h9 _ (by decide +kernel) (by decide +kernel) (by decide +kernel), _, rfl, p, aw, as_, ra, m, r, N, rfl, hM, hO, hS, hra, hu, ho, k⟩
end
structure DkM (K : Frg) (mg : Str → Option Value) where
  C : Addr
  d : Dk K mg C
  fi : Addr
  fdi : FuncData
  FI : Fun K "__init__" "Desk.__init__" sDInit fi fdi
  bI : Binds K fdi ["self", "worths"] []
  mkd : Mk K C fi
  fs : Addr
  fds : FuncData
  FS : Fun K "step" "Desk.step" sDStep fs fds
  bS : Binds K fds ["self", "row"] []
  mS : Meth K C "step" fs
  fu : Addr
  fdu : FuncData
  FU : Fun K "use" "Desk.use" sDUse fu fdu
  bU : Binds K fdu ["self", "word", "worth"] []
  mU : Meth K C "use" fu
  fo : Addr
  fdo : FuncData
  FO : Fun K "onward" "Desk.onward" sDOnward fo fdo
  bO : Binds K fdo ["self", "row"] []
  mO : Meth K C "onward" fo
end DL
namespace DLR
open PySem PySem.Spec PyProof.Rows L2
/-! ### set(xs) of a list or a tuple of whole numbers; its rules over the layer -/
def newSet (w : World) : Obj := { cls := .type "set", dict := none, data := .set #[] 0 (.fresh 0 0 (!w.params.followText "set-order")) }
def SetMade (w : World) (s : Shared) (ns : List Int) (v : Value) (s2 : Shared) : Prop := v = .none ∧ ∃ (h2 : Heap) (tk c : Nat), s2 = { s with heap := h2, toks := tk } ∧ SetR w h2 s.heap.objs.size (fun j => decide (j ∈ ns)) c ∧ c ≤ ns.length ∧ ∀ b o, s.heap.get? b = some o → h2.get? b = some o
section
variable {P : Program} {w : World} {A : Around} {E : Value → Shared → Prop} {s : Shared}
set_option maxHeartbeats 3200000 in
theorem set_of_list {l : Addr} {items : Array Value} (ns : List Int) {Q : Value → Shared → Prop} (hh : A.handled = none) (hl : s.heap.IsList l items) (hit : IntsAre items.toList ns) (room : ns.length + 1 < scanBound)
    (k : ∀ (h2 : Heap) (tk c : Nat), SetR w h2 s.heap.objs.size (fun j => decide (j ∈ ns)) c → c ≤ ns.length → (∀ b o, s.heap.get? b = some o → h2.get? b = some o) → Q (.ref s.heap.objs.size) { s with heap := h2, toks := tk }) :
    wpAny (model P w) A (call (.type "set") [.ref l]) Q E s := by
  have size_eq : items.size = ns.length := by simpa using IntsAre.length hit
  obtain ⟨_, _, mro⟩ := F.called_set.mro
  have made := F.called_set.made
  have sub := F.called_set.sub
  have nt := F.called_set.notType
  have cc := F.called_set.canCreate
  have tc := F.typeCall_set_1 (.ref l)
  refine wpAny_call (codeAny_of_tree (show wpAny _ _ (callAny (.type "set") _) _ _ _ from wpAny_pure ⟨Code.quiet_builtin _ (by decide +kernel), codeAny_builtin F.entry_type_call ?_⟩))
  rw [Around.under_plain (weight_type_call_type "set" [.ref l] []) rfl]
  repeat (any_goals (first | assumption | wp_step))

  refine codeAny_mono (code_set_led1 (.ref l) (E := E) (Q₁ := fun o s1 => o = .ref s.heap.objs.size ∧ s1 = { s with heap := s.heap.push (newSet w) }) ⟨rfl, rfl⟩) fun r s1 hr => ?_
  match r, hr with
  | .error e, hr => exact hr
  | .ok (.ret o), hr =>
    obtain ⟨rfl, rfl⟩ := hr
    have at0 : (s.heap.push (newSet w)).get? s.heap.objs.size = some (newSet w) := Heap.get?_push_size _ rfl
    have ty : Shared.TypeIs { s with heap := s.heap.push (newSet w) } (.ref s.heap.objs.size) "set" := ⟨_, at0, rfl⟩
    have il := F.called_set.init.lookup
    have ib := F.called_set.init.bind (.ref s.heap.objs.size)
    repeat (any_goals (first | assumption | wp_step))

    refine codeAny_mono (codeAny_call_builtin (R := wants (SetMade w s ns) E) F.called_set.init.plain F.entry_set_init (check_set_init_1 ty ?_)) fun r2 s2 hr2 => ?_
    · obtain ⟨ol, hol, rfl', nl, hdl⟩ := hl
      obtain ⟨cls0, dict0, data0, slots0⟩ := ol
      dsimp only at rfl' hdl
      subst rfl' hdl
      have ol2 : (s.heap.push (newSet w)).get? l = some { cls := .type "list", dict := dict0, data := .seq items nl, slots := slots0 } := Heap.get?_push_of_some _ hol
      have s_ls := F.sub_list_set
      have s_lf := F.sub_list_frozenset
      have ne_d : (Value.type "list" == Value.type "dict") = false := by decide
      have isl : (s.heap.push (newSet w)).IsList l items := ⟨_, ol2, rfl, nl, rfl⟩
      unfold Builtin.«set.__init__» noKeywords Builtin.Frozenset.updateFrom
      generalize hPI : pyIter = PI
      wp_walk
      subst hPI

      refine wpAny_pyIter_list isl (wpAny_bind (wpAny_runValue ?_))
      have low : l < s.heap.objs.size := Heap.lt_size hol
      have h_in : A.in1.in1.in1.handled = none := by simp [hh]
      have sz1 : (s.heap.push (newSet w)).objs.size = s.heap.objs.size + 1 := Heap.size_push ..
      have neI : l ≠ (s.heap.push (newSet w)).objs.size := Nat.ne_of_lt (by rw [sz1]; exact Nat.lt_succ_of_lt low)
      have out0 : s.heap.objs.size ∉ [(s.heap.push (newSet w)).objs.size, l] := fun q => by
        rcases List.mem_cons.mp q with e | e
        · exact Nat.ne_of_lt (by rw [sz1]; exact Nat.lt_succ_self _) e
        · exact Nat.ne_of_gt low (List.mem_singleton.mp e)
      have vals : ∀ (i : Nat) (v : Value), items[i]? = some v → ∃ k t, ns[i]? = some k ∧ v = .int k t := fun i v hv => by
        have lt : i < ns.length := size_eq ▸ (Array.getElem?_eq_some_iff.mp hv).1
        obtain ⟨t, e⟩ := IntsAre.int_at hit i v (by rw [Array.getElem?_toList]; exact hv)
        refine ⟨ns[i], t, List.getElem?_eq_getElem lt, e.trans ?_⟩
        rw [List.getD_eq_getElem?_getD, List.getElem?_eq_getElem lt]
        rfl
      refine set_update_ints ((Walks.list h_in _ l neI items).toS) s.heap.objs.size out0 ns size_eq room vals (items.size - 0) 0 _ (by omega) (Nat.zero_le _) ⟨⟨_, Heap.get?_push_size _ rfl, rfl, rfl⟩, isl.push _⟩ ⟨0, Nat.le_refl 0, setR_new_at (Heap.get?_push_of_some _ at0)⟩ ?_
      intro s3 c3 mv hc3 set3
      have g3 := mv.gens
      have d3 := mv.drawn
      have o3 := mv.os
      have m3 := mv.heap
      obtain ⟨hp3, gs3, dr3, tk3, os3⟩ := s3
      have g3 : gs3 = s.gens := g3
      have d3 : dr3 = s.drawn := d3
      have o3 : os3 = s.os := o3
      subst g3 d3 o3
      refine show wpAny _ _ _ _ _ _ from wpAny_pure (show wpAny _ _ (ret Value.none) _ _ _ from wpAny_pure ⟨rfl, hp3, tk3, c3, rfl, set3, size_eq ▸ hc3, fun b o e => ?_⟩)
      have b0 : b < s.heap.objs.size := Heap.lt_size e
      refine m3 b o (fun q => ?_) (Heap.get?_push_of_some _ (Heap.get?_push_of_some _ e))
      rcases List.mem_cons.mp q with e2 | e2
      · exact Nat.ne_of_lt b0 e2
      · exact Nat.ne_of_lt (by rw [sz1]; exact Nat.lt_succ_of_lt b0) (List.mem_singleton.mp e2)
    · match r2, hr2 with
      | .error e, q => exact q
      | .ok (.ret v), q =>
        obtain ⟨rfl, h2, tk, c, rfl, q1, q2, q3⟩ := q
        repeat (any_goals (first | assumption | wp_step))
        exact k _ _ _ q1 q2 q3
      | .ok .next, q => exact q.elim
      | .ok .brk, q => exact q.elim
      | .ok .cont, q => exact q.elim
  | .ok .next, hr => exact hr.elim
  | .ok .brk, hr => exact hr.elim
  | .ok .cont, hr => exact hr.elim
end
end DLR
namespace DLR
open PySem PySem.Spec PyProof.Rows L2
def rSetL (K : PySem.W.Frag) (w : World) : List V → Hp → VK → Prop := fun vs H Q => ∃ (l : Addr) (ns : List Int), vs = [V.ref l] ∧ SqL K H l (ns.map V.int) ∧ ns.length < 60 ∧
  ∀ p c, c ≤ ns.length → H p = none → Q (.ref p) (upd H p (SetO w p (fun j => decide (j ∈ ns)) c))
def rSetT (K : PySem.W.Frag) (w : World) : List V → Hp → VK → Prop := fun vs H Q => ∃ (l : Addr) (ns : List Int), vs = [V.ref l] ∧ SqT K H l (ns.map V.int) ∧ ns.length < 60 ∧
  ∀ p c, c ≤ ns.length → H p = none → Q (.ref p) (upd H p (SetO w p (fun j => decide (j ∈ ns)) c))
theorem scan60 {n : Nat} (h : n < 60) : n + 1 < scanBound := Nat.lt_of_lt_of_le (Nat.succ_lt_succ h) (by decide)
section
variable {X : Cx}
theorem cr_setL (hc : X.calm = true) : CallR X (.type "set") (rSetL X.K X.w) := by
  intro pins s σ H vs us Q I r h
  obtain ⟨l, ns, rfl, hs, hb, q⟩ := h
  rw [Vals.ref1 r]
  obtain ⟨its, rv, pl, hz⟩ := I.list hs
  refine set_of_list ns (I.ok.hd hc) pl.isList (by simpa using rv.ints) (scan60 hb) fun h2 tk c R hc2 k => ?_
  exact ⟨.ref s.heap.objs.size, _, I.laid (t' := tk) k (Nat.le_refl _) (setO_new R), rfl, q _ c hc2 (I.hok.fresh (Nat.le_refl _))⟩
theorem cr_setT (hc : X.calm = true) : CallR X (.type "set") (rSetT X.K X.w) := by
  intro pins s σ H vs us Q I r h
  obtain ⟨l, ns, rfl, hs, hb, q⟩ := h
  rw [Vals.ref1 r]
  obtain ⟨its, rv, ⟨o, ho, hcl, n, hd⟩, _⟩ := I.tuple hs
  refine call_set_tupI (items := its.toArray) ns (I.ok.hd hc) ⟨o, ho, hcl, n, hd⟩ (by simpa using rv.ints) (scan60 hb) fun h2 tk c R hc2 k => ?_
  exact ⟨.ref s.heap.objs.size, _, I.laid (t' := tk) k (Nat.le_refl _) (setO_new R), rfl, q _ c hc2 (I.hok.fresh (Nat.le_refl _))⟩
end
theorem rise_uniq : ∀ {l m : List Int}, l.Pairwise (· < ·) → m.Pairwise (· < ·) → (∀ x, x ∈ l ↔ x ∈ m) → l = m
  | [], [], _, _, _ => rfl
  | [], y :: m, _, _, h => absurd ((h y).mpr List.mem_cons_self) (by simp)
  | x :: l, [], _, _, h => absurd ((h x).mp List.mem_cons_self) (by simp)
  | x :: l, y :: m, hl, hm, h => by
    have h1 := List.pairwise_cons.mp hl
    have h2 := List.pairwise_cons.mp hm
    have e : x = y := by
      have a := (h x).mp List.mem_cons_self
      have b := (h y).mpr List.mem_cons_self
      rcases List.mem_cons.mp a with e | e
      · exact e
      · rcases List.mem_cons.mp b with e2 | e2
        · exact e2.symm
        · have := h2.1 x e
          have := h1.1 y e2
          omega
    subst e
    rw [rise_uniq h1.2 h2.2 fun z => ⟨fun hz => ?_, fun hz => ?_⟩]
    · rcases List.mem_cons.mp ((h z).mp (List.mem_cons_of_mem _ hz)) with e | e
      · have := h1.1 z hz
        omega
      · exact e
    · rcases List.mem_cons.mp ((h z).mpr (List.mem_cons_of_mem _ hz)) with e | e
      · have := h2.1 z hz
        omega
      · exact e
end DLR
namespace DL
open PySem L2 DLR
/-! ### layings -/
structure Lay where
  wide : Nat
  places : List Nat
  homes : List (List Nat)
abbrev HomesAt (H : Hp) (bs : List Addr) (hs : List (List Nat)) : Prop := Paired (fun b h => H b = some (.tup (h.map nI))) bs hs
def LayAt (H : Hp) (a : Addr) (y : Lay) : Prop :=
  ∃ (pa ha : Addr) (bs : List Addr), H a = some (.tup [nI y.wide, .ref pa, .ref ha]) ∧ H pa = some (.tup (y.places.map nI)) ∧ H ha = some (.tup (bs.map V.ref)) ∧ HomesAt H bs y.homes
theorem HomesAt.kp {H H' : Hp} {bs : List Addr} {hs : List (List Nat)} (h : HomesAt H bs hs) (k : Kp H H') : HomesAt H' bs hs := Paired.mapP h fun b x e => k _ _ e
theorem LayAt.kp {H H' : Hp} {a : Addr} {y : Lay} (h : LayAt H a y) (k : Kp H H') : LayAt H' a y := by
  obtain ⟨pa, ha, bs, h1, h2, h3, h4⟩ := h
  exact ⟨pa, ha, bs, k _ _ h1, k _ _ h2, k _ _ h3, h4.kp k⟩
structure HomeOk (wide : Nat) (h : List Nat) : Prop where
  l1 : 1 ≤ h.length
  l3 : h.length ≤ 3
  up : h.Pairwise (· < ·)
  lt : ∀ x ∈ h, x < wide
structure LayOk (p : Prog) (y : Lay) : Prop where
  w2 : 2 ≤ y.wide
  w24 : y.wide ≤ 24
  pl : y.places.length = p.rows.length
  pok : ∀ x ∈ y.places, x < y.wide
  hl : y.homes.length = p.ws.length
  hok : ∀ h ∈ y.homes, HomeOk y.wide h
structure Bs (mg : Str → Option Value) : Prop where
  set : mg "set" = none
theorem rise_nat {ns : List Int} (h0 : ∀ x ∈ ns, 0 ≤ x) (up : ns.Pairwise (· < ·)) : ∃ h : List Nat, ns.map V.int = h.map nI ∧ h.length = ns.length ∧ h.Pairwise (· < ·) ∧ (∀ x ∈ h, (x : Int) ∈ ns) := by
  refine ⟨ns.map Int.toNat, ?_, List.length_map _, ?_, fun x hx => ?_⟩
  · rw [List.map_map]
    refine List.map_congr_left fun x hx => ?_
    show V.int x = V.int ((x.toNat : Nat) : Int)
    rw [Int.toNat_of_nonneg (h0 x hx)]
  · rw [List.pairwise_map]
    refine up.imp_of_mem fun {a b} ha hb h => ?_
    have := h0 a ha
    have := h0 b hb
    omega
  · obtain ⟨z, hz, rfl⟩ := List.mem_map.mp hx
    rw [Int.toNat_of_nonneg (h0 z hz)]
    exact hz
abbrev pLaying : List Str := ["_law_d", "_law_program", "_law_most"]
abbrev nLaying : List Str := ["_law_d", "_law_program", "_law_most", "_law_wide", "_law_places", "_law_homes", "_law_worth", "_law_some", "_law_row", "_law_k"]
def spLaying (K : Frg) : Sp := fun vs H Q _ => ∃ (d sa : Addr) (ns : List Int) (pa : Addr) (p : Prog) (most : Int), vs = [.ref d, .ref pa, .int most] ∧ Ent K H d sa ns ∧ ProgAt H pa p ∧ Good p ∧ 1 ≤ most ∧ most ≤ 3 ∧
  ∀ a y H', Dc K H H' d sa ns → LayAt H' a y → LayOk p y → (∀ h ∈ y.homes, (h.length : Int) ≤ most) → Q (.ref a) H'
section
variable {P : Program} {w : World} {K : PySem.W.Frag} {mg : Str → Option Value} {base : Heap}
end
end DL
namespace DL
open PySem L2 DLR
structure Cl (mg : Str → Option Value) where
  t2 : Tok
  t24 : Tok
  m2 : mg "LEAST_WIDE" = some (.int 2 t2)
  m24 : mg "MOST_WIDE" = some (.int 24 t24)
structure Ch (mg : Str → Option Value) where
  t3 : Tok
  m3 : mg "MOST_HOMES" = some (.int 3 t3)
abbrev sCheckWide : Stmt := top 42
abbrev sCheckPlaces : Stmt := top 43
abbrev sCheckHomes : Stmt := top 44
abbrev sAreHomes : Stmt := top 45
abbrev sCheckLaying : Stmt := top 41
abbrev FCheckWide (K : Frg) (mg : Str → Option Value) := Fd K mg "check_wide" sCheckWide ["wide"]
abbrev FCheckPlaces (K : Frg) (mg : Str → Option Value) := Fd K mg "check_places" sCheckPlaces ["places", "count", "wide"]
abbrev FCheckHomes (K : Frg) (mg : Str → Option Value) := Fd K mg "check_homes" sCheckHomes ["homes", "count", "wide"]
abbrev FAreHomes (K : Frg) (mg : Str → Option Value) := Fd K mg "are_homes" sAreHomes ["places", "wide"]
abbrev FCheckLaying (K : Frg) (mg : Str → Option Value) := Fd K mg "check_laying" sCheckLaying ["program", "laying"]
def spCheckWide : Sp := fun vs H Q _ => ∃ n : Int, vs = [.int n] ∧ 2 ≤ n ∧ n ≤ 24 ∧ Q .non H
def spCheckPlaces : Sp := fun vs H Q _ => ∃ (a : Addr) (us : List Nat) (W : Nat), vs = [.ref a, .int (us.length : Int), .int (W : Int)] ∧ H a = some (.tup (us.map nI)) ∧ us.length ≤ 100 ∧ (∀ x ∈ us, x < W) ∧ ∀ H', Same1 H H' → Q .non H'
def spAreHomes : Sp := fun vs H Q _ => ∃ (a : Addr) (h : List Nat) (W : Nat), vs = [.ref a, .int (W : Int)] ∧ H a = some (.tup (h.map nI)) ∧ HomeOk W h ∧ ∀ H', Same1 H H' → Q (.bl true) H'
def spCheckHomes : Sp := fun vs H Q _ => ∃ (a : Addr) (bs : List Addr) (hs : List (List Nat)) (W : Nat), vs = [.ref a, .int (hs.length : Int), .int (W : Int)] ∧ H a = some (.tup (bs.map V.ref)) ∧ HomesAt H bs hs ∧ hs.length ≤ 100 ∧ (∀ h ∈ hs, HomeOk W h) ∧ ∀ H', Same1 H H' → Q .non H'
def spCheckLaying : Sp := fun vs H Q _ => ∃ (a b : Addr) (p : Prog) (y : Lay), vs = [.ref a, .ref b] ∧ ProgAt H a p ∧ Good p ∧ LayAt H b y ∧ LayOk p y ∧ ∀ H', Same1 H H' → Q .non H'
theorem nI_ints (h : List Nat) : h.map nI = (h.map fun x : Nat => (x : Int)).map V.int := by
  rw [List.map_map]
  rfl
def intsD (l : List Int) : PyData := .list (l.map PyData.int)
theorem intsD_at {K : Frg} {H : Hp} : ∀ l : List Int, DpAll K H (l.map V.int) (l.map PyData.int)
  | [] => .nil
  | x :: l => .cons (.int x) (intsD_at l)
theorem intsD_lay : ∀ l : List Int, PyData.canLayAll0 (l.map PyData.int) = true
  | [] => by decide +kernel
  | x :: l => by
    show (PyData.canLay0 (.int x) && PyData.canLayAll0 (l.map PyData.int)) = true
    rw [intsD_lay l]
    rfl
theorem intsD_dep : ∀ l : List Int, PyData.depthAll (l.map PyData.int) ≤ 1
  | [] => by decide
  | x :: l => by
    have h := intsD_dep l
    show max (PyData.int x).depth (PyData.depthAll (l.map PyData.int)) ≤ 1
    have : (PyData.int x).depth ≤ 1 := by simp [PyData.depth]
    omega
theorem intsD_shaped (l : List Int) : SeqAt.shaped (intsD l) = true := by
  show (PyData.canLayAll0 (l.map PyData.int) && decide (PyData.depth (.list (l.map PyData.int)) ≤ 64)) = true
  rw [intsD_lay]
  refine decide_eq_true ?_
  have := intsD_dep l
  show _ + _ ≤ 64
  omega
theorem eq_ints {K : Frg} {H : Hp} {a b : Addr} {l : List Int} {Q : VK} (h1 : H a = some (.lst (l.map V.int))) (h2 : H b = some (.lst (l.map V.int))) (q : Q (.bl true) H) : rEqD K (.ref a) (.ref b) H Q := by
  refine ⟨intsD l, intsD l, .lst (SqL.of h1) (intsD_at l), .lst (SqL.of h2) (intsD_at l), intsD_shaped l, intsD_shaped l, ?_⟩
  rw [PySem.SeqAt.eqv_refl _ (SeqAt.canLay_of_shaped (intsD_shaped l))]
  exact q
section
variable {P : Program} {w : World} {K : PySem.W.Frag} {mg : Str → Option Value} {base : Heap}
theorem scCheckWide : FnScope ["wide"] ["wide"] (defScope sCheckWide) := ⟨rfl, rfl, rfl, by decide +kernel, rfl, by decide +kernel, by decide +kernel⟩
theorem ok_checkWide (c : FCheckWide K mg) (cIsBetween : FIsBetween K mg) (cIsNumber : FIsNumber K mg) (T : Bt mg) (L : Cl mg) : FnOk P w K mg base CX0 3 c.f c.fd ["wide"] spCheckWide := by
  have GIsBetween : FnOk P w K mg base CX0 2 cIsBetween.f cIsBetween.fd ["thing", "low", "high"] spBetween := ok_isBetween cIsBetween cIsNumber T
  refine c.F.ok scCheckWide (fun vs H Q E h => ?_) (fun cdv A outer s H vs Q E hr h => ?_)
  · obtain ⟨n, rfl, _⟩ := h
    rfl
  · obtain ⟨n, rfl, h1, h2, k⟩ := h
    refine ⟨_, (pss_one (ps_if (pt_not (pt_val (pe_call GIsBetween (hr.mono (by first | omega | decide)) (by rfl) cIsBetween.m cIsBetween.F.kp cIsBetween.b .nil pass0 (pa_cons (pv 0) (pa_cons (pe_glob rfl L.m2 relI) (pa_cons (pe_glob rfl L.m24 relI) pa_nil))))))
          (pss_one ps_never)
          pss_nil)), ?_⟩
    exact ⟨_, rfl, n, _, _, rfl, h1, h2, _, rfl, k⟩
abbrev nCheckPlaces : List Str := ["places", "count", "wide", "row", "place"]
theorem scCheckPlaces : FnScope nCheckPlaces ["places", "count", "wide"] (defScope sCheckPlaces) := ⟨rfl, rfl, rfl, by decide +kernel, rfl, by decide +kernel, by decide +kernel⟩
theorem ok_checkPlaces (c : FCheckPlaces K mg) (cIsBetween : FIsBetween K mg) (cIsNumber : FIsNumber K mg) (T : Bt mg) : FnOk P w K mg base CX0 3 c.f c.fd ["places", "count", "wide"] spCheckPlaces := by
  have GIsBetween : FnOk P w K mg base CX0 2 cIsBetween.f cIsBetween.fd ["thing", "low", "high"] spBetween := ok_isBetween cIsBetween cIsNumber T
  refine c.F.ok scCheckPlaces (fun vs H Q E h => ?_) (fun cdv A outer s H vs Q E hr h => ?_)
  · obtain ⟨a, us, W, rfl, _⟩ := h
    rfl
  · obtain ⟨a, us, W, rfl, h1, h100, hb, k⟩ := h
    refine ⟨_, (pss_cons (ps_if (PW.pt (pw_or (pt_not (pt_val (pe_callB call_isi (by rfl) T.isinstance (by decide +kernel) (pa_cons (pv 0) (pa_cons (pe_bltn (v := .ty "tuple") (by rfl) T.tuple (by decide +kernel) rfl) pa_nil))))) (pw_or1 (pt_cmpR op_ne (pe_callB call_len_seq (by rfl) T.len PySem.boot_len (pa_cons (pv 0) pa_nil)) (pv 1) (nomark _)))))
          (pss_one ps_never)
          pss_nil)
      (pss_one (ps_for PassesOwn.never rfl (pi_enumT (by rfl) T.enumerate (pa_cons (pv 0) pa_nil)) (pg_tup rfl (pgs_cons (pg_name (i := 3) scCheckPlaces.nd rfl (Or.inl rfl)) (pgs_cons (pg_name (i := 4) scCheckPlaces.nd rfl (Or.inl rfl)) pgs_nil)))
          (pss_one (ps_if (pt_not (pt_val (pe_call GIsBetween (hr.mono (by first | omega | decide)) (by rfl) cIsBetween.m cIsBetween.F.kp cIsBetween.b .nil pass0 (pa_cons (pv 4) (pa_cons pe_int (pa_cons (pe_op op_sub (pv 2) pe_int) pa_nil))))))
              (pss_one ps_never)
              pss_nil))))), ?_⟩
    refine ⟨_, rfl, _, _, _, _, true, rfl, .ty _, .base (.tup h1), kit_ty (by decide +kernel), _, rfl, ?_⟩
    refine ⟨_, rfl, a, _, rfl, .inr (SqT.of h1), _, rfl, rfl, _, rfl, ?_⟩
    rw [List.length_map, decide_eq_true (show V.int (us.length : Int) = V.int (us.length : Int) from rfl)]
    refine iteF ⟨_, rfl, a, _, rfl, SqT.of h1, for_enumT (K := K) (a := a) (xs := us.map nI) (fun i σ H' => ∃ x3 x4 : Option V, σ = [some (.ref a), some (.int (us.length : Int)), some (.int (W : Int)), x3, x4] ∧ Same1 H H') ⟨none, none, rfl, Same.refl _⟩
      (fun i σ H' ⟨_, _, _, q⟩ => SqT.of (q _ _ h1)) ?_ ?_⟩
    · rintro i x T' σ H1 hi ⟨x3, x4, rfl, s1⟩ hT'
      rw [List.getElem?_map] at hi
      cases hz : us[i]? with
      | none => rw [hz] at hi; cases hi
      | some z =>
        rw [hz] at hi
        have e : nI z = x := Option.some.inj hi
        subst e
        have hlt := hb z (List.mem_of_getElem? hz)
        refine alloc hT' fun H2 s2 e2 => ?_
        refine ⟨T', _, rfl, SqT.of e2, rfl, _, _, rfl, _, _, rfl, rfl, ?_⟩
        refine ⟨_, rfl, _, rfl, _, _, rfl, rfl, (z : Int), _, _, rfl, by omega, by omega, _, rfl, ?_⟩
        exact ⟨_, _, rfl, s1.trans s2⟩
    · rintro σ H1 ⟨x3, x4, rfl, s1⟩
      exact k _ s1
abbrev nAreHomes : List Str := ["places", "wide", "place"]
theorem scAreHomes : FnScope nAreHomes ["places", "wide"] (defScope sAreHomes) := ⟨rfl, rfl, rfl, by decide +kernel, rfl, by decide +kernel, by decide +kernel⟩
theorem ok_areHomes (c : FAreHomes K mg) (cIsBetween : FIsBetween K mg) (cIsNumber : FIsNumber K mg) (T : Bt mg) (TS : Bs mg) (LH : Ch mg) : FnOk P w K mg base CX0 3 c.f c.fd ["places", "wide"] spAreHomes := by
  have GIsBetween : FnOk P w K mg base CX0 2 cIsBetween.f cIsBetween.fd ["thing", "low", "high"] spBetween := ok_isBetween cIsBetween cIsNumber T
  refine c.F.ok scAreHomes (fun vs H Q E h => ?_) (fun cdv A outer s H vs Q E hr h => ?_)
  · obtain ⟨a, h, W, rfl, _⟩ := h
    rfl
  · obtain ⟨a, h, W, rfl, h1, hk, k⟩ := h
    have l1 := hk.l1
    have l3 := hk.l3
    refine ⟨_, (pss_cons (ps_if (PW.pt (pw_or (pt_not (pt_val (pe_callB call_isi (by rfl) T.isinstance (by decide +kernel) (pa_cons (pv 0) (pa_cons (pe_bltn (v := .ty "tuple") (by rfl) T.tuple (by decide +kernel) rfl) pa_nil))))) (pw_or1 (pt_not (pt_chain op_le op_le pe_int (pe_callB call_len_seq (by rfl) T.len PySem.boot_len (pa_cons (pv 0) pa_nil)) (pe_glob rfl LH.m3 relI))))))
          (pss_one (ps_ret pe_bl))
          pss_nil)
      (pss_cons (ps_if (pt_not (pt_val (pe_callB (cr_all rfl) (by rfl) T.all (by decide +kernel) (pa_cons (pe_lc (own := [("place", 2)]) (g := gName 2) (tt := tYes) rfl scAreHomes.nd (pi_tup (pv 0)) (blkOk_by (N := nAreHomes) (sc := defScope sAreHomes) (by decide +kernel)) (fun _ _ _ _ _ => (pg_name (i := 2) scAreHomes.nd rfl (Or.inl rfl))) (fun _ _ _ _ _ => pts_nil) (fun _ _ _ _ _ => (pe_call GIsBetween (hr.mono (by first | omega | decide)) (by rfl) cIsBetween.m cIsBetween.F.kp cIsBetween.b .nil pass0 (pa_cons (pv 2) (pa_cons pe_int (pa_cons (pe_op op_sub (pv 1) pe_int) pa_nil)))))) pa_nil))))
          (pss_one (ps_ret pe_bl))
          pss_nil)
      (pss_one (ps_ret (pe_cmpR (op_eqD hr.units) (pe_callTy call_list_of (by rfl) T.list (by decide +kernel) (pa_cons (pv 0) pa_nil)) (pe_callB (cr_sortedSet rfl) (by rfl) T.sorted (by decide +kernel) (pa_cons (pe_callTy (cr_setT rfl) (by rfl) TS.set (by decide +kernel) (pa_cons (pv 0) pa_nil)) pa_nil)) (nomark _)))))), ?_⟩
    refine ⟨_, rfl, _, _, _, _, true, rfl, .ty _, .base (.tup h1), kit_ty (by decide +kernel), _, rfl, ?_⟩
    refine ⟨_, rfl, a, _, rfl, .inr (SqT.of h1), _, _, rfl, rfl, _, rfl, ?_⟩
    rw [List.length_map, decide_eq_true (show (1 : Int) ≤ (h.length : Int) by omega)]
    refine iteT ⟨_, _, rfl, rfl, _, rfl, ?_⟩
    rw [decide_eq_true (show (h.length : Int) ≤ 3 by omega)]
    refine iteF ⟨_, rfl, a, rfl, ⟨_, SqT.of h1⟩, fun D hD => ?_⟩
    refine lc_tup (K := K) (a := a) (xs := h.map nI) (fun i H' => H' D = some (.lst ((List.replicate i true).map V.bl)) ∧ Same1 H H') ⟨upd_same, Same.new hD⟩ (fun i H' _ ⟨_, q⟩ => SqT.of (q _ _ h1)) ?_ ?_
    · rintro i x H3 hi ⟨hd, s3⟩
      rw [List.getElem?_map] at hi
      cases hz : h[i]? with
      | none => rw [hz] at hi; cases hi
      | some z =>
        rw [hz] at hi
        have e : nI z = x := Option.some.inj hi
        subst e
        have hlt := hk.lt z (List.mem_of_getElem? hz)
        have hil := (List.getElem?_eq_some_iff.mp hz).1
        refine ⟨rfl, _, rfl, _, rfl, _, _, rfl, rfl, (z : Int), _, _, rfl, by omega, by omega, _, hd, szl (by rw [List.length_map, List.length_replicate]; omega), ?_, Same.mut s3 hD⟩
        rw [upd_same, List.replicate_succ', List.map_append]
        rfl
    · rintro H3 ⟨hd, s3⟩
      refine ⟨D, _, rfl, SqL.of hd, ?_⟩
      rw [show (List.replicate (h.map nI).length true).all id = true by rw [List.all_eq_true]; intro x hx; rw [List.eq_of_mem_replicate hx]; rfl]
      refine ⟨_, rfl, iteF ?_⟩
      have h3 := s3 _ _ h1
      refine ⟨_, rfl, a, _, rfl, .inr (SqT.of h3), fun q1 hq1 => ?_⟩
      refine alloc hq1 fun H4 s4 e4 => ?_
      have h4 := s4 _ _ h3
      rw [nI_ints] at h4 e4
      refine ⟨_, rfl, a, _, rfl, SqT.of h4, by rw [List.length_map]; omega, fun sp c hc hsp => ?_⟩
      rw [List.length_map] at hc
      refine alloc hsp fun H5 s5 e5 => ?_
      refine ⟨sp, _, c, rfl, e5, by omega, fun ms q up mem len hq => ?_⟩
      refine alloc hq fun H6 s6 e6 => ?_
      have em : ms = h.map fun x : Nat => (x : Int) := by
        refine rise_uniq up ?_ fun x => (mem x).trans decide_eq_true_iff
        rw [List.pairwise_map]
        exact hk.up.imp fun {a b} z => by omega
      rw [em] at e6
      exact eq_ints ((s5.trans s6) _ _ e4) e6 (k _ (((s3.trans s4).trans s5).trans s6))
abbrev nCheckHomes : List Str := ["homes", "count", "wide", "worth", "places"]
theorem scCheckHomes : FnScope nCheckHomes ["homes", "count", "wide"] (defScope sCheckHomes) := ⟨rfl, rfl, rfl, by decide +kernel, rfl, by decide +kernel, by decide +kernel⟩
theorem ok_checkHomes (c : FCheckHomes K mg) (cAreHomes : FAreHomes K mg) (cIsBetween : FIsBetween K mg) (cIsNumber : FIsNumber K mg) (T : Bt mg) (TS : Bs mg) (LH : Ch mg) : FnOk P w K mg base CX0 4 c.f c.fd ["homes", "count", "wide"] spCheckHomes := by
  have GAreHomes : FnOk P w K mg base CX0 3 cAreHomes.f cAreHomes.fd ["places", "wide"] spAreHomes := ok_areHomes cAreHomes cIsBetween cIsNumber T TS LH
  refine c.F.ok scCheckHomes (fun vs H Q E h => ?_) (fun cdv A outer s H vs Q E hr h => ?_)
  · obtain ⟨a, bs, hs, W, rfl, _⟩ := h
    rfl
  · obtain ⟨a, bs, hs, W, rfl, h1, hH, h100, hok, k⟩ := h
    have hbl := Paired.length hH
    refine ⟨_, (pss_cons (ps_if (PW.pt (pw_or (pt_not (pt_val (pe_callB call_isi (by rfl) T.isinstance (by decide +kernel) (pa_cons (pv 0) (pa_cons (pe_bltn (v := .ty "tuple") (by rfl) T.tuple (by decide +kernel) rfl) pa_nil))))) (pw_or1 (pt_cmpR op_ne (pe_callB call_len_seq (by rfl) T.len PySem.boot_len (pa_cons (pv 0) pa_nil)) (pv 1) (nomark _)))))
          (pss_one ps_never)
          pss_nil)
      (pss_one (ps_for PassesOwn.never rfl (pi_enumT (by rfl) T.enumerate (pa_cons (pv 0) pa_nil)) (pg_tup rfl (pgs_cons (pg_name (i := 3) scCheckHomes.nd rfl (Or.inl rfl)) (pgs_cons (pg_name (i := 4) scCheckHomes.nd rfl (Or.inl rfl)) pgs_nil)))
          (pss_one (ps_if (pt_not (pt_val (pe_call GAreHomes (hr.mono (by first | omega | decide)) (by rfl) cAreHomes.m cAreHomes.F.kp cAreHomes.b .nil pass0 (pa_cons (pv 4) (pa_cons (pv 2) pa_nil)))))
              (pss_one ps_never)
              pss_nil))))), ?_⟩
    refine ⟨_, rfl, _, _, _, _, true, rfl, .ty _, .base (.tup h1), kit_ty (by decide +kernel), _, rfl, ?_⟩
    refine ⟨_, rfl, a, _, rfl, .inr (SqT.of h1), _, rfl, rfl, _, rfl, ?_⟩
    rw [List.length_map, hbl, decide_eq_true (show V.int (hs.length : Int) = V.int (hs.length : Int) from rfl)]
    refine iteF ⟨_, rfl, a, _, rfl, SqT.of h1, for_enumT (K := K) (a := a) (xs := bs.map V.ref) (fun i σ H' => ∃ x3 x4 : Option V, σ = [some (.ref a), some (.int (hs.length : Int)), some (.int (W : Int)), x3, x4] ∧ Same1 H H') ⟨none, none, rfl, Same.refl _⟩
      (fun i σ H' ⟨_, _, _, q⟩ => SqT.of (q _ _ h1)) ?_ ?_⟩
    · rintro i x T' σ H1 hi ⟨x3, x4, rfl, s1⟩ hT'
      have hih : i < hs.length := by
        have q := (List.getElem?_eq_some_iff.mp hi).1
        rwa [List.length_map, hbl] at q
      obtain ⟨b, hb1, hb2⟩ := Paired.getR hH (List.getElem?_eq_getElem hih)
      have ex : x = V.ref b := by
        rw [List.getElem?_map, hb1] at hi
        exact (Option.some.inj hi).symm
      subst ex
      refine alloc hT' fun H2 s2 e2 => ?_
      refine ⟨T', _, rfl, SqT.of e2, rfl, _, _, rfl, _, _, rfl, rfl, ?_⟩
      refine ⟨_, rfl, _, rfl, b, hs[i], W, rfl, (s1.trans s2) _ _ hb2, hok _ (List.getElem_mem hih), fun H3 s3 => ⟨_, rfl, ?_⟩⟩
      exact ⟨_, _, rfl, (s1.trans s2).trans s3⟩
    · rintro σ H1 ⟨x3, x4, rfl, s1⟩
      exact k _ s1
abbrev nCheckLaying : List Str := ["program", "laying", "worths", "rows", "wide"]
theorem scCheckLaying : FnScope nCheckLaying ["program", "laying"] (defScope sCheckLaying) := ⟨rfl, rfl, rfl, by decide +kernel, rfl, by decide +kernel, by decide +kernel⟩
theorem ok_checkLaying (c : FCheckLaying K mg) (cCheckWide : FCheckWide K mg) (cCheckPlaces : FCheckPlaces K mg) (cCheckHomes : FCheckHomes K mg) (cAreHomes : FAreHomes K mg) (cPart : FPart K mg) (cIsBetween : FIsBetween K mg) (cIsNumber : FIsNumber K mg) (T : Bt mg) (TS : Bs mg) (L : Cl mg) (LH : Ch mg) : FnOk P w K mg base CX0 5 c.f c.fd ["program", "laying"] spCheckLaying := by
  have GPart : FnOk P w K mg base CX0 1 cPart.f cPart.fd ["whole", "at"] spPart := ok_part cPart T
  have GCheckWide : FnOk P w K mg base CX0 3 cCheckWide.f cCheckWide.fd ["wide"] spCheckWide := ok_checkWide cCheckWide cIsBetween cIsNumber T L
  have GCheckPlaces : FnOk P w K mg base CX0 3 cCheckPlaces.f cCheckPlaces.fd ["places", "count", "wide"] spCheckPlaces := ok_checkPlaces cCheckPlaces cIsBetween cIsNumber T
  have GCheckHomes : FnOk P w K mg base CX0 4 cCheckHomes.f cCheckHomes.fd ["homes", "count", "wide"] spCheckHomes := ok_checkHomes cCheckHomes cAreHomes cIsBetween cIsNumber T TS LH
  refine c.F.ok scCheckLaying (fun vs H Q E h => ?_) (fun cdv A outer s H vs Q E hr h => ?_)
  · obtain ⟨a, b, p, y, rfl, _⟩ := h
    rfl
  · obtain ⟨a, b, p, y, rfl, ⟨wa, ra, bs, hpa, hwa, hra, hR⟩, g, ⟨pl, hl, cs, hb, hpl, hhl, hH⟩, yk, k⟩ := h
    have hbr := Paired.length hR
    have hR40 := g.r40
    have hW8 := g.w8
    have hpll := yk.pl
    have hhll := yk.hl
    have w2 := yk.w2
    have w24 := yk.w24
    refine ⟨_, (pss_cons (ps_asg (pv 0) (pg_tup rfl (pgs_cons (pg_name (i := 2) scCheckLaying.nd rfl (Or.inl rfl)) (pgs_cons (pg_name (i := 3) scCheckLaying.nd rfl (Or.inl rfl)) pgs_nil))))
      (pss_cons (ps_set (i := 4) scCheckLaying.nd rfl (Or.inl rfl) (pe_call GPart (hr.mono (by first | omega | decide)) (by rfl) cPart.m cPart.F.kp cPart.b .nil pass0 (pa_cons (pv 1) (pa_cons pe_int pa_nil))))
      (pss_cons (ps_expr (pe_call GCheckWide (hr.mono (by first | omega | decide)) (by rfl) cCheckWide.m cCheckWide.F.kp cCheckWide.b .nil pass0 (pa_cons (pv 4) pa_nil)))
      (pss_cons (ps_expr (pe_call GCheckPlaces (hr.mono (by first | omega | decide)) (by rfl) cCheckPlaces.m cCheckPlaces.F.kp cCheckPlaces.b .nil pass0 (pa_cons (pe_call GPart (hr.mono (by first | omega | decide)) (by rfl) cPart.m cPart.F.kp cPart.b .nil pass0 (pa_cons (pv 1) (pa_cons pe_int pa_nil))) (pa_cons (pe_callB call_len_seq (by rfl) T.len PySem.boot_len (pa_cons (pv 3) pa_nil)) (pa_cons (pv 4) pa_nil)))))
      (pss_cons (ps_expr (pe_call GCheckHomes (hr.mono (by first | omega | decide)) (by rfl) cCheckHomes.m cCheckHomes.F.kp cCheckHomes.b .nil pass0 (pa_cons (pe_call GPart (hr.mono (by first | omega | decide)) (by rfl) cPart.m cPart.F.kp cPart.b .nil pass0 (pa_cons (pv 1) (pa_cons pe_int pa_nil))) (pa_cons (pe_callB call_len_seq (by rfl) T.len PySem.boot_len (pa_cons (pv 2) pa_nil)) (pa_cons (pv 4) pa_nil)))))
      (pss_one (ps_if (pt_cmpR op_ne (pe_callB call_len_seq (by rfl) T.len PySem.boot_len (pa_cons (pv 1) pa_nil)) pe_int (nomark _))
          (pss_one ps_never)
          pss_nil))))))), ?_⟩
    refine ⟨_, rfl, a, _, rfl, SqT.of hpa, rfl, _, _, rfl, _, _, rfl, rfl, ?_⟩
    refine ⟨_, rfl, b, _, 0, _, rfl, hb, rfl, ?_⟩
    refine ⟨_, rfl, (y.wide : Int), rfl, by omega, by omega, ?_⟩
    refine ⟨_, rfl, b, _, 1, _, rfl, hb, rfl, _, rfl, ra, _, rfl, .inr (SqT.of hra), _, rfl, pl, y.places, y.wide, ?_, hpl, by omega, yk.pok, fun H1 s1 => ?_⟩
    · rw [List.length_map, hbr, hpll]
      rfl
    refine ⟨_, rfl, b, _, 2, _, rfl, s1 _ _ hb, rfl, _, rfl, wa, _, rfl, .inr (SqT.of (s1 _ _ hwa)), _, rfl, hl, cs, y.homes, y.wide, ?_, s1 _ _ hhl, HomesAt.kp hH (Kp.same s1), by omega, yk.hok, fun H2 s2 => ?_⟩
    · rw [List.length_map, hhll]
      rfl
    refine ⟨_, rfl, b, _, rfl, .inr (SqT.of ((s1.trans s2) _ _ hb)), rfl, _, rfl, ?_⟩
    rw [decide_eq_true (show V.int ((([nI y.wide, V.ref pl, V.ref hl] : List V).length : Nat) : Int) = V.int 3 from rfl)]
    exact iteF (k _ (s1.trans s2))
end
end DL
namespace DL
open PySem L2 DLR
def nx : Row → List Nat
  | .load _ n => [n]
  | .add _ n => [n]
  | .take _ n => [n]
  | .store _ n => [n]
  | .say n => [n]
  | .test a b => [a, b]
  | .stop => []
def tgt : Row → List Nat
  | .test a b => if a = b then [a] else if a < b then [a, b] else [b, a]
  | r => nx r
theorem tgt_test (a b : Nat) : tgt (.test a b) = if a = b then [a] else if a < b then [a, b] else [b, a] := rfl
theorem tgt_up (r : Row) : (tgt r).Pairwise (· < ·) := by
  cases r with
  | test a b =>
    rw [tgt_test]
    split
    · simp
    · split
      · simp; omega
      · simp; omega
  | stop => exact .nil
  | load _ n => exact List.pairwise_singleton _ _
  | add _ n => exact List.pairwise_singleton _ _
  | take _ n => exact List.pairwise_singleton _ _
  | store _ n => exact List.pairwise_singleton _ _
  | say n => exact List.pairwise_singleton _ _
theorem tgt_mem (r : Row) (x : Nat) : x ∈ tgt r ↔ x ∈ nx r := by
  cases r with
  | test a b =>
    rw [tgt_test, show nx (.test a b) = [a, b] from rfl]
    split
    · rename_i h
      subst h
      simp
    · split
      · exact Iff.rfl
      · simp only [List.mem_cons, List.not_mem_nil, or_false]
        exact Or.comm
  | _ => exact Iff.rfl
theorem tgt_len (r : Row) : (tgt r).length ≤ 2 := by
  cases r with
  | test a b =>
    rw [tgt_test]
    split
    · show 1 ≤ 2; decide
    · split <;> (show 2 ≤ 2; decide)
  | stop => show 0 ≤ 2; decide
  | _ => show 1 ≤ 2; decide
theorem nx_len (r : Row) : (nx r).length ≤ 2 := by cases r <;> simp [nx]
theorem tgt_of {r : Row} {ms : List Int} (up : ms.Pairwise (· < ·)) (mem : ∀ x : Int, x ∈ ms ↔ decide (x ∈ (nx r).map fun n : Nat => (n : Int)) = true) : ms = (tgt r).map fun n : Nat => (n : Int) := by
  refine rise_uniq up ?_ fun x => (mem x).trans (decide_eq_true_iff.trans ?_)
  · rw [List.pairwise_map]
    exact (tgt_up r).imp fun {a b} z => by omega
  · constructor <;> intro h <;> obtain ⟨n, hn, rfl⟩ := List.mem_map.mp h
    · exact List.mem_map.mpr ⟨n, (tgt_mem r n).mpr hn, rfl⟩
    · exact List.mem_map.mpr ⟨n, (tgt_mem r n).mp hn, rfl⟩
def goesN (rows : List Row) (i : Nat) : List (Nat × Nat) := (List.range i).flatMap fun k => (tgt (rows.getD k .stop)).map fun t => (k, t)
theorem goesN_succ (rows : List Row) (i : Nat) : goesN rows (i + 1) = goesN rows i ++ (tgt (rows.getD i .stop)).map fun t => (i, t) := by
  unfold goesN
  rw [List.range_succ, List.flatMap_append]
  simp
theorem goesN_len (rows : List Row) : ∀ i, (goesN rows i).length ≤ 2 * i
  | 0 => Nat.le_refl 0
  | i + 1 => by
    rw [goesN_succ, List.length_append, List.length_map]
    have := goesN_len rows i
    have := tgt_len (rows.getD i .stop)
    omega
def pairVs (g : Nat × Nat) : List V := [nI g.1, nI g.2]
abbrev PairsL (H : Hp) (bs : List Addr) (L : List (Nat × Nat)) : Prop := Paired (fun b g => H b = some (.tup (pairVs g))) bs L
theorem PairsL.kp {H H' : Hp} {bs : List Addr} {L : List (Nat × Nat)} (h : PairsL H bs L) (k : Kp H H') : PairsL H' bs L := Paired.mapP h fun b x e => k _ _ e
abbrev sNexts : Stmt := top 21
abbrev sAhead : Stmt := top 22
abbrev sGoesMay : Stmt := top 23
abbrev FNexts (K : Frg) (mg : Str → Option Value) := Fd K mg "nexts" sNexts ["row"]
abbrev FAhead (K : Frg) (mg : Str → Option Value) := Fd K mg "rows_ahead" sAhead ["row"]
abbrev FGoesMay (K : Frg) (mg : Str → Option Value) := Fd K mg "goes_that_may_be" sGoesMay ["program"]
def spNexts : Sp := fun vs H Q _ => ∃ (a : Addr) (r : Row), vs = [.ref a] ∧ H a = some (.tup (rowVs r)) ∧ ∀ t H', Same1 H H' → H' t = some (.tup ((nx r).map nI)) → Q (.ref t) H'
def spAhead : Sp := fun vs H Q _ => ∃ (a : Addr) (r : Row), vs = [.ref a] ∧ H a = some (.tup (rowVs r)) ∧ ∀ q H', Same1 H H' → H q = none → H' q = some (.lst ((tgt r).map nI)) → Q (.ref q) H'
def spGoesMay : Sp := fun vs H Q _ => ∃ (a : Addr) (p : Prog), vs = [.ref a] ∧ ProgAt H a p ∧ Good p ∧ ∀ l bs H', Same1 H H' → H l = none → H' l = some (.lst (bs.map V.ref)) → PairsL H' bs (goesN p.rows p.rows.length) → Q (.ref l) H'
theorem nx_drop (r : Row) : (if r.uses = true then (rowVs r).drop 2 else (rowVs r).drop 1) = (nx r).map nI := by cases r <;> rfl
theorem dropn (n : Nat) {xs : List V} : cutV xs (some (n : Int)) none = xs.drop n := by
  unfold cutV
  have e : HT.sIx xs.length 0 (some (n : Int)) = min n xs.length := HT.sIx_nat _ _ n
  rw [e, HT.sIx_none]
  rcases Nat.le_total n xs.length with q | q
  · rw [Nat.min_eq_left q]
    exact List.take_of_length_le (by rw [List.length_drop]; omega)
  · rw [Nat.min_eq_right q, List.drop_eq_nil_of_le q, List.drop_eq_nil_of_le (Nat.le_refl _)]
    exact List.take_nil
section
variable {P : Program} {w : World} {K : PySem.W.Frag} {mg : Str → Option Value} {base : Heap}
theorem scNexts : FnScope ["row"] ["row"] (defScope sNexts) := ⟨rfl, rfl, rfl, by decide +kernel, rfl, by decide +kernel, by decide +kernel⟩
theorem ok_nexts (c : FNexts K mg) (cUsesWorth : FUsesWorth K mg) (Z : Pt K w mg) : FnOk P w K mg base CX0 2 c.f c.fd ["row"] spNexts := by
  have GUsesWorth : FnOk P w K mg base CX0 1 cUsesWorth.f cUsesWorth.fd ["row"] spUses := ok_usesWorth cUsesWorth Z
  refine c.F.ok scNexts (fun vs H Q E h => ?_) (fun cdv A outer s H vs Q E hr h => ?_)
  · obtain ⟨a, r, rfl, _⟩ := h
    rfl
  · obtain ⟨a, r, rfl, ha, k⟩ := h
    refine ⟨_, (pss_cons (ps_if (pt_val (pe_call GUsesWorth (hr.mono (by first | omega | decide)) (by rfl) cUsesWorth.m cUsesWorth.F.kp cUsesWorth.b .nil pass0 (pa_cons (pv 0) pa_nil)))
          (pss_one (ps_ret (pe_slice sl_tupS (pv 0) (po_some pe_int) po_none)))
          pss_nil)
      (pss_one (ps_ret (pe_slice sl_tupS (pv 0) (po_some pe_int) po_none)))), ?_⟩
    have e := nx_drop r
    refine ⟨_, rfl, a, r, rfl, ha, _, rfl, ?_⟩
    cases hu : r.uses with
    | true =>
      rw [hu, if_pos rfl] at e
      refine iteT ⟨_, rfl, _, rfl, a, _, rfl, ha, fun t H' s' h' => k t H' s' ?_⟩
      rw [h', ← e]
      exact congrArg (fun z => some (HO.tup z)) (dropn 2)
    | false =>
      rw [hu, if_neg (by decide)] at e
      refine iteF ⟨_, rfl, _, rfl, a, _, rfl, ha, fun t H' s' h' => k t H' s' ?_⟩
      rw [h', ← e]
      exact congrArg (fun z => some (HO.tup z)) (dropn 1)
theorem scAhead : FnScope ["row"] ["row"] (defScope sAhead) := ⟨rfl, rfl, rfl, by decide +kernel, rfl, by decide +kernel, by decide +kernel⟩
theorem ok_ahead (c : FAhead K mg) (cNexts : FNexts K mg) (cUsesWorth : FUsesWorth K mg) (T : Bt mg) (TS : Bs mg) (Z : Pt K w mg) : FnOk P w K mg base CX0 3 c.f c.fd ["row"] spAhead := by
  have GNexts : FnOk P w K mg base CX0 2 cNexts.f cNexts.fd ["row"] spNexts := ok_nexts cNexts cUsesWorth Z
  refine c.F.ok scAhead (fun vs H Q E h => ?_) (fun cdv A outer s H vs Q E hr h => ?_)
  · obtain ⟨a, r, rfl, _⟩ := h
    rfl
  · obtain ⟨a, r, rfl, ha, k⟩ := h
    refine ⟨_, (pss_one (ps_ret (pe_callB (cr_sortedSet rfl) (by rfl) T.sorted (by decide +kernel) (pa_cons (pe_callTy (cr_setT rfl) (by rfl) TS.set (by decide +kernel) (pa_cons (pe_call GNexts (hr.mono (by first | omega | decide)) (by rfl) cNexts.m cNexts.F.kp cNexts.b .nil pass0 (pa_cons (pv 0) pa_nil)) pa_nil)) pa_nil)))), ?_⟩
    refine ⟨_, rfl, a, r, rfl, ha, fun t H4 s4 e4 => ?_⟩
    rw [nI_ints] at e4
    have hnl := nx_len r
    refine ⟨t, _, rfl, SqT.of e4, by rw [List.length_map]; omega, fun sp c hc hsp => ?_⟩
    rw [List.length_map] at hc
    refine alloc hsp fun H5 s5 e5 => ?_
    refine ⟨sp, _, c, rfl, e5, by omega, fun ms q up mem len hq => ?_⟩
    have em := tgt_of up mem
    refine alloc hq fun H6 s6 e6 => ?_
    rw [em] at e6
    refine k q H6 ((s4.trans s5).trans s6) (s4.free (s5.free hq)) ?_
    rw [e6, nI_ints]
abbrev nGoesMay : List Str := ["program", "pairs", "number", "row", "to"]
theorem scGoesMay : FnScope nGoesMay ["program"] (defScope sGoesMay) := ⟨rfl, rfl, rfl, by decide +kernel, rfl, by decide +kernel, by decide +kernel⟩
theorem ok_goesMay (c : FGoesMay K mg) (cAhead : FAhead K mg) (cNexts : FNexts K mg) (cUsesWorth : FUsesWorth K mg) (T : Bt mg) (TS : Bs mg) (Z : Pt K w mg) : FnOk P w K mg base CX0 4 c.f c.fd ["program"] spGoesMay := by
  have GAhead : FnOk P w K mg base CX0 3 cAhead.f cAhead.fd ["row"] spAhead := ok_ahead cAhead cNexts cUsesWorth T TS Z
  refine c.F.ok scGoesMay (fun vs H Q E h => ?_) (fun cdv A outer s H vs Q E hr h => ?_)
  · obtain ⟨a, p, rfl, _⟩ := h
    rfl
  · obtain ⟨a, p, rfl, ⟨wa, ra, bs, hpa, hwa, hra, hR⟩, g, k⟩ := h
    have hbr := Paired.length hR
    have hR40 := g.r40
    refine ⟨_, (pss_cons (ps_set (i := 1) scGoesMay.nd rfl (Or.inl rfl) (pe_lst pa_nil))
      (pss_cons (ps_for PassesOwn.never rfl (pi_enumT (by rfl) T.enumerate (pa_cons (pe_ix ix_tup (pv 0) pe_int (fun _ _ => rfl)) pa_nil)) (pg_tup rfl (pgs_cons (pg_name (i := 2) scGoesMay.nd rfl (Or.inr rfl)) (pgs_cons (pg_name (i := 3) scGoesMay.nd rfl (Or.inl rfl)) pgs_nil)))
          (pss_one (ps_expr (pe_bm PySem.F.plainAttrs_list PySem.F.slot_list_extend PySem.F.type_list_extend mt_extend (pv 1) (pa_cons (pe_lc (own := [("to", 4)]) (g := gName 4) (tt := tYes) rfl scGoesMay.nd (pi_list (pe_call GAhead (hr.mono (by first | omega | decide)) (by rfl) cAhead.m cAhead.F.kp cAhead.b .nil pass0 (pa_cons (pv 3) pa_nil))) (blkOk_by (N := nGoesMay) (sc := defScope sGoesMay) (by decide +kernel)) (fun _ _ _ _ _ => (pg_name (i := 4) scGoesMay.nd rfl (Or.inl rfl))) (fun _ _ _ _ _ => pts_nil) (fun _ _ _ _ _ => (pe_tup (pa_cons (pv 2) (pa_cons (pv 4) pa_nil))))) pa_nil)))))
      (pss_one (ps_ret (pv 1))))), ?_⟩
    refine ⟨Nat.zero_le _, fun l hl => ?_⟩
    refine alloc hl fun H1 s1 e1 => ?_
    refine ⟨_, rfl, a, _, _, _, rfl, rfl, SqT.of (s1 _ _ hpa), at1, ra, _, rfl, SqT.of (s1 _ _ hra), for_enumT (K := K) (a := ra) (xs := bs.map V.ref) (fun i σ H' => ∃ (x2 x3 : Option V) (cs : List Addr), σ = [some (.ref a), some (.ref l), x2, x3, none] ∧ Same1 H H' ∧ H' l = some (.lst (cs.map V.ref)) ∧ PairsL H' cs (goesN p.rows i))
      ⟨none, none, [], rfl, s1, e1, .nil⟩ (fun i σ H' ⟨_, _, _, _, q, _⟩ => SqT.of (q _ _ hra)) ?_ ?_⟩
    · rintro i x T' σ H2 hi ⟨x2, x3, cs, rfl, s2, hl2, hC⟩ hT'
      have hir : i < p.rows.length := by
        have q := (List.getElem?_eq_some_iff.mp hi).1
        rwa [List.length_map, hbr] at q
      obtain ⟨b, hb1, hb2⟩ := Paired.getR hR (List.getElem?_eq_getElem hir)
      have er : p.rows.getD i .stop = p.rows[i] := by rw [List.getD_eq_getElem?_getD, List.getElem?_eq_getElem hir]; rfl
      have ex : x = V.ref b := by
        rw [List.getElem?_map, hb1] at hi
        exact (Option.some.inj hi).symm
      subst ex
      have hcl := Paired.length hC
      have hgl := goesN_len p.rows i
      refine alloc hT' fun H3 s3 e3 => ?_
      refine ⟨T', _, rfl, SqT.of e3, rfl, _, _, rfl, _, _, rfl, rfl, ?_⟩
      refine ⟨_, rfl, .inl ⟨rfl, _, SqL.of (s3 _ _ hl2)⟩, ?_⟩
      refine ⟨_, rfl, b, p.rows[i], rfl, (s2.trans s3) _ _ hb2, fun q H6 s36 hq0 e6 => ?_⟩
      rw [nI_ints] at e6
      have S6 := s3.trans s36
      have htl := tgt_len p.rows[i]
      refine ⟨q, rfl, ⟨_, SqL.of e6⟩, fun D hD => ?_⟩
      have nqD : q ≠ D := ne_of_none e6 hD
      have nlD : l ≠ D := ne_of_none (S6 _ _ hl2) hD
      refine lc_list (K := K) (a := q) (xs := ((tgt p.rows[i]).map fun n : Nat => (n : Int)).map V.int) (fun j H' => ∃ ds : List Addr, Same1 H6 H' ∧ H' D = some (.lst (ds.map V.ref)) ∧ PairsL H' ds (((tgt p.rows[i]).map fun t => (i, t)).take j))
        ⟨[], Same.new hD, upd_same, .nil⟩ (fun j H' _ ⟨_, q2, _⟩ => SqL.of (q2 _ _ e6)) ?_ ?_
      · rintro j x H7 hj ⟨ds, s7, hD7, hd⟩
        rw [List.getElem?_map, List.getElem?_map] at hj
        cases hz : (tgt p.rows[i])[j]? with
        | none => rw [hz] at hj; cases hj
        | some z =>
          rw [hz] at hj
          have e : V.int ((z : Nat) : Int) = x := Option.some.inj hj
          subst e
          have hdl := Paired.length hd
          rw [List.length_take] at hdl
          have hjl := (List.getElem?_eq_some_iff.mp hz).1
          refine ⟨rfl, _, rfl, _, rfl, (by show 2 ≤ sizeLine; decide), fun t2 ht2 => ?_⟩
          refine alloc ht2 fun H8 s8 e8 => ?_
          have hD8 := s8 _ _ hD7
          refine ⟨_, hD8, szl (by rw [List.length_map]; omega), ds ++ [t2], Same.mut (s7.trans s8) hD, by rw [upd_same, List.map_append]; rfl, ?_⟩
          rw [List.take_add_one, List.getElem?_map, hz]
          refine PairsL.kp (Paired.app (PairsL.kp hd (Kp.same s8)) (Paired.one ?_)) (Kp.lst hD8)
          show H8 t2 = some (.tup [.int (i : Int), .int (z : Int)])
          rw [e8]
      · rintro H7 ⟨ds, s7, hD7, hd⟩
        rw [List.length_map, List.length_map] at hd
        rw [List.take_of_length_le (by rw [List.length_map]; exact Nat.le_refl _)] at hd
        have hdl := Paired.length hd
        rw [List.length_map] at hdl
        have hl7 := (S6.trans s7) _ _ hl2
        refine ⟨l, D, _, _, rfl, rfl, hl7, hD7, sz (by rw [List.length_map, List.length_map]; omega), ?_⟩
        refine ⟨_, _, cs ++ ds, rfl, Same.mut ((s2.trans S6).trans s7) hl, by rw [upd_same, List.map_append], ?_⟩
        rw [goesN_succ, er]
        exact PairsL.kp (Paired.app (PairsL.kp hC (Kp.same (S6.trans s7))) hd) (Kp.lst hl7)
    · rintro σ H2 ⟨x2, x3, cs, rfl, s2, hl2, hC⟩
      rw [List.length_map, hbr] at hC
      exact ⟨_, rfl, k l cs H2 s2 hl hl2 hC⟩
end
end DL
namespace DL
open PySem L2 DLR
def fb (now : Int) (place wide : Nat) : Int := now + ((place : Int) - now) % (wide : Int)
def maxL : List Int → Int
  | [] => 0
  | [x] => x
  | x :: y :: l => max x (maxL (y :: l))
def minL : List Int → Int
  | [] => 0
  | [x] => x
  | x :: y :: l => min x (minL (y :: l))
theorem maxL_spec : ∀ {l : List Int}, 0 < l.length → maxL l ∈ l ∧ ∀ y ∈ l, y ≤ maxL l
  | [], h => absurd h (by decide)
  | [x], _ => ⟨List.mem_cons_self, fun y hy => by rw [List.mem_singleton.mp hy]; exact Int.le_refl _⟩
  | x :: z :: l, _ => by
    obtain ⟨h1, h2⟩ := maxL_spec (l := z :: l) (Nat.succ_pos _)
    show max x (maxL (z :: l)) ∈ _ ∧ ∀ y ∈ _, y ≤ max x (maxL (z :: l))
    refine ⟨?_, fun y hy => ?_⟩
    · rcases Int.le_total x (maxL (z :: l)) with q | q
      · rw [Int.max_eq_right q]; exact List.mem_cons_of_mem _ h1
      · rw [Int.max_eq_left q]; exact List.mem_cons_self
    · rcases List.mem_cons.mp hy with e | e
      · rw [e]; omega
      · have := h2 y e
        omega
theorem minL_spec : ∀ {l : List Int}, 0 < l.length → minL l ∈ l ∧ ∀ y ∈ l, minL l ≤ y
  | [], h => absurd h (by decide)
  | [x], _ => ⟨List.mem_cons_self, fun y hy => by rw [List.mem_singleton.mp hy]; exact Int.le_refl _⟩
  | x :: z :: l, _ => by
    obtain ⟨h1, h2⟩ := minL_spec (l := z :: l) (Nat.succ_pos _)
    show min x (minL (z :: l)) ∈ _ ∧ ∀ y ∈ _, min x (minL (z :: l)) ≤ y
    refine ⟨?_, fun y hy => ?_⟩
    · rcases Int.le_total x (minL (z :: l)) with q | q
      · rw [Int.min_eq_left q]; exact List.mem_cons_self
      · rw [Int.min_eq_right q]; exact List.mem_cons_of_mem _ h1
    · rcases List.mem_cons.mp hy with e | e
      · rw [e]; omega
      · have := h2 y e
        omega
theorem maxL_is {l : List Int} {m : Int} (h : m ∈ l) (g : ∀ y ∈ l, y ≤ m) : m = maxL l := by
  obtain ⟨a, b⟩ := maxL_spec (List.length_pos_of_mem h)
  have := b m h
  have := g _ a
  omega
theorem minL_is {l : List Int} {m : Int} (h : m ∈ l) (g : ∀ y ∈ l, m ≤ y) : m = minL l := by
  obtain ⟨a, b⟩ := minL_spec (List.length_pos_of_mem h)
  have := b m h
  have := g _ a
  omega
def comesL (us : List Nat) (read : Int) (W : Nat) : List Int := us.map fun h => fb (read + 1) h W
def comes (y : Lay) (w : Nat) (read : Int) : List Int := comesL (y.homes.getD w []) read y.wide
theorem first_last {ms ns : List Int} (pm : ms.Perm ns) (up : ms.Pairwise (· ≤ ·)) (h : 0 < ns.length) : atI (ms.map V.int) 0 = some (.int (minL ns)) ∧ atI (ms.map V.int) (-1) = some (.int (maxL ns)) := by
  have hl : 0 < ms.length := by rw [pm.length_eq]; exact h
  have pos : ∀ i j (hi : i < ms.length) (hj : j < ms.length), i ≤ j → ms[i] ≤ ms[j] := by
    intro i j hi hj le
    rcases Nat.lt_or_eq_of_le le with q | q
    · exact List.pairwise_iff_getElem.mp up i j hi hj q
    · subst q; exact Int.le_refl _
  constructor
  · have e : ms[0] = minL ns := by
      refine minL_is (pm.mem_iff.mp (List.getElem_mem hl)) fun y hy => ?_
      obtain ⟨j, hj, rfl⟩ := List.mem_iff_getElem.mp (pm.mem_iff.mpr hy)
      exact pos 0 j hl hj (Nat.zero_le _)
    rw [← e]
    exact atI_nat (j := 0) (by rw [List.getElem?_map, List.getElem?_eq_getElem hl]; rfl)
  · have hk : ms.length - 1 < ms.length := by omega
    have e : ms[ms.length - 1] = maxL ns := by
      refine maxL_is (pm.mem_iff.mp (List.getElem_mem hk)) fun y hy => ?_
      obtain ⟨j, hj, rfl⟩ := List.mem_iff_getElem.mp (pm.mem_iff.mpr hy)
      exact pos j _ hj hk (by omega)
    rw [← e]
    have e2 : ms = ms.dropLast ++ [ms[ms.length - 1]] := by
      rw [← List.getLast_eq_getElem (List.ne_nil_of_length_pos hl)]
      exact (List.dropLast_concat_getLast _).symm
    refine (congrArg (fun z => atI (z.map V.int) (-1)) e2).trans ?_
    rw [List.map_append]
    exact atI_last _ _
theorem cut1 : ∀ {ns : List Int}, ns.length ≤ 3 → cutV (ns.map V.int) none (some 1) = (ns.take 1).map V.int
  | [], _ => rfl
  | [x], _ => rfl
  | [x, y], _ => rfl
  | [x, y, z], _ => rfl
  | _ :: _ :: _ :: _ :: _, h => absurd h (by simp only [List.length_cons]; omega)

def useF (y : Lay) (read : Int) : Row → Int
  | .load w _ => minL (comes y w read)
  | .add w _ => minL (comes y w read)
  | .take w _ => minL (comes y w read)
  | .store w _ => maxL (comes y w read)
  | _ => read
def work : Row → Int
  | .load _ _ => 1
  | .add _ _ => 2
  | .take _ _ => 2
  | .store _ _ => 1
  | .say _ => 3
  | .test _ _ => 1
  | .stop => 0
def behindF (y : Lay) (r : Row) (read : Int) : Int := useF y read r + work r + 1
def costF (y : Lay) (rows : List Row) (b t : Nat) : Int := fb (behindF y (rows.getD b .stop) ((y.places.getD b 0 : Nat) : Int)) (y.places.getD t 0) y.wide - ((y.places.getD b 0 : Nat) : Int)
structure Pw (K : Frg) (w : World) (mg : Str → Option Value) where
  d : Addr
  es : Array DictEntry
  n : Nat
  m : mg "WORK" = some (.ref d)
  kd : KDict K w d es n
  at_ : ∀ r : Row, ∃ t : Tok, PySem.W.nsIn K d r.word = some (some (.int (work r) t))
theorem Pw.get {K : Frg} {w : World} {mg : Str → Option Value} (Z : Pw K w mg) (r : Row) : KDct K w Z.d r.word (.int (work r)) := by
  obtain ⟨t, h⟩ := Z.at_ r
  exact ⟨_, _, _, Z.kd.at_, Z.kd.lit, h, ⟨t, rfl⟩⟩
structure Bm (mg : Str → Option Value) : Prop where
  min : mg "min" = none
abbrev sFirstBeat : Stmt := top 46
abbrev sBeatsOfUse : Stmt := top 47
abbrev sBeatOfUse : Stmt := top 48
abbrev sBeatBehind : Stmt := top 49
abbrev sCost : Stmt := top 50
abbrev sCosts : Stmt := top 51
abbrev FFirstBeat (K : Frg) (mg : Str → Option Value) := Fd K mg "first_beat" sFirstBeat ["now", "place", "wide"]
abbrev FBeatsOfUse (K : Frg) (mg : Str → Option Value) := Fd K mg "beats_of_use" sBeatsOfUse ["word", "places", "read", "wide"]
abbrev FBeatOfUse (K : Frg) (mg : Str → Option Value) := Fd K mg "beat_of_use" sBeatOfUse ["row", "read", "laying"]
abbrev FBeatBehind (K : Frg) (mg : Str → Option Value) := Fd K mg "beat_behind" sBeatBehind ["row", "read", "laying"]
abbrev FCost (K : Frg) (mg : Str → Option Value) := Fd K mg "cost" sCost ["program", "laying", "begin", "to"]
abbrev FCosts (K : Frg) (mg : Str → Option Value) := Fd K mg "costs" sCosts ["program", "laying"]
def spFirstBeat : Sp := fun vs H Q _ => ∃ (now : Int) (place W : Nat), vs = [.int now, .int (place : Int), .int (W : Int)] ∧ 0 < W ∧ Q (.int (fb now place W)) H
def UseL (st : Bool) (us : List Nat) (read : Int) (W : Nat) (ms : List Int) : Prop := ∃ ns : List Int, ns.Perm (comesL us read W) ∧ ns.Pairwise (· ≤ ·) ∧ ms = if st = true then ns else ns.take 1
def spBeatsOfUse : Sp := fun vs H Q _ => ∃ (x : Str) (a : Addr) (us : List Nat) (read : Int) (W : Nat), vs = [.str x, .ref a, .int read, .int (W : Int)] ∧ H a = some (.tup (us.map nI)) ∧ us.length ≤ 3 ∧ 0 < W ∧
  ∀ q ms H', Same1 H H' → H q = none → H' q = some (.lst (ms.map V.int)) → UseL (decide (V.str x = V.str "store")) us read W ms → Q (.ref q) H'
def spBeatOfUse : Sp := fun vs H Q _ => ∃ (a b : Addr) (r : Row) (read : Int) (y : Lay) (N : Nat), vs = [.ref a, .int read, .ref b] ∧ H a = some (.tup (rowVs r)) ∧ LayAt H b y ∧ 2 ≤ y.wide ∧ (∀ h ∈ y.homes, HomeOk y.wide h) ∧ r.ok y.homes.length N ∧
  ∀ H', Same1 H H' → Q (.int (useF y read r)) H'
def spBeatBehind : Sp := fun vs H Q _ => ∃ (a b : Addr) (r : Row) (read : Int) (y : Lay) (N : Nat), vs = [.ref a, .int read, .ref b] ∧ H a = some (.tup (rowVs r)) ∧ LayAt H b y ∧ 2 ≤ y.wide ∧ (∀ h ∈ y.homes, HomeOk y.wide h) ∧ r.ok y.homes.length N ∧
  ∀ H', Same1 H H' → Q (.int (behindF y r read)) H'
def spCost : Sp := fun vs H Q _ => ∃ (a b : Addr) (p : Prog) (y : Lay) (i t : Nat), vs = [.ref a, .ref b, .int (i : Int), .int (t : Int)] ∧ ProgAt H a p ∧ Good p ∧ LayAt H b y ∧ LayOk p y ∧ i < p.rows.length ∧ t < p.rows.length ∧
  ∀ H', Same1 H H' → Q (.int (costF y p.rows i t)) H'
def costVs (y : Lay) (rows : List Row) (g : Nat × Nat) : List V := [nI g.1, nI g.2, .int (costF y rows g.1 g.2)]
def spCosts : Sp := fun vs H Q _ => ∃ (a b : Addr) (p : Prog) (y : Lay), vs = [.ref a, .ref b] ∧ ProgAt H a p ∧ Good p ∧ LayAt H b y ∧ LayOk p y ∧
  ∀ l bs H', Same1 H H' → H l = none → H' l = some (.lst (bs.map V.ref)) → Paired (fun b g => H' b = some (.tup (costVs y p.rows g))) bs (goesN p.rows p.rows.length) → Q (.ref l) H'
section
variable {P : Program} {w : World} {K : PySem.W.Frag} {mg : Str → Option Value} {base : Heap}
theorem scFirstBeat : FnScope ["now", "place", "wide"] ["now", "place", "wide"] (defScope sFirstBeat) := ⟨rfl, rfl, rfl, by decide +kernel, rfl, by decide +kernel, by decide +kernel⟩
theorem ok_firstBeat (c : FFirstBeat K mg) : FnOk P w K mg base CX0 1 c.f c.fd ["now", "place", "wide"] spFirstBeat := by
  refine c.F.ok scFirstBeat (fun vs H Q E h => ?_) (fun cdv A outer s H vs Q E hr h => ?_)
  · obtain ⟨n, pl, W, rfl, _⟩ := h
    rfl
  · obtain ⟨n, pl, W, rfl, h0, k⟩ := h
    refine ⟨_, (pss_one (ps_ret (pe_op op_add (pv 0) (pe_op op_mod (pe_op op_sub (pv 1) (pv 0)) (pv 2))))), ?_⟩
    exact ⟨_, rfl, _, rfl, _, rfl, _, _, rfl, rfl, _, rfl, _, _, rfl, rfl, (by omega), _, _, rfl, rfl, k⟩
abbrev nBeatsOfUse : List Str := ["word", "places", "read", "wide", "comes", "place"]
theorem scBeatsOfUse : FnScope nBeatsOfUse ["word", "places", "read", "wide"] (defScope sBeatsOfUse) := ⟨rfl, rfl, rfl, by decide +kernel, rfl, by decide +kernel, by decide +kernel⟩
theorem ok_beatsOfUse (c : FBeatsOfUse K mg) (cFirstBeat : FFirstBeat K mg) (T : Bt mg) : FnOk P w K mg base CX0 2 c.f c.fd ["word", "places", "read", "wide"] spBeatsOfUse := by
  have GFirstBeat : FnOk P w K mg base CX0 1 cFirstBeat.f cFirstBeat.fd ["now", "place", "wide"] spFirstBeat := ok_firstBeat cFirstBeat
  refine c.F.ok scBeatsOfUse (fun vs H Q E h => ?_) (fun cdv A outer s H vs Q E hr h => ?_)
  · obtain ⟨x, a, us, read, W, rfl, _⟩ := h
    rfl
  · obtain ⟨x, a, us, read, W, rfl, ha, l3, w0, k⟩ := h
    refine ⟨_, (pss_cons (ps_set (i := 4) scBeatsOfUse.nd rfl (Or.inl rfl) (pe_callB cr_sortedI (by rfl) T.sorted (by decide +kernel) (pa_cons (pe_lc (own := [("place", 5)]) (g := gName 5) (tt := tYes) rfl scBeatsOfUse.nd (pi_tup (pv 1)) (blkOk_by (N := nBeatsOfUse) (sc := defScope sBeatsOfUse) (by decide +kernel)) (fun _ _ _ _ _ => (pg_name (i := 5) scBeatsOfUse.nd rfl (Or.inl rfl))) (fun _ _ _ _ _ => pts_nil) (fun _ _ _ _ _ => (pe_call GFirstBeat (hr.mono (by first | omega | decide)) (by rfl) cFirstBeat.m cFirstBeat.F.kp cFirstBeat.b .nil pass0 (pa_cons (pe_op op_add (pv 2) pe_int) (pa_cons (pv 5) (pa_cons (pv 3) pa_nil)))))) pa_nil)))
      (pss_cons (ps_if (pt_cmpR op_eq (pv 0) pe_str (nomark _))
          (pss_one (ps_ret (pv 4)))
          pss_nil)
      (pss_one (ps_ret (pe_slice sl_list (pv 4) po_none (po_some pe_int)))))), ?_⟩
    refine ⟨_, rfl, a, rfl, ⟨_, SqT.of ha⟩, fun D hD => ?_⟩
    refine lc_tup (K := K) (a := a) (xs := us.map nI) (fun i H' => Same1 H H' ∧ H' D = some (.lst (((comesL us read W).take i).map V.int))) ⟨Same.new hD, upd_same⟩ (fun i H' _ ⟨q, _⟩ => SqT.of (q _ _ ha)) ?_ ?_
    · rintro i z H1 hi ⟨s1, hD1⟩
      rw [List.getElem?_map] at hi
      cases hz : us[i]? with
      | none => rw [hz] at hi; cases hi
      | some h =>
        rw [hz] at hi
        have e : nI h = z := Option.some.inj hi
        subst e
        have hil := (List.getElem?_eq_some_iff.mp hz).1
        refine ⟨rfl, _, rfl, _, _, rfl, rfl, _, rfl, _, rfl, read + 1, h, W, rfl, w0, ?_⟩
        refine ⟨_, hD1, szl (by rw [List.length_map, List.length_take]; omega), Same.mut s1 hD, ?_⟩
        rw [upd_same, List.take_add_one]
        unfold comesL
        rw [List.getElem?_map, hz, List.map_append]
        rfl
    · rintro H1 ⟨s1, hD1⟩
      have hcl : (comesL us read W).length = us.length := by unfold comesL; rw [List.length_map]
      rw [List.length_map, ← hcl, List.take_length] at hD1
      refine ⟨D, _, rfl, SqL.of hD1, fun ns q pm up hq => ?_⟩
      have hnl : ns.length ≤ 3 := by rw [pm.length_eq, hcl]; exact l3
      refine alloc hq fun H2 s2 e2 => ?_
      refine ⟨_, rfl, rfl, _, rfl, ?_⟩
      cases hs : decide (V.str x = V.str "store") with
      | true =>
        rw [hs] at k
        exact iteT ⟨_, rfl, k q ns H2 (s1.trans s2) (s1.free hq) e2 ⟨ns, pm, up, rfl⟩⟩
      | false =>
        rw [hs] at k
        refine iteF ⟨_, rfl, _, rfl, q, _, rfl, SqL.of e2, fun t ht => ?_⟩
        refine alloc ht fun H3 s3 e3 => ?_
        refine k t (ns.take 1) H3 ((s1.trans s2).trans s3) (s1.free (s2.free ht)) ?_ ⟨ns, pm, up, rfl⟩
        rw [e3, cut1 hnl]
abbrev nBeatOfUse : List Str := ["row", "read", "laying", "wide", "_", "homes"]
theorem scBeatOfUse : FnScope nBeatOfUse ["row", "read", "laying"] (defScope sBeatOfUse) := ⟨rfl, rfl, rfl, by decide +kernel, rfl, by decide +kernel, by decide +kernel⟩
theorem useL_last {st : Bool} {us : List Nat} {read : Int} {W : Nat} {ms : List Int} (h : UseL st us read W ms) (l1 : 0 < us.length) : atI (ms.map V.int) (-1) = some (.int (if st = true then maxL (comesL us read W) else minL (comesL us read W))) := by
  obtain ⟨ns, pm, up, rfl⟩ := h
  have hcl : 0 < (comesL us read W).length := by unfold comesL; rw [List.length_map]; exact l1
  obtain ⟨f0, f1⟩ := first_last pm up hcl
  cases st with
  | true => exact f1
  | false =>
    match ns with
    | [] => rw [if_neg (by decide)]; exact absurd f0 (by intro z; cases z)
    | x :: t =>
      have e := at0.symm.trans f0
      show atI [V.int x] (-1) = _
      exact (atI_last [] (V.int x)).trans e
theorem ok_beatOfUse (c : FBeatOfUse K mg) (cBeatsOfUse : FBeatsOfUse K mg) (cFirstBeat : FFirstBeat K mg) (cUsesWorth : FUsesWorth K mg) (T : Bt mg) (Z : Pt K w mg) : FnOk P w K mg base CX0 3 c.f c.fd ["row", "read", "laying"] spBeatOfUse := by
  have GBeatsOfUse : FnOk P w K mg base CX0 2 cBeatsOfUse.f cBeatsOfUse.fd ["word", "places", "read", "wide"] spBeatsOfUse := ok_beatsOfUse cBeatsOfUse cFirstBeat T
  have GUsesWorth : FnOk P w K mg base CX0 1 cUsesWorth.f cUsesWorth.fd ["row"] spUses := ok_usesWorth cUsesWorth Z
  refine c.F.ok scBeatOfUse (fun vs H Q E h => ?_) (fun cdv A outer s H vs Q E hr h => ?_)
  · obtain ⟨a, b, r, read, y, N, rfl, _⟩ := h
    rfl
  · obtain ⟨a, b, r, read, y, N, rfl, ha, ⟨pl, hl, cs, hb, hpl, hhl, hH⟩, w2, hok, ho, k⟩ := h
    have hcl := Paired.length hH
    refine ⟨_, (pss_cons (ps_asg (pv 2) (pg_tup rfl (pgs_cons (pg_name (i := 3) scBeatOfUse.nd rfl (Or.inl rfl)) (pgs_cons (pg_name (i := 4) scBeatOfUse.nd rfl (Or.inl rfl)) (pgs_cons (pg_name (i := 5) scBeatOfUse.nd rfl (Or.inl rfl)) pgs_nil)))))
      (pss_cons (ps_if (pt_not (pt_val (pe_call GUsesWorth (hr.mono (by first | omega | decide)) (by rfl) cUsesWorth.m cUsesWorth.F.kp cUsesWorth.b .nil pass0 (pa_cons (pv 0) pa_nil))))
          (pss_one (ps_ret (pv 1)))
          pss_nil)
      (pss_one (ps_ret (pe_ix ix_list (pe_call GBeatsOfUse (hr.mono (by first | omega | decide)) (by rfl) cBeatsOfUse.m cBeatsOfUse.F.kp cBeatsOfUse.b .nil pass0 (pa_cons (pe_ix ix_tup (pv 0) pe_int (fun _ _ => rfl)) (pa_cons (pe_ix ix_tup (pv 5) (pe_ix ix_tup (pv 0) pe_int (fun _ _ => rfl)) (fun _ _ => rfl)) (pa_cons (pv 1) (pa_cons (pv 3) pa_nil))))) (pe_un un_neg pe_int) (fun _ _ => rfl)))))), ?_⟩
    refine ⟨_, rfl, b, _, rfl, SqT.of hb, rfl, _, _, rfl, _, _, rfl, _, _, rfl, rfl, ?_⟩
    refine ⟨_, rfl, a, r, rfl, ha, _, rfl, ?_⟩
    cases hu : r.uses with
    | false =>
      refine iteT ⟨_, rfl, ?_⟩
      have e : useF y read r = read := by cases r <;> first | rfl | cases hu
      have q := k H (Same.refl _)
      rw [e] at q
      exact q
    | true =>
      have hx1 : ∃ x : Nat, (rowVs r)[1]? = some (.int (x : Int)) ∧ x < y.homes.length ∧ useF y read r = if r.isWd "store" = true then maxL (comes y x read) else minL (comes y x read) := by
        have e := (Row.wd_eq r).2.1
        cases r with
        | load x n => exact ⟨x, rfl, ho.1, by rw [e]; rfl⟩
        | add x n => exact ⟨x, rfl, ho.1, by rw [e]; rfl⟩
        | take x n => exact ⟨x, rfl, ho.1, by rw [e]; rfl⟩
        | store x n => exact ⟨x, rfl, ho.1, by rw [e]; rfl⟩
        | say n => cases hu
        | test a b => cases hu
        | stop => cases hu
      obtain ⟨x, hx, hxl, heq⟩ := hx1
      obtain ⟨cb, hcb1, hcb2⟩ := Paired.getR hH (List.getElem?_eq_getElem hxl)
      have hcV : (cs.map V.ref)[x]? = some (.ref cb) := by rw [List.getElem?_map, hcb1]; rfl
      have hk := hok _ (List.getElem_mem hxl)
      have l1 := hk.l1
      have l3 := hk.l3
      have eg : y.homes.getD x [] = y.homes[x] := by rw [List.getD_eq_getElem?_getD, List.getElem?_eq_getElem hxl]; rfl
      refine iteF ⟨_, rfl, a, _, _, _, rfl, rfl, SqT.of ha, atI_nat (j := 0) (Row.w0 r), _, rfl, _, rfl, a, _, _, _, rfl, rfl, SqT.of ha, atI_nat (j := 1) hx, hl, _, _, _, rfl, rfl, SqT.of hhl, atI_nat hcV, _, rfl, _, rfl, r.word, cb, y.homes[x], read, y.wide, rfl, hcb2, by omega, by omega, fun q ms H1 s1 nq e1 hU => ?_⟩
      refine ⟨_, rfl, q, _, _, _, rfl, rfl, SqL.of e1, useL_last hU (by omega), ?_⟩
      have z := k H1 s1
      rw [heq] at z
      unfold comes at z
      rw [eg] at z
      exact z
theorem scBeatBehind : FnScope ["row", "read", "laying"] ["row", "read", "laying"] (defScope sBeatBehind) := ⟨rfl, rfl, rfl, by decide +kernel, rfl, by decide +kernel, by decide +kernel⟩
theorem ok_beatBehind (c : FBeatBehind K mg) (cBeatOfUse : FBeatOfUse K mg) (cBeatsOfUse : FBeatsOfUse K mg) (cFirstBeat : FFirstBeat K mg) (cUsesWorth : FUsesWorth K mg) (T : Bt mg) (Z : Pt K w mg) (ZW : Pw K w mg) : FnOk P w K mg base CX0 4 c.f c.fd ["row", "read", "laying"] spBeatBehind := by
  have GBeatOfUse : FnOk P w K mg base CX0 3 cBeatOfUse.f cBeatOfUse.fd ["row", "read", "laying"] spBeatOfUse := ok_beatOfUse cBeatOfUse cBeatsOfUse cFirstBeat cUsesWorth T Z
  refine c.F.ok scBeatBehind (fun vs H Q E h => ?_) (fun cdv A outer s H vs Q E hr h => ?_)
  · obtain ⟨a, b, r, read, y, N, rfl, _⟩ := h
    rfl
  · obtain ⟨a, b, r, read, y, N, rfl, ha, hy, w2, hok, ho, k⟩ := h
    refine ⟨_, (pss_one (ps_ret (pe_op op_add (pe_op op_add (pe_call GBeatOfUse (hr.mono (by first | omega | decide)) (by rfl) cBeatOfUse.m cBeatOfUse.F.kp cBeatOfUse.b .nil pass0 (pa_cons (pv 0) (pa_cons (pv 1) (pa_cons (pv 2) pa_nil)))) (pe_ix ix_kdict (pe_glob (v := .ref ZW.d) rfl ZW.m rfl) (pe_ix ix_tup (pv 0) pe_int (fun _ _ => rfl)) (fun _ _ => rfl))) pe_int))), ?_⟩
    refine ⟨_, rfl, _, rfl, _, rfl, a, b, r, read, y, N, rfl, ha, hy, w2, hok, ho, fun H1 s1 => ?_⟩
    refine ⟨_, rfl, a, _, _, _, rfl, rfl, SqT.of (s1 _ _ ha), atI_nat (j := 0) (Row.w0 r), ZW.d, _, _, rfl, rfl, ZW.get r, _, _, rfl, rfl, _, _, rfl, rfl, k H1 s1⟩
abbrev nCost : List Str := ["program", "laying", "begin", "to", "wide", "places", "_", "read", "behind"]
theorem scCost : FnScope nCost ["program", "laying", "begin", "to"] (defScope sCost) := ⟨rfl, rfl, rfl, by decide +kernel, rfl, by decide +kernel, by decide +kernel⟩
theorem nI_at {l : List Nat} {i : Nat} (h : i < l.length) : (l.map nI)[i]? = some (.int ((l.getD i 0 : Nat) : Int)) := by
  rw [List.getElem?_map, List.getD_eq_getElem?_getD, List.getElem?_eq_getElem h]
  rfl
theorem ok_cost (c : FCost K mg) (cBeatBehind : FBeatBehind K mg) (cBeatOfUse : FBeatOfUse K mg) (cBeatsOfUse : FBeatsOfUse K mg) (cFirstBeat : FFirstBeat K mg) (cUsesWorth : FUsesWorth K mg) (T : Bt mg) (Z : Pt K w mg) (ZW : Pw K w mg) : FnOk P w K mg base CX0 5 c.f c.fd ["program", "laying", "begin", "to"] spCost := by
  have GBeatBehind : FnOk P w K mg base CX0 4 cBeatBehind.f cBeatBehind.fd ["row", "read", "laying"] spBeatBehind := ok_beatBehind cBeatBehind cBeatOfUse cBeatsOfUse cFirstBeat cUsesWorth T Z ZW
  have GFirstBeat : FnOk P w K mg base CX0 1 cFirstBeat.f cFirstBeat.fd ["now", "place", "wide"] spFirstBeat := ok_firstBeat cFirstBeat
  refine c.F.ok scCost (fun vs H Q E h => ?_) (fun cdv A outer s H vs Q E hr h => ?_)
  · obtain ⟨a, b, p, y, i, t, rfl, _⟩ := h
    rfl
  · obtain ⟨a, b, p, y, i, t, rfl, ⟨wa, ra, bs, hpa, hwa, hra, hR⟩, g, ⟨pl, hl, cs, hb, hpl, hhl, hH⟩, yk, hi, ht, k⟩ := h
    have er : p.rows.getD i .stop = p.rows[i] := by rw [List.getD_eq_getElem?_getD, List.getElem?_eq_getElem hi]; rfl
    obtain ⟨rb, hb1, hb2⟩ := Paired.getR hR (List.getElem?_eq_getElem hi)
    have hbV : (bs.map V.ref)[i]? = some (.ref rb) := by rw [List.getElem?_map, hb1]; rfl
    have w2 := yk.w2
    refine ⟨_, (pss_cons (ps_asg (pv 1) (pg_tup rfl (pgs_cons (pg_name (i := 4) scCost.nd rfl (Or.inl rfl)) (pgs_cons (pg_name (i := 5) scCost.nd rfl (Or.inl rfl)) (pgs_cons (pg_name (i := 6) scCost.nd rfl (Or.inl rfl)) pgs_nil)))))
      (pss_cons (ps_set (i := 7) scCost.nd rfl (Or.inl rfl) (pe_ix ix_tup (pv 5) (pv 2) (fun _ _ => rfl)))
      (pss_cons (ps_set (i := 8) scCost.nd rfl (Or.inl rfl) (pe_call GBeatBehind (hr.mono (by first | omega | decide)) (by rfl) cBeatBehind.m cBeatBehind.F.kp cBeatBehind.b .nil pass0 (pa_cons (pe_ix ix_tup (pe_ix ix_tup (pv 0) pe_int (fun _ _ => rfl)) (pv 2) (fun _ _ => rfl)) (pa_cons (pv 7) (pa_cons (pv 1) pa_nil)))))
      (pss_one (ps_ret (pe_op op_sub (pe_call GFirstBeat (hr.mono (by first | omega | decide)) (by rfl) cFirstBeat.m cFirstBeat.F.kp cFirstBeat.b .nil pass0 (pa_cons (pv 8) (pa_cons (pe_ix ix_tup (pv 5) (pv 3) (fun _ _ => rfl)) (pa_cons (pv 4) pa_nil)))) (pv 7))))))), ?_⟩
    refine ⟨_, rfl, b, _, rfl, SqT.of hb, rfl, _, _, rfl, _, _, rfl, _, _, rfl, rfl, ?_⟩
    refine ⟨_, rfl, _, rfl, pl, _, _, _, rfl, rfl, SqT.of hpl, atI_nat (nI_at (by rw [yk.pl]; exact hi)), ?_⟩
    refine ⟨_, rfl, a, _, _, _, rfl, rfl, SqT.of hpa, at1, _, rfl, ra, _, _, _, rfl, rfl, SqT.of hra, atI_nat hbV, _, rfl, _, rfl, rb, b, p.rows[i], _, y, p.rows.length, rfl, hb2, ⟨pl, hl, cs, hb, hpl, hhl, hH⟩, w2, yk.hok, ?_, fun H1 s1 => ?_⟩
    · rw [yk.hl]
      exact g.ok _ (List.getElem_mem hi)
    refine ⟨_, rfl, _, rfl, _, rfl, pl, _, _, _, rfl, rfl, SqT.of (s1 _ _ hpl), atI_nat (nI_at (by rw [yk.pl]; exact ht)), _, rfl, _, _, _, rfl, by omega, _, rfl, _, _, rfl, rfl, ?_⟩
    have q := k H1 s1
    unfold costF at q
    rw [er] at q
    exact q
abbrev nCosts : List Str := ["program", "laying", "begin", "to"]
theorem scCosts : FnScope nCosts ["program", "laying"] (defScope sCosts) := ⟨rfl, rfl, rfl, by decide +kernel, rfl, by decide +kernel, by decide +kernel⟩
end
end DL
namespace DL
open PySem L2 DLR
theorem whileE {c : TT} {tb : TS} {D : Ends} {σ : L2.St} {H : Hp} (W : Nat → L2.St → Hp → Prop) (R : L2.St → Hp → Prop) (w0 : ∃ m, W m σ H) (key : ∀ σ' H', R σ' H' → D.nx σ' H')
    (turn : ∀ Nx : L2.St → Hp → Prop, (∀ σ' H', R σ' H' → Nx σ' H') → ∀ m σ H, W m σ H → c σ H fun b H1 => if b = true then ∃ N : L2.St → Hp → Prop, (∀ σ' H', N σ' H' → ∃ m', m' < m ∧ W m' σ' H') ∧ tb { D with nx := N, ct := N, bk := D.nx } σ H1 else Nx σ H1) :
    tWhile c tb D σ H := ⟨W, w0, fun m σ H w => turn D.nx key m σ H w⟩
theorem fb_mod {now : Int} {place W : Nat} (h : place < W) : fb now place W % (W : Int) = (place : Int) := by
  unfold fb
  rw [Int.add_comm, Int.emod_add_emod, Int.sub_add_cancel, Int.emod_eq_of_lt (by omega) (by omega)]
theorem fb_ge {now : Int} {place W : Nat} (h : 0 < W) : now ≤ fb now place W ∧ fb now place W < now + (W : Int) := by
  have a := Int.emod_nonneg ((place : Int) - now) (show (W : Int) ≠ 0 by omega)
  have b := Int.emod_lt_of_pos ((place : Int) - now) (show (0 : Int) < (W : Int) by omega)
  unfold fb
  omega
theorem fb_uniq {now x : Int} {place W : Nat} (h : place < W) (h1 : now ≤ x) (h2 : x ≤ fb now place W) (e : x % (W : Int) = (place : Int)) : x = fb now place W := by
  have b := (fb_ge (now := now) (place := place) (show 0 < W by omega)).2
  have m : (fb now place W - x) % (W : Int) = 0 := by
    rw [Int.sub_emod, fb_mod h, e, Int.sub_self, Int.zero_emod]
  rw [Int.emod_eq_of_lt (by omega) (by omega)] at m
  omega
theorem goesN_mem {rows : List Row} {n u v : Nat} (h : (u, v) ∈ goesN rows n) : u < n ∧ v ∈ tgt (rows.getD u .stop) := by
  obtain ⟨k, hk, h2⟩ := List.mem_flatMap.mp h
  obtain ⟨t, ht, e⟩ := List.mem_map.mp h2
  have e1 := congrArg Prod.fst e
  have e2 := congrArg Prod.snd e
  dsimp only at e1 e2
  subst e1 e2
  exact ⟨List.mem_range.mp hk, ht⟩
theorem nx_lt {r : Row} {W N : Nat} (h : r.ok W N) : ∀ x ∈ nx r, x < N := by
  cases r with
  | load w n => intro x hx; rw [List.mem_singleton.mp hx]; exact h.2
  | add w n => intro x hx; rw [List.mem_singleton.mp hx]; exact h.2
  | take w n => intro x hx; rw [List.mem_singleton.mp hx]; exact h.2
  | store w n => intro x hx; rw [List.mem_singleton.mp hx]; exact h.2
  | say n => intro x hx; rw [List.mem_singleton.mp hx]; exact h
  | test a b =>
    intro x hx
    rcases List.mem_cons.mp hx with e | e
    · rw [e]; exact h.1
    · rw [List.mem_singleton.mp e]; exact h.2
  | stop => intro x hx; cases hx
theorem goesN_lt {p : Prog} (g : Good p) {u v : Nat} (h : (u, v) ∈ goesN p.rows p.rows.length) : u < p.rows.length ∧ v < p.rows.length := by
  obtain ⟨h1, h2⟩ := goesN_mem h
  have er : p.rows.getD u .stop = p.rows[u] := by rw [List.getD_eq_getElem?_getD, List.getElem?_eq_getElem h1]; rfl
  rw [er] at h2
  exact ⟨h1, nx_lt (g.ok _ (List.getElem_mem h1)) v ((tgt_mem _ _).mp h2)⟩
def spWait : Sp := fun vs H Q _ => ∃ (now : Int) (place W : Nat), vs = [.int now, .int (place : Int), .int (W : Int)] ∧ place < W ∧ Q (.int (fb now place W)) H
def kAd : Key := .inr "add"
def kTk : Key := .inr "take"
def kSy : Key := .inr "say"
def kSp : Key := .inr "stop"
theorem extra (r : Row) : (valV (mergeK [] [(kAd, V.int 2), (kTk, V.int 2), (kSy, V.int 3), (kSp, V.int 0)]) (.inr r.word)).getD (.int 1) = .int (work r) := by
  cases r <;> (dsimp only [Row.word, work]; decide +kernel)
theorem store_at (r : Row) : (0 : Int) - (if decide (V.str r.word = V.str "store") = true then 1 else 0) = if r.isWd "store" = true then -1 else 0 := by
  show (0 : Int) - (if r.isWd "store" = true then 1 else 0) = _
  cases r.isWd "store" <;> decide
section
variable {P : Program} {w : World} {K : PySem.W.Frag} {mg : Str → Option Value} {base : Heap}
theorem ok_costs (c : FCosts K mg) (cCheckProgram : FCheckProgram K mg) (cCheckLaying : FCheckLaying K mg) (cGoesThatMayBe : FGoesMay K mg) (cCost : FCost K mg)
    (GCheckProgram : FnOk P w K mg base CX0 4 cCheckProgram.f cCheckProgram.fd ["program"] spCheckProgram) (GCheckLaying : FnOk P w K mg base CX0 5 cCheckLaying.f cCheckLaying.fd ["program", "laying"] spCheckLaying)
    (GGoesThatMayBe : FnOk P w K mg base CX0 4 cGoesThatMayBe.f cGoesThatMayBe.fd ["program"] spGoesMay) (GCost : FnOk P w K mg base CX0 5 cCost.f cCost.fd ["program", "laying", "begin", "to"] spCost) : FnOk P w K mg base CX0 6 c.f c.fd ["program", "laying"] spCosts := by
  refine c.F.ok scCosts (fun vs H Q E h => ?_) (fun cdv A outer s H vs Q E hr h => ?_)
  · obtain ⟨a, b, p, y, rfl, _⟩ := h
    rfl
  · obtain ⟨a, b, p, y, rfl, hP, g, hY, yk, k⟩ := h
    have hR40 := g.r40
    refine ⟨_, (pss_cons (ps_expr (pe_call GCheckProgram (hr.mono (by first | omega | decide)) (by rfl) cCheckProgram.m cCheckProgram.F.kp cCheckProgram.b .nil pass0 (pa_cons (pv 0) pa_nil)))
      (pss_cons (ps_expr (pe_call GCheckLaying (hr.mono (by first | omega | decide)) (by rfl) cCheckLaying.m cCheckLaying.F.kp cCheckLaying.b .nil pass0 (pa_cons (pv 0) (pa_cons (pv 1) pa_nil))))
      (pss_one (ps_ret (pe_lc (own := [("begin", 2), ("to", 3)]) (g := gTup K 2 (gCons (gName 2) (gCons (gName 3) gNil))) (tt := tYes) rfl scCosts.nd (pi_list (pe_call GGoesThatMayBe (hr.mono (by first | omega | decide)) (by rfl) cGoesThatMayBe.m cGoesThatMayBe.F.kp cGoesThatMayBe.b .nil pass0 (pa_cons (pv 0) pa_nil))) (blkOk_by (N := nCosts) (sc := defScope sCosts) (by decide +kernel)) (fun _ _ _ _ _ => (pg_tupK K rfl rfl (pgs_cons (pg_name (i := 2) scCosts.nd rfl (Or.inl rfl)) (pgs_cons (pg_name (i := 3) scCosts.nd rfl (Or.inl rfl)) pgs_nil)))) (fun _ _ _ _ _ => pts_nil) (fun _ _ _ _ _ => (pe_tup (pa_cons (pv 2) (pa_cons (pv 3) (pa_cons (pe_call GCost (hr.mono (by first | omega | decide)) (by rfl) cCost.m cCost.F.kp cCost.b .nil pass0 (pa_cons (pv 0) (pa_cons (pv 1) (pa_cons (pv 2) (pa_cons (pv 3) pa_nil))))) pa_nil)))))))))), ?_⟩
    refine ⟨_, rfl, a, p, rfl, hP, g, fun H1 s1 => ?_⟩
    refine ⟨_, rfl, _, rfl, a, b, p, y, rfl, hP.kp (Kp.same s1), g, hY.kp (Kp.same s1), yk, fun H2 s2 => ?_⟩
    refine ⟨_, rfl, a, p, rfl, hP.kp (Kp.same (s1.trans s2)), g, fun l cs H3 s3 nl e3 hC => ?_⟩
    have S3 := (s1.trans s2).trans s3
    have hgl := goesN_len p.rows p.rows.length
    have hcl := Paired.length hC
    refine ⟨l, rfl, ⟨_, SqL.of e3⟩, fun D hD => ?_⟩
    refine lc_list (K := K) (a := l) (xs := cs.map V.ref) (fun i H' => ∃ ds : List Addr, Same1 H3 H' ∧ H' D = some (.lst (ds.map V.ref)) ∧ Paired (fun b g => H' b = some (.tup (costVs y p.rows g))) ds ((goesN p.rows p.rows.length).take i))
      ⟨[], Same.new hD, upd_same, .nil⟩ (fun i H' _ ⟨_, q, _⟩ => SqL.of (q _ _ e3)) ?_ ?_
    · rintro i x H4 hi ⟨ds, s4, hD4, hd⟩
      have hic : i < cs.length := by
        have q := (List.getElem?_eq_some_iff.mp hi).1
        rwa [List.length_map] at q
      have ex : x = .ref cs[i] := by
        rw [List.getElem?_map, List.getElem?_eq_getElem hic] at hi
        exact (Option.some.inj hi).symm
      subst ex
      obtain ⟨⟨u, v⟩, hq1, hq2⟩ := Paired.get hC (List.getElem?_eq_getElem hic)
      have hdl := Paired.length hd
      rw [List.length_take] at hdl
      obtain ⟨hu, hv⟩ := goesN_lt g (List.mem_of_getElem? hq1)
      have hb4 := s4 _ _ hq2
      refine ⟨cs[i], _, rfl, SqT.of hb4, rfl, _, _, rfl, _, _, rfl, rfl, ?_⟩
      refine ⟨rfl, _, rfl, _, rfl, _, rfl, _, rfl, _, rfl, _, rfl, a, b, p, y, u, v, rfl, hP.kp (Kp.same (S3.trans s4)), g, hY.kp (Kp.same (S3.trans s4)), yk, hu, hv, fun H5 s5 => ?_⟩
      refine ⟨(by show 3 ≤ sizeLine; decide), fun t ht => ?_⟩
      refine alloc ht fun H6 s6 e6 => ?_
      have S := s5.trans s6
      have hD6 := S _ _ hD4
      refine ⟨_, hD6, szl (by rw [List.length_map]; omega), ds ++ [t], Same.mut (s4.trans S) hD, by rw [upd_same, List.map_append]; rfl, ?_⟩
      rw [List.take_add_one, hq1]
      exact Paired.mapP (Paired.app (Paired.mapP hd fun b q h => S _ _ h) (Paired.one e6)) fun b q h => Kp.lst hD6 _ _ h
    · rintro H4 ⟨ds, s4, hD4, hd⟩
      rw [List.length_map, hcl, List.take_length] at hd
      exact k D ds H4 (S3.trans s4) (S3.free hD) hD4 hd
end
end DL
namespace DL
open PySem L2 DLR
/-! ### a drum that turns -/
structure Uk (K : Frg) (mg : Str → Option Value) (C : Addr) : Prop where
  cl : Cls K C
  nR : NoAttr K C "rows"
  nL : NoAttr K C "laying"
  nD : NoAttr K C "desk"
  nW : NoAttr K C "row"
  nN : NoAttr K C "now"
  m : mg "Drum" = some (.ref C)
abbrev gR : Str := "rows"
abbrev gL : Str := "laying"
abbrev gD : Str := "desk"
abbrev gW : Str := "row"
abbrev gN : Str := "now"
theorem g_RL : gR ≠ gL := by decide +kernel
theorem g_RD : gR ≠ gD := by decide +kernel
theorem g_RW : gR ≠ gW := by decide +kernel
theorem g_RN : gR ≠ gN := by decide +kernel
theorem g_LD : gL ≠ gD := by decide +kernel
theorem g_LW : gL ≠ gW := by decide +kernel
theorem g_LN : gL ≠ gN := by decide +kernel
theorem g_DW : gD ≠ gW := by decide +kernel
theorem g_DN : gD ≠ gN := by decide +kernel
theorem g_WN : gW ≠ gN := by decide +kernel
structure DrumF (fs : List (Str × V)) (ra la ad : Addr) (here : Option Nat) (now : Int) : Prop where
  len : fs.length ≤ 100
  r : fs.lookup gR = some (.ref ra)
  l : fs.lookup gL = some (.ref la)
  d : fs.lookup gD = some (.ref ad)
  w : fs.lookup gW = some (oV here)
  n : fs.lookup gN = some (.int now)
  o : ∀ x, x ≠ gR → x ≠ gL → x ≠ gD → x ≠ gW → x ≠ gN → fs.lookup x = none
theorem DrumF.putN {fs : List (Str × V)} {ra la ad : Addr} {here : Option Nat} {now z : Int} (h : DrumF fs ra la ad here now) : DrumF (putF gN (.int z) fs) ra la ad here z := by
  refine ⟨by rw [put_len2 h.n]; exact h.len, ?_, ?_, ?_, ?_, ?_, fun x a b c d e => ?_⟩
  · rw [lookup_putF, if_neg g_RN]; exact h.r
  · rw [lookup_putF, if_neg g_LN]; exact h.l
  · rw [lookup_putF, if_neg g_DN]; exact h.d
  · rw [lookup_putF, if_neg g_WN]; exact h.w
  · rw [lookup_putF, if_pos rfl]
  · rw [lookup_putF, if_neg e]; exact h.o x a b c d e
theorem DrumF.putW {fs : List (Str × V)} {ra la ad : Addr} {here z : Option Nat} {now : Int} (h : DrumF fs ra la ad here now) : DrumF (putF gW (oV z) fs) ra la ad z now := by
  refine ⟨by rw [put_len2 h.w]; exact h.len, ?_, ?_, ?_, ?_, ?_, fun x a b c d e => ?_⟩
  · rw [lookup_putF, if_neg g_RW]; exact h.r
  · rw [lookup_putF, if_neg g_LW]; exact h.l
  · rw [lookup_putF, if_neg g_DW]; exact h.d
  · rw [lookup_putF, if_pos rfl]
  · rw [lookup_putF, if_neg g_WN.symm]; exact h.n
  · rw [lookup_putF, if_neg d]; exact h.o x a b c d e
structure DS where
  m : Mach
  here : Option Nat
  now : Int
def readD (y : Lay) (s : DS) (r : Nat) : Int := fb s.now (y.places.getD r 0) y.wide
def goD1 (p : Prog) (y : Lay) (s : DS) (r : Nat) : DS := ⟨(stepM s.m (p.rows.getD r .stop)).1, (stepM s.m (p.rows.getD r .stop)).2, behindF y (p.rows.getD r .stop) (readD y s r)⟩
def turnD (p : Prog) (y : Lay) (s : DS) : DS := match s.here with
  | none => s
  | some r => goD1 p y s r
def startD (p : Prog) : DS := ⟨⟨0, p.ws, []⟩, some 0, 0⟩
def spinS (p : Prog) (y : Lay) : Nat → DS
  | 0 => startD p
  | k + 1 => turnD p y (spinS p y k)
theorem spin_run (p : Prog) (y : Lay) : ∀ k, (spinS p y k).m = (runS p k).m ∧ (spinS p y k).here = (runS p k).here
  | 0 => ⟨rfl, rfl⟩
  | k + 1 => by
    obtain ⟨h1, h2⟩ := spin_run p y k
    show (turnD p y (spinS p y k)).m = (turnS p.rows (runS p k)).m ∧ (turnD p y (spinS p y k)).here = (turnS p.rows (runS p k)).here
    unfold turnD turnS
    rw [h2]
    cases (runS p k).here with
    | none => exact ⟨h1, h2⟩
    | some r =>
      show (stepM (spinS p y k).m _).1 = _ ∧ (stepM (spinS p y k).m _).2 = _
      rw [h1]
      exact ⟨rfl, rfl⟩
theorem spin_end {p : Prog} {y : Lay} {j : Nat} (h : (spinS p y j).here = none) : ∀ k, spinS p y (j + k) = spinS p y j
  | 0 => rfl
  | k + 1 => by
    show turnD p y (spinS p y (j + k)) = _
    rw [spin_end h k]
    unfold turnD
    rw [h]
structure DrumAt (CD C : Addr) (p : Prog) (y : Lay) (H : Hp) (q ad aw as_ : Addr) (s : DS) : Prop where
  ins : ∃ (dx : Addr) (fs : List (Str × V)) (ra la : Addr) (bs : List Addr), H q = some (.ins CD dx fs) ∧ DrumF fs ra la ad s.here s.now ∧ H ra = some (.tup (bs.map V.ref)) ∧ RowsAt H bs p.rows ∧ LayAt H la y
  mach : DeskM C H ad aw as_ s.m
  ne : q ≠ ad
def But4 (q a b c : Addr) (H H' : Hp) : Prop := ∀ x o, x ≠ q → x ≠ a → x ≠ b → x ≠ c → H x = some o → H' x = some o
theorem But4.trans {q a b c : Addr} {H H1 H2 : Hp} (s : But4 q a b c H H1) (t : But4 q a b c H1 H2) : But4 q a b c H H2 := fun x o h0 h1 h2 h3 h => t x o h0 h1 h2 h3 (s x o h0 h1 h2 h3 h)
theorem But4.same {q a b c : Addr} {H H' : Hp} (s : Same1 H H') : But4 q a b c H H' := fun x o _ _ _ _ h => s x o h
theorem But4.but3 {q a b c : Addr} {H H' : Hp} (s : But3 a b c H H') : But4 q a b c H H' := fun x o _ h1 h2 h3 h => s x o h1 h2 h3 h
theorem But4.but {q a b c : Addr} {H H' : Hp} (s : But q H H') : But4 q a b c H H' := fun x o h _ _ _ e => s x o h e
theorem DrumAt.ne2 {CD C : Addr} {p : Prog} {y : Lay} {H : Hp} {q ad aw as_ : Addr} {s : DS} (h : DrumAt CD C p y H q ad aw as_ s) : aw ≠ q ∧ as_ ≠ q := by
  obtain ⟨dx, fs, ra, la, bs, h1, _⟩ := h.ins
  exact ⟨ne_of h.mach.ws h1 (by intro z; cases z), ne_of h.mach.said h1 (by intro z; cases z)⟩
theorem RowsAt.by {H H' : Hp} {bs : List Addr} {rows : List Row} (h : RowsAt H bs rows) (k : ∀ b o, H b = some (.tup o) → H' b = some (.tup o)) : RowsAt H' bs rows := h.kp k
theorem DrumAt.kp4 {CD C : Addr} {p : Prog} {y : Lay} {H : Hp} {q ad aw as_ : Addr} {s : DS} (h : DrumAt CD C p y H q ad aw as_ s) {H' : Hp} (b : But4 q ad aw as_ H H') : Kp H H' := by
  obtain ⟨dx, fs, ra, la, bs, h1, _⟩ := h.ins
  obtain ⟨dx2, fs2, g1, _⟩ := h.mach.ins
  intro x o e
  exact b _ _ (ne_of e h1 (by intro z; cases z)) (ne_of e g1 (by intro z; cases z)) (ne_of e h.mach.ws (by intro z; cases z)) (ne_of e h.mach.said (by intro z; cases z)) e
theorem DrumAt.same {CD C : Addr} {p : Prog} {y : Lay} {H H' : Hp} {q ad aw as_ : Addr} {s : DS} (h : DrumAt CD C p y H q ad aw as_ s) (t : Same1 H H') : DrumAt CD C p y H' q ad aw as_ s := by
  obtain ⟨dx, fs, ra, la, bs, h1, h2, h3, h4, h5⟩ := h.ins
  exact ⟨⟨dx, fs, ra, la, bs, t _ _ h1, h2, t _ _ h3, h4.kp (Kp.same t), h5.kp (Kp.same t)⟩, h.mach.same t, h.ne⟩
end DL
namespace DL
open PySem L2 DLR
abbrev sUInit : Stmt := inClass (top 72) 0
abbrev sUTurn : Stmt := inClass (top 72) 1
abbrev sUBeat : Stmt := inClass (top 72) 2
abbrev sUSays : Stmt := inClass (top 72) 3
abbrev sUOver : Stmt := inClass (top 72) 5
def spUInit (CD C : Addr) : Sp := fun vs H Q _ => ∃ (q dx pa ya : Addr) (p : Prog) (y : Lay), vs = [.ref q, .ref pa, .ref ya] ∧ H q = some (.ins CD dx []) ∧ ProgAt H pa p ∧ Good p ∧ LayAt H ya y ∧ LayOk p y ∧
  ∀ ad aw as_ H', (∀ x o, x ≠ q → H x = some o → H' x = some o) → H ad = none → H aw = none → H as_ = none → DrumAt CD C p y H' q ad aw as_ (startD p) → Q .non H'
def spUTurn (CD C : Addr) : Sp := fun vs H Q _ => ∃ (q ad aw as_ : Addr) (p : Prog) (y : Lay) (s : DS) (r : Nat), vs = [.ref q] ∧ DrumAt CD C p y H q ad aw as_ s ∧ Good p ∧ LayOk p y ∧ MOk s.m ∧ s.m.ws.length = p.ws.length ∧ s.m.said.length ≤ 9000 ∧ s.here = some r ∧ r < p.rows.length ∧
  ∀ t H', But4 q ad aw as_ H H' → H t = none → H' t = some (.tup [nI r, .int (readD y s r)]) → DrumAt CD C p y H' q ad aw as_ (goD1 p y s r) → Q (.ref t) H'
def spUBeat (CD C : Addr) : Sp := fun vs H Q _ => ∃ (q ad aw as_ : Addr) (p : Prog) (y : Lay) (s : DS), vs = [.ref q] ∧ DrumAt CD C p y H q ad aw as_ s ∧ Q (.int s.now) H
def spUOver (CD C : Addr) : Sp := fun vs H Q _ => ∃ (q ad aw as_ : Addr) (p : Prog) (y : Lay) (s : DS), vs = [.ref q] ∧ DrumAt CD C p y H q ad aw as_ s ∧ Q (.bl (decide (s.here = none))) H
def spUSays (CD C : Addr) : Sp := fun vs H Q _ => ∃ (q ad aw as_ : Addr) (p : Prog) (y : Lay) (s : DS), vs = [.ref q] ∧ DrumAt CD C p y H q ad aw as_ s ∧ ∀ l H', Same1 H H' → H l = none → H' l = some (.lst (s.m.said.map V.int)) → Q (.ref l) H'
def spUHolds (CD C : Addr) : Sp := fun vs H Q _ => ∃ (q ad aw as_ : Addr) (p : Prog) (y : Lay) (s : DS), vs = [.ref q] ∧ DrumAt CD C p y H q ad aw as_ s ∧ ∀ l H', Same1 H H' → H l = none → H' l = some (.lst (s.m.ws.map V.int)) → Q (.ref l) H'
theorem oV_non (h : Option Nat) : decide (oV h = V.non) = decide (h = none) := by
  cases h with
  | none => rfl
  | some n => exact (by decide +kernel : decide (V.int 0 = V.non) = false) ▸ (decide_eq_false (by intro z; cases z)).trans (decide_eq_false (by intro z; cases z)).symm
section
variable {P : Program} {w : World} {K : PySem.W.Frag} {mg : Str → Option Value} {base : Heap} {C0 CD : Addr}
theorem scUInit : FnScope ["self", "program", "laying"] ["self", "program", "laying"] (defScope sUInit) := ⟨rfl, rfl, rfl, by decide +kernel, rfl, by decide +kernel, by decide +kernel⟩
theorem scUTurn : FnScope ["self", "number", "row", "wide", "places", "_", "read"] ["self"] (defScope sUTurn) := ⟨rfl, rfl, rfl, by decide +kernel, rfl, by decide +kernel, by decide +kernel⟩
theorem scUBeat : FnScope ["self"] ["self"] (defScope sUBeat) := ⟨rfl, rfl, rfl, by decide +kernel, rfl, by decide +kernel, by decide +kernel⟩
theorem scUSays : FnScope ["self"] ["self"] (defScope sUSays) := ⟨rfl, rfl, rfl, by decide +kernel, rfl, by decide +kernel, by decide +kernel⟩
theorem scUOver : FnScope ["self"] ["self"] (defScope sUOver) := ⟨rfl, rfl, rfl, by decide +kernel, rfl, by decide +kernel, by decide +kernel⟩
theorem ok_ubeat {f : Addr} {fd : FuncData} (F : Fun K "beat" "Drum.beat" sUBeat f fd) (TU : Uk K mg CD) : FnOk P w K mg base CX0 1 f fd ["self"] (spUBeat CD C0) := by
  refine F.ok scUBeat (fun vs H Q E h => ?_) (fun cdv A outer s H vs Q E hr h => ?_)
  · obtain ⟨q, ad, aw, as_, p, y, s, rfl, _⟩ := h
    rfl
  · obtain ⟨q, ad, aw, as_, p, y, s, rfl, hD, k⟩ := h
    obtain ⟨dx, fs, ra, la, bs, h1, h2, h3, h4, h5⟩ := hD.ins
    refine ⟨_, (pss_one (ps_ret (pe_fld (pv 0) rfl))), ?_⟩
    exact ⟨_, rfl, q, _, _, _, _, rfl, h1, TU.cl, TU.nN, h2.n, k⟩
theorem ok_uover {f : Addr} {fd : FuncData} (F : Fun K "is_over" "Drum.is_over" sUOver f fd) (TU : Uk K mg CD) : FnOk P w K mg base CX0 1 f fd ["self"] (spUOver CD C0) := by
  refine F.ok scUOver (fun vs H Q E h => ?_) (fun cdv A outer s H vs Q E hr h => ?_)
  · obtain ⟨q, ad, aw, as_, p, y, s, rfl, _⟩ := h
    rfl
  · obtain ⟨q, ad, aw, as_, p, y, s, rfl, hD, k⟩ := h
    obtain ⟨dx, fs, ra, la, bs, h1, h2, h3, h4, h5⟩ := hD.ins
    refine ⟨_, (pss_one (ps_ret (pe_cmpR op_isN (pe_fld (pv 0) rfl) pe_non (nomark _)))), ?_⟩
    rw [← oV_non] at k
    exact ⟨_, rfl, q, _, _, _, _, rfl, h1, TU.cl, TU.nW, h2.w, rfl, k⟩
theorem ok_usays {f : Addr} {fd : FuncData} (F : Fun K "says" "Drum.says" sUSays f fd) (T : Bt mg) (TC : Dk K mg C0) (TU : Uk K mg CD) : FnOk P w K mg base CX0 1 f fd ["self"] (spUSays CD C0) := by
  refine F.ok scUSays (fun vs H Q E h => ?_) (fun cdv A outer s H vs Q E hr h => ?_)
  · obtain ⟨q, ad, aw, as_, p, y, s, rfl, _⟩ := h
    rfl
  · obtain ⟨q, ad, aw, as_, p, y, s, rfl, hD, k⟩ := h
    obtain ⟨dx, fs, ra, la, bs, h1, h2, h3, h4, h5⟩ := hD.ins
    obtain ⟨dx2, fs2, g1, g2, g3, g4, g5, g9⟩ := hD.mach.get
    refine ⟨_, (pss_one (ps_ret (pe_callTy call_list_of (by rfl) T.list (by decide +kernel) (pa_cons (pe_fld (pe_fld (pv 0) rfl) rfl) pa_nil)))), ?_⟩
    refine ⟨_, rfl, q, _, _, _, _, rfl, h1, TU.cl, TU.nD, h2.d, ad, _, _, _, _, rfl, g1, TC.cl, TC.nS, g5, as_, _, rfl, .inl (SqL.of hD.mach.said), fun l hl => ?_⟩
    refine alloc hl fun H' s' e' => ?_
    exact k l H' s' hl e'
theorem ok_uinit {f : Addr} {fd : FuncData} (F : Fun K "__init__" "Drum.__init__" sUInit f fd) (cCheckProgram : FCheckProgram K mg) (cCheckLaying : FCheckLaying K mg) (T : Bt mg) (TU : Uk K mg CD) (TC : Dk K mg C0) {fi : Addr} {fdi : FuncData} (FI : Fun K "__init__" "Desk.__init__" sDInit fi fdi) (bI : Binds K fdi ["self", "worths"] []) (MK : Mk K C0 fi)
    (GCheckProgram : FnOk P w K mg base CX0 4 cCheckProgram.f cCheckProgram.fd ["program"] spCheckProgram) (GCheckLaying : FnOk P w K mg base CX0 5 cCheckLaying.f cCheckLaying.fd ["program", "laying"] spCheckLaying) : FnOk P w K mg base CX0 6 f fd ["self", "program", "laying"] (spUInit CD C0) := by
  have GI : FnOk P w K mg base CX0 1 fi fdi ["self", "worths"] (spDInit C0) := ok_dinit FI T TC
  refine F.ok scUInit (fun vs H Q E h => ?_) (fun cdv A outer s H vs Q E hr h => ?_)
  · obtain ⟨q, dx, pa, ya, p, y, rfl, _⟩ := h
    rfl
  · obtain ⟨q, dx, pa, ya, p, y, rfl, hq, hP, g, hY, yk, k⟩ := h
    refine ⟨_, (pss_cons (ps_expr (pe_call GCheckProgram (hr.mono (by first | omega | decide)) (by rfl) cCheckProgram.m cCheckProgram.F.kp cCheckProgram.b .nil pass0 (pa_cons (pv 1) pa_nil)))
      (pss_cons (ps_expr (pe_call GCheckLaying (hr.mono (by first | omega | decide)) (by rfl) cCheckLaying.m cCheckLaying.F.kp cCheckLaying.b .nil pass0 (pa_cons (pv 1) (pa_cons (pv 2) pa_nil))))
      (pss_cons (ps_fld (pv 0) (pe_ix ix_tup (pv 1) pe_int (fun _ _ => rfl)) rfl)
      (pss_cons (ps_fld (pv 0) (pv 2) rfl)
      (pss_cons (ps_fld (pv 0) (pe_make MK GI (hr.mono (by first | omega | decide)) (by rfl) TC.m bI .nil pass0 (pa_cons (pe_callTy call_list_of (by rfl) T.list (by decide +kernel) (pa_cons (pe_ix ix_tup (pv 1) pe_int (fun _ _ => rfl)) pa_nil)) pa_nil)) rfl)
      (pss_cons (ps_fld (pv 0) pe_int rfl)
      (pss_one (ps_fld (pv 0) pe_int rfl)))))))), ?_⟩
    refine ⟨_, rfl, pa, p, rfl, hP, g, fun H1 s1 => ?_⟩
    refine ⟨_, rfl, _, rfl, pa, ya, p, y, rfl, hP.kp (Kp.same s1), g, hY.kp (Kp.same s1), yk, fun H2 s2 => ?_⟩
    have S2 := s1.trans s2
    obtain ⟨wa, ra, bs, hpa, hwa, hra, hR⟩ := hP.kp (Kp.same S2)
    have hY2 := hY.kp (Kp.same S2)
    have hq2 := S2 _ _ hq
    refine ⟨_, rfl, pa, _, _, _, rfl, rfl, SqT.of hpa, at1, _, rfl, q, CD, dx, _, rfl, hq2, TU.cl, TU.nR, (by show 0 < 1000; decide), ?_⟩
    refine change fun H3 b3 e3 => ?_
    refine ⟨_, rfl, _, rfl, q, CD, dx, _, rfl, e3, TU.cl, TU.nL, (by show 1 < 1000; decide), ?_⟩
    refine change fun H4 b4 e4 => ?_
    have B4 := b3.trans b4
    have kq : ∀ {H H' : Hp}, But q H H' → (∃ o, H q = some o ∧ ∀ u, o ≠ .tup u) → Kp H H' := fun b ⟨o, ho, n⟩ x u e => b _ _ (ne_of e ho (by intro z; exact n _ z.symm)) e
    have K4 : Kp H2 H4 := kq B4 ⟨_, hq2, fun u z => by cases z⟩
    refine ⟨_, rfl, pa, _, _, _, rfl, rfl, SqT.of (K4 _ _ hpa), at0, wa, _, rfl, .inr (SqT.of (K4 _ _ hwa)), fun aw naw => ?_⟩
    refine alloc naw fun H4a s4a e4a => ?_
    refine fun ad dd had hdd hne => ?_
    have nqa : q ≠ ad := ne_of_none (s4a _ _ e4) had
    have nqd : q ≠ dd := ne_of_none (s4a _ _ e4) hdd
    refine ⟨ad, dd, _, rfl, upd_same, fun as_ fs0 H5 b5 has i1 i2 i3 i4 i5 i6 i7 => ⟨rfl, ?_⟩⟩
    have nas : H4a as_ = none := upd_none (upd_none has)
    have S5a : Same1 H4a H5 := fun x o e => b5 x o (ne_of_none e had) (by rw [upd_ne (ne_of_none e had), upd_ne (ne_of_none e hdd)]; exact e)
    have S5 : Same1 H4 H5 := s4a.trans S5a
    have M5 : DeskM C0 H5 ad aw as_ ⟨0, p.ws, []⟩ := ⟨⟨dd, fs0, i1, i2, i3, i4, i5, i6⟩, S5a _ _ e4a, i7, ne_of_none e4a nas⟩
    have e5 := S5 _ _ e4
    refine ⟨_, rfl, q, CD, dx, _, rfl, e5, TU.cl, TU.nD, (by show 2 < 1000; decide), ?_⟩
    refine change fun H6 b6 e6 => ?_
    refine ⟨_, rfl, q, CD, dx, _, rfl, e6, TU.cl, TU.nW, (by show 3 < 1000; decide), ?_⟩
    refine change fun H7 b7 e7 => ?_
    refine ⟨_, rfl, q, CD, dx, _, rfl, e7, TU.cl, TU.nN, (by show 4 < 1000; decide), ?_⟩
    refine change fun H8 b8 e8 => ?_
    have B8 : But q H5 H8 := (b6.trans b7).trans b8
    have K8 : Kp H5 H8 := kq B8 ⟨_, e5, fun u z => by cases z⟩
    have K28 : Kp H2 H8 := K4.trans ((Kp.same S5).trans K8)
    obtain ⟨dx2, fs2, g1, g2⟩ := M5.ins
    have n1 : aw ≠ q := (ne_of_none e4 naw).symm
    have n2 : as_ ≠ q := (ne_of_none (s4a _ _ e4) nas).symm
    have fr : ∀ {a : Addr}, H4 a = none → H a = none := fun h => s1.free (s2.free (b3.free e3 (b4.free e4 h)))
    refine k ad aw as_ H8 (fun x o n e => B8 _ _ n (S5 _ _ (B4 _ _ n (S2 _ _ e)))) (fr (s4a.free had)) (fr naw) (fr (s4a.free nas)) ⟨⟨dx, _, ra, ya, bs, e8, ?_, K28 _ _ hra, hR.kp K28, hY2.kp K28⟩, ⟨⟨dx2, fs2, B8 _ _ nqa.symm g1, g2⟩, B8 _ _ n1 M5.ws, B8 _ _ n2 M5.said, M5.ne⟩, nqa⟩
    refine ⟨?_, ?_, ?_, ?_, ?_, ?_, fun x a b c d e => ?_⟩
    · have h1 := putF_le (fs := putF gW (.int 0) (putF gD (.ref ad) (putF gL (.ref ya) (putF gR (.ref ra) [])))) (f := gN) (v := .int 0)
      have h2 := putF_le (fs := putF gD (.ref ad) (putF gL (.ref ya) (putF gR (.ref ra) []))) (f := gW) (v := .int 0)
      have h3 := putF_le (fs := putF gL (.ref ya) (putF gR (.ref ra) [])) (f := gD) (v := .ref ad)
      have h4 := putF_le (fs := putF gR (.ref ra) []) (f := gL) (v := .ref ya)
      have h5 := putF_le (fs := []) (f := gR) (v := .ref ra)
      have h6 : ([] : List (Str × V)).length = 0 := rfl
      exact Nat.le_trans h1 (by omega)
    · rw [lookup_putF, if_neg g_RN, lookup_putF, if_neg g_RW, lookup_putF, if_neg g_RD, lookup_putF, if_neg g_RL, lookup_putF, if_pos rfl]
    · rw [lookup_putF, if_neg g_LN, lookup_putF, if_neg g_LW, lookup_putF, if_neg g_LD, lookup_putF, if_pos rfl]
    · rw [lookup_putF, if_neg g_DN, lookup_putF, if_neg g_DW, lookup_putF, if_pos rfl]
    · rw [lookup_putF, if_neg g_WN, lookup_putF, if_pos rfl]; rfl
    · rw [lookup_putF, if_pos rfl]; rfl
    · rw [lookup_putF, if_neg e, lookup_putF, if_neg d, lookup_putF, if_neg c, lookup_putF, if_neg b, lookup_putF, if_neg a]
      rfl
end
structure UkM (K : Frg) (mg : Str → Option Value) where
  C : Addr
  d : Uk K mg C
  fi : Addr
  fdi : FuncData
  FI : Fun K "__init__" "Drum.__init__" sUInit fi fdi
  bI : Binds K fdi ["self", "program", "laying"] []
  mkd : Mk K C fi
  ft : Addr
  fdt : FuncData
  FT : Fun K "turn" "Drum.turn" sUTurn ft fdt
  bT : Binds K fdt ["self"] []
  mT : Meth K C "turn" ft
  fb : Addr
  fdb : FuncData
  FB : Fun K "beat" "Drum.beat" sUBeat fb fdb
  bB : Binds K fdb ["self"] []
  mB : Meth K C "beat" fb
  fs : Addr
  fds : FuncData
  FS : Fun K "says" "Drum.says" sUSays fs fds
  bS : Binds K fds ["self"] []
  mS : Meth K C "says" fs
  fo : Addr
  fdo : FuncData
  FO : Fun K "is_over" "Drum.is_over" sUOver fo fdo
  bO : Binds K fdo ["self"] []
  mO : Meth K C "is_over" fo
theorem DrumF.meth {fs : List (Str × V)} {ra la ad : Addr} {here : Option Nat} {now : Int} (h : DrumF fs ra la ad here now) : fs.lookup ("turn" : Str) = none ∧ fs.lookup ("beat" : Str) = none ∧ fs.lookup ("says" : Str) = none ∧ fs.lookup ("is_over" : Str) = none ∧ fs.lookup ("holds" : Str) = none :=
  ⟨h.o _ (by decide +kernel) (by decide +kernel) (by decide +kernel) (by decide +kernel) (by decide +kernel), h.o _ (by decide +kernel) (by decide +kernel) (by decide +kernel) (by decide +kernel) (by decide +kernel),
   h.o _ (by decide +kernel) (by decide +kernel) (by decide +kernel) (by decide +kernel) (by decide +kernel), h.o _ (by decide +kernel) (by decide +kernel) (by decide +kernel) (by decide +kernel) (by decide +kernel),
   h.o _ (by decide +kernel) (by decide +kernel) (by decide +kernel) (by decide +kernel) (by decide +kernel)⟩
end DL
namespace DLR
open PySem PySem.Spec PyProof.Rows L2
/-! ### how often a truth stands in a list; what is never asked -/
def rCntB (K : PySem.W.Frag) : V → List V → Hp → VK → Prop := fun x xs H Q => ∃ (p : Addr) (bs : List Bool) (b : Bool), x = .ref p ∧ xs = [.bl b] ∧ SqL K H p (bs.map V.bl) ∧ Q (.int (bs.count b : Nat)) H
theorem flat_bl : ∀ bs : List Bool, (bs.map V.bl).all flatV = true
  | [] => rfl
  | _ :: bs => flat_bl bs
theorem count_bl (b : Bool) : ∀ {bs : List Bool} {us : List Value}, Vals (bs.map V.bl) us → us.countP (eqU (.bl b)) = bs.count b
  | [], _, .nil => rfl
  | c :: bs, u :: us, .cons r t => by
    rw [List.countP_cons, count_bl b t, eqU_of r rfl, List.count_cons]
    rfl
section
variable {X : Cx}
theorem mt_countB : MtR X "list.count" (rCntB X.K) := by
  intro pins s σ H x xs v us Q I rx rxs h
  obtain ⟨p, bs, b, rfl, rfl, hs, q⟩ := h
  cases rx
  obtain ⟨u, rfl, ru⟩ := rxs.one
  obtain ⟨its, rv, ⟨⟨cls, dd, data, sl⟩, n, ho, hc, hdn, hd⟩, hlen⟩ := I.list hs
  simp only at hc hd
  subst hc hd
  refine call_meets PySem.F.slot_list_count ⟨_, ho, rfl⟩ PySem.F.entry_list_count (PySem.F.args_list_count_2 _ _)
    (SeqAt.list_countAt p its.toArray n dd sl u (eqU (.bl b))) ⟨ho, fun y hy => mem_eqAt ru rfl rv (flat_bl bs) y (by simpa using hy), ?_⟩
  refine ⟨.int (bs.count b : Nat), H, I.tok _, ⟨s.toks, ?_⟩, q⟩
  show Value.int ((its.toArray.toList.countP (eqU (.bl b)) : Nat) : Int) s.toks = Value.int ((bs.count b : Nat) : Int) s.toks
  rw [show its.toArray.toList = its from rfl, count_bl b rv]
def tNo : TE := fun _ _ _ => False
theorem pe_no {e : Expr} : PE X e tNo := ⟨fun _ _ _ _ _ _ h => h.elim⟩
end
end DLR
namespace DL
open PySem L2 DLR LamX
/-! ### what a work told, or as what it was refused -/
structure Er (mg : Str → Option Value) where
  BP : Addr
  BL : Addr
  BF : Addr
  BG : Addr
  BE : Addr
  TM : Addr
  OV : Addr
  BT : Addr
  DE : Addr
  mBP : mg "BadProgram" = some (.ref BP)
  mBL : mg "BadLaying" = some (.ref BL)
  mBF : mg "BadFuel" = some (.ref BF)
  mBG : mg "BadGoes" = some (.ref BG)
  mBE : mg "BadPaper" = some (.ref BE)
  mTM : mg "TooMany" = some (.ref TM)
  mOV : mg "Over" = some (.ref OV)
  mBT : mg "BadText" = some (.ref BT)
  mDE : mg "DrumError" = some (.ref DE)
  VE : mg "ValueError" = none
def wordJ : Nat → Str
  | 0 => "program"
  | 1 => "laying"
  | 2 => "fuel"
  | 3 => "goes"
  | 4 => "paper"
  | 5 => "many"
  | 6 => "over"
  | _ => "text"
structure Knd (K : Frg) {mg : Str → Option Value} (E : Er mg) (D : Addr) (j : Nat) : Prop where
  ex : ExcC K D
  one : PySem.W.exmOne K (.ref D) (.ref E.DE) = some true
  ve : PySem.W.kitOne K (.ref D) (.type "ValueError") = some true
  k0 : PySem.W.kitOne K (.ref D) (.ref E.BP) = some (decide (0 = j))
  k1 : PySem.W.kitOne K (.ref D) (.ref E.BL) = some (decide (1 = j))
  k2 : PySem.W.kitOne K (.ref D) (.ref E.BF) = some (decide (2 = j))
  k3 : PySem.W.kitOne K (.ref D) (.ref E.BG) = some (decide (3 = j))
  k4 : PySem.W.kitOne K (.ref D) (.ref E.BE) = some (decide (4 = j))
  k5 : PySem.W.kitOne K (.ref D) (.ref E.TM) = some (decide (5 = j))
  k6 : PySem.W.kitOne K (.ref D) (.ref E.OV) = some (decide (6 = j))
  k7 : PySem.W.kitOne K (.ref D) (.ref E.BT) = some (decide (7 = j))
  j : j = 2 ∨ j = 3 ∨ j = 5 ∨ j = 6
abbrev sTold : Stmt := top 112
abbrev nTold : List Str := ["_law_work", "_law_e", "_law_kinds", "_law_word"]
theorem scTold : FnScope nTold ["_law_work"] (defScope sTold) := ⟨rfl, rfl, rfl, by decide +kernel, rfl, by decide +kernel, by decide +kernel⟩
def suiteOf : Stmt → List Stmt
  | .Try _ [.ExceptHandler _ _ b _] _ _ _ => b
  | _ => []
abbrev toldSuite : List Stmt := suiteOf ((defBody sTold).getD 0 (.Pass ⟨0, 0, 0, 0⟩))
theorem at_kinds {j : Nat} (h : j = 2 ∨ j = 3 ∨ j = 5 ∨ j = 6) : ([decide (0 = j), decide (1 = j), decide (2 = j), decide (3 = j)] ++ [decide (4 = j), decide (5 = j), decide (6 = j), decide (7 = j)]).count true = 1 ∧
    atI [V.str "program", V.str "laying", V.str "fuel", V.str "goes", V.str "paper", V.str "many", V.str "over", V.str "text"] (j : Int) = some (.str (wordJ j)) ∧
    ((([decide (0 = j), decide (1 = j), decide (2 = j), decide (3 = j)] ++ [decide (4 = j), decide (5 = j), decide (6 = j), decide (7 = j)] : List Bool).map V.bl)[j]? = some (.bl true)) ∧
    (∀ (m : Nat) (z' : V), m < j → (([decide (0 = j), decide (1 = j), decide (2 = j), decide (3 = j)] ++ [decide (4 = j), decide (5 = j), decide (6 = j), decide (7 = j)] : List Bool).map V.bl)[m]? = some z' → eqV z' (.bl true) = false) ∧
    decide (V.str (wordJ j) = V.str "program") = false ∧ decide (V.str (wordJ j) = V.str "laying") = false ∧ decide (V.str (wordJ j) = V.str "paper") = false ∧ decide (V.str (wordJ j) = V.str "text") = false := by
  have low : ∀ {l : List V} {j : Nat}, (∀ i, i < j → ∃ z, l[i]? = some z ∧ eqV z (.bl true) = false) → ∀ (m : Nat) (z' : V), m < j → l[m]? = some z' → eqV z' (.bl true) = false := by
    intro l j h m z' hm e
    obtain ⟨z, h1, h2⟩ := h m hm
    rw [h1] at e
    rw [← Option.some.inj e]
    exact h2
  rcases h with rfl | rfl | rfl | rfl
  · refine ⟨by decide +kernel, rfl, rfl, low fun i hi => ?_, by decide +kernel, by decide +kernel, by decide +kernel, by decide +kernel⟩
    match i, hi with
    | 0, _ => exact ⟨_, rfl, rfl⟩
    | 1, _ => exact ⟨_, rfl, rfl⟩
  · refine ⟨by decide +kernel, rfl, rfl, low fun i hi => ?_, by decide +kernel, by decide +kernel, by decide +kernel, by decide +kernel⟩
    match i, hi with
    | 0, _ => exact ⟨_, rfl, rfl⟩
    | 1, _ => exact ⟨_, rfl, rfl⟩
    | 2, _ => exact ⟨_, rfl, rfl⟩
  · refine ⟨by decide +kernel, rfl, rfl, low fun i hi => ?_, by decide +kernel, by decide +kernel, by decide +kernel, by decide +kernel⟩
    match i, hi with
    | 0, _ => exact ⟨_, rfl, rfl⟩
    | 1, _ => exact ⟨_, rfl, rfl⟩
    | 2, _ => exact ⟨_, rfl, rfl⟩
    | 3, _ => exact ⟨_, rfl, rfl⟩
    | 4, _ => exact ⟨_, rfl, rfl⟩
  · refine ⟨by decide +kernel, rfl, rfl, low fun i hi => ?_, by decide +kernel, by decide +kernel, by decide +kernel, by decide +kernel⟩
    match i, hi with
    | 0, _ => exact ⟨_, rfl, rfl⟩
    | 1, _ => exact ⟨_, rfl, rfl⟩
    | 2, _ => exact ⟨_, rfl, rfl⟩
    | 3, _ => exact ⟨_, rfl, rfl⟩
    | 4, _ => exact ⟨_, rfl, rfl⟩
    | 5, _ => exact ⟨_, rfl, rfl⟩
theorem relRef {C : Addr} : ∀ u, RelV (.ref C) u → u = .ref C := fun u h => by cases h; rfl
theorem relTy {C : String} : ∀ u, RelV (.ty C) u → u = .type C := fun u h => by cases h; rfl
section
variable {X : Cx}
theorem told_suite (E : Er X.mg) (T : Bt X.mg) {g : Addr} {cdg : Value} {s : Shared} {H0 : Hp} {CX : CXT} {E0 : XK} {j : Nat} {D a : Addr} {oe : Obj} {pn : List (Addr × Obj)} (kn : Knd X.K E D j) (hz : Zc (.ref D) none oe) (hf : ∃ vs, oe.data = .fields vs) :
    ∃ t, PSs ((cxOf CX X.prog X.w X.K X.mg X.base nTold "_law_told" (defScope sTold) g cdg X.A X.stack s H0 E0).nox.suite a ((a, oe) :: pn)) toldSuite t ∧
      ∀ (D : Ends) (σ : L2.St) (H : Hp), σ.length = 4 → σ[1]? = some (some (.ref a)) → (∀ t' H', Same1 H H' → H' t' = some (.tup [.str (wordJ j)]) → D.rt (.ref t') H') → t D σ H := by
  refine ⟨_, (pss_cons (ps_set (i := 2) scTold.nd rfl (Or.inl rfl) (pe_lst (pa_cons (pe_callB (call_isE kn.ex hz hf) (by rfl) T.isinstance (by decide +kernel) (pa_cons (pv 1) (pa_cons (pe_glob (v := .ref E.BP) rfl E.mBP rfl) pa_nil))) (pa_cons (pe_callB (call_isE kn.ex hz hf) (by rfl) T.isinstance (by decide +kernel) (pa_cons (pv 1) (pa_cons (pe_glob (v := .ref E.BL) rfl E.mBL rfl) pa_nil))) (pa_cons (pe_callB (call_isE kn.ex hz hf) (by rfl) T.isinstance (by decide +kernel) (pa_cons (pv 1) (pa_cons (pe_glob (v := .ref E.BF) rfl E.mBF rfl) pa_nil))) (pa_cons (pe_callB (call_isE kn.ex hz hf) (by rfl) T.isinstance (by decide +kernel) (pa_cons (pv 1) (pa_cons (pe_glob (v := .ref E.BG) rfl E.mBG rfl) pa_nil))) pa_nil))))))
      (pss_cons (ps_set (i := 2) scTold.nd rfl (Or.inl rfl) (pe_op op_cat (pv 2) (pe_lst (pa_cons (pe_callB (call_isE kn.ex hz hf) (by rfl) T.isinstance (by decide +kernel) (pa_cons (pv 1) (pa_cons (pe_glob (v := .ref E.BE) rfl E.mBE rfl) pa_nil))) (pa_cons (pe_callB (call_isE kn.ex hz hf) (by rfl) T.isinstance (by decide +kernel) (pa_cons (pv 1) (pa_cons (pe_glob (v := .ref E.TM) rfl E.mTM rfl) pa_nil))) (pa_cons (pe_callB (call_isE kn.ex hz hf) (by rfl) T.isinstance (by decide +kernel) (pa_cons (pv 1) (pa_cons (pe_glob (v := .ref E.OV) rfl E.mOV rfl) pa_nil))) (pa_cons (pe_callB (call_isE kn.ex hz hf) (by rfl) T.isinstance (by decide +kernel) (pa_cons (pv 1) (pa_cons (pe_glob (v := .ref E.BT) rfl E.mBT rfl) pa_nil))) pa_nil)))))))
      (pss_cons (ps_if (PW.pt (pw_or (pt_cmpR op_ne (pe_bm PySem.F.plainAttrs_list PySem.F.slot_list_count PySem.F.type_list_count mt_countB (pv 2) (pa_cons pe_bl pa_nil)) pe_int (nomark _)) (pw_or1 (pt_not (pt_val (pe_callB (call_isE kn.ex hz hf) (by rfl) T.isinstance (by decide +kernel) (pa_cons (pv 1) (pa_cons (pe_bltn (v := .ty "ValueError") (by rfl) E.VE (by decide +kernel) rfl) pa_nil))))))))
          (pss_one ps_never)
          pss_nil)
      (pss_cons (ps_set (i := 3) scTold.nd rfl (Or.inl rfl) (pe_ix ix_list (pe_lst (pa_cons pe_str (pa_cons pe_str (pa_cons pe_str (pa_cons pe_str (pa_cons pe_str (pa_cons pe_str (pa_cons pe_str (pa_cons pe_str pa_nil))))))))) (pe_bm PySem.F.plainAttrs_list PySem.F.slot_list_index PySem.F.type_list_index mt_index (pv 2) (pa_cons pe_bl pa_nil)) (fun _ _ => rfl)))
      (pss_cons (ps_if (pt_cmpR op_eq (pv 3) pe_str (nomark _))
          (pss_one ps_never)
          pss_nil)
      (pss_cons (ps_if (pt_cmpR op_eq (pv 3) pe_str (nomark _))
          (pss_one ps_never)
          pss_nil)
      (pss_cons (ps_if (pt_cmpR op_eq (pv 3) pe_str (nomark _))
          (pss_one ps_never)
          pss_nil)
      (pss_one (ps_ret (pe_ifExp (pt_cmpR op_eq (pv 3) pe_str (nomark _)) pe_no (pe_tup (pa_cons (pv 3) pa_nil)))))))))))), ?_⟩
  intro D' σ H hl h1 hq
  obtain ⟨x0, x1, x2, x3, rfl⟩ : ∃ x0 x1 x2 x3, σ = [x0, x1, x2, x3] := by
    match σ, hl with
    | [x0, x1, x2, x3], _ => exact ⟨x0, x1, x2, x3, rfl⟩
  have h1 : x1 = some (.ref a) := Option.some.inj h1
  subst h1
  obtain ⟨q1, q2, q3, q4, q5, q6, q7, q8⟩ := at_kinds kn.j
  refine ⟨_, rfl, .ref E.BP, .ref E.BP, _, rfl, relRef, kn.k0, _, rfl, .ref E.BL, .ref E.BL, _, rfl, relRef, kn.k1, _, rfl, .ref E.BF, .ref E.BF, _, rfl, relRef, kn.k2, _, rfl, .ref E.BG, .ref E.BG, _, rfl, relRef, kn.k3, (by show 4 ≤ sizeLine; decide), fun l1 hl1 => ?_⟩
  refine alloc hl1 fun H1 s1 e1 => ?_
  refine ⟨_, rfl, _, rfl, .ref E.BE, .ref E.BE, _, rfl, relRef, kn.k4, _, rfl, .ref E.TM, .ref E.TM, _, rfl, relRef, kn.k5, _, rfl, .ref E.OV, .ref E.OV, _, rfl, relRef, kn.k6, _, rfl, .ref E.BT, .ref E.BT, _, rfl, relRef, kn.k7, (by show 4 ≤ sizeLine; decide), fun l2 hl2 => ?_⟩
  refine alloc hl2 fun H2 s2 e2 => ?_
  refine ⟨l1, l2, _, _, rfl, rfl, s2 _ _ e1, e2, (by show 8 ≤ sizeLine; decide), fun l3 hl3 => ?_⟩
  refine alloc hl3 fun H3 s3 e3 => ?_
  have e3 : H3 l3 = some (.lst (([decide (0 = j), decide (1 = j), decide (2 = j), decide (3 = j)] ++ [decide (4 = j), decide (5 = j), decide (6 = j), decide (7 = j)] : List Bool).map V.bl)) := e3
  generalize hk : ([decide (0 = j), decide (1 = j), decide (2 = j), decide (3 = j)] ++ [decide (4 = j), decide (5 = j), decide (6 = j), decide (7 = j)] : List Bool) = ks at q1 q3 q4 e3
  refine ⟨_, rfl, .inl ⟨rfl, _, SqL.of e3⟩, l3, ks, true, rfl, rfl, SqL.of e3, ?_⟩
  rw [q1]
  refine ⟨rfl, _, rfl, ?_⟩
  rw [show (!decide (V.int ((1 : Nat) : Int) = V.int 1)) = false by decide +kernel]
  refine iteF ⟨_, rfl, .ty "ValueError", .type "ValueError", true, rfl, relTy, kn.ve, _, rfl, ?_⟩
  refine iteF ?_
  refine ⟨(by show 8 ≤ sizeLine; decide), fun l4 hl4 => ?_⟩
  refine alloc hl4 fun H4 s4 e4 => ?_
  refine ⟨_, rfl, .inl ⟨rfl, _, SqL.of (s4 _ _ e3)⟩, l3, _, _, j, _, rfl, rfl, SqL.of (s4 _ _ e3), rfl, flat_bl ks, q3, rfl, q4, ?_⟩
  refine ⟨l4, _, _, _, rfl, rfl, SqL.of e4, q2, ?_⟩
  refine ⟨_, rfl, rfl, _, rfl, ?_⟩
  rw [q5]
  refine iteF ⟨_, rfl, rfl, _, rfl, ?_⟩
  rw [q6]
  refine iteF ⟨_, rfl, rfl, _, rfl, ?_⟩
  rw [q7]
  refine iteF ⟨_, rfl, rfl, _, rfl, ?_⟩
  rw [q8]
  refine iteF ⟨_, rfl, (by show 1 ≤ sizeLine; decide), fun t ht => ?_⟩
  refine alloc ht fun H5 s5 e5 => ?_
  exact hq t H5 ((((s1.trans s2).trans s3).trans s4).trans s5) e5
end
end DL
namespace DL
open PySem PySem.Spec PyProof.Rows L2 DLR LamX
def TTd (K : Frg) {mg : Str → Option Value} (E : Er mg) : (XK → Hp → VK → Prop) → Hp → VK → Prop := fun tl H Q =>
  tl (fun cls d H' => ∃ (D : Addr) (j : Nat), Knd K E D j ∧ cls = .ref D ∧ d = none ∧ ∀ t H'', Same1 H' H'' → H'' t = some (.tup [.str (wordJ j)]) → Q (.ref t) H'') H Q
section
variable {X : Cx}
def tsTold (K : Frg) {mg : Str → Option Value} (E : Er mg) : Addr → Value → Option Addr → TS := fun a cls d D σ H =>
  σ.length = 4 → σ[1]? = some (some (.ref a)) ∧ ∃ (D0 : Addr) (j : Nat), Knd K E D0 j ∧ cls = .ref D0 ∧ d = none ∧ ∀ t H'', Same1 H H'' → H'' t = some (.tup [.str (wordJ j)]) → D.rt (.ref t) H''
theorem told_ok (E : Er X.mg) (T : Bt X.mg) {g : Addr} {cdg : Value} {q : Str} : GivesTo X nTold "_law_told" (defScope sTold) g cdg (defBody sTold) "_law_work" q (TTd X.K E) := by
  intro f c' s H Q tl act hc h
  refine ⟨_, pss_one (ps_try_as (X := (cxOf C8.CX0 X.prog X.w X.K X.mg X.base nTold "_law_told" (defScope sTold) g cdg X.A X.stack s H C8.E0).nox) (c := .ref E.DE) (i := 1)
      (tb := fun W D σ H => ∃ Ech : XK, (∀ cls d σ' H', Ech cls d H' → W cls d σ' H') ∧ σ[0]? = some (some (.ref f)) ∧ H c' = some (CodeO c' q) ∧ tl Ech H D.rt)
      (ts := tsTold X.K E) rfl rfl scTold.nd rfl rfl ⟨by rfl, by decide, .inl E.mDE⟩ LamX.takes0 (fun W pn xe tk _ => ?_) (fun a oe cls d pn hz hf => ?_)), ?_⟩
  · refine ⟨fun pins s' σ H' D I h' => ?_⟩
    obtain ⟨Ech, hW, h1, h2, h3⟩ := h'
    exact (pss_one (ps_ret (act W pn xe Ech _ _ tk hW))).run pins s' σ H' D I ⟨h1, h2, h3⟩
  · refine ⟨fun pins s' σ H' D I h' => ?_⟩
    have hl : σ.length = 4 := I.len
    obtain ⟨h1, D0, j, kn, rfl, rfl, hq⟩ := h' hl
    obtain ⟨t, ht, hr⟩ := told_suite (X := X) (g := g) (cdg := cdg) (s := s) (H0 := H) (CX := C8.CX0) (E0 := C8.E0) (a := a) (pn := pn) E T kn hz hf
    exact ht.run pins s' σ H' D I (hr D σ H' hl h1 hq)
  · refine ⟨fun cls d H' => ∃ (D : Addr) (j : Nat), Knd X.K E D j ∧ cls = .ref D ∧ d = none ∧ ∀ t H'', Same1 H' H'' → H'' t = some (.tup [.str (wordJ j)]) → Q (.ref t) H'', ?_, rfl, hc, h⟩
    rintro cls d σ' H' ⟨D, j, kn, rfl, rfl, hq⟩
    refine ⟨true, kn.one, fun _ a ha => ?_, fun z => by cases z⟩
    intro hl
    rw [List.length_set] at hl
    refine ⟨?_, D, j, kn, rfl, rfl, hq⟩
    rw [List.getElem?_set_self (by omega)]
end
structure OvK (K : Frg) (D : Addr) : Prop where
  x : PySem.W.excIn K D [.type "ValueError", .type "Exception", .type "BaseException", .type "object"] "ValueError.__new__" = true
  k : PySem.W.keepIn K (.ref D) = true
  b : PySem.W.subIn K (.ref D) (.type "BaseException") = some true
  t : PySem.W.typeIn K (.ref D) = some (.type "type")
end DL
namespace DLR
open PySem PySem.Spec PyProof.Rows L2 DL
/-! ### zip(a list, a tuple) -/
def ItzN (K : PySem.W.Frag) (a b : Addr) : It :=
  ⟨fun i H => ∃ (xs ys : List V) (x y : V), SqL K H a xs ∧ SqT K H b ys ∧ xs[i]? = some x ∧ ys[i]? = some y,
   fun i H v H' => ∃ T x y, v = .ref T ∧ H T = none ∧ H' = upd H T (.tup [x, y]) ∧ (∀ zs, SqL K H a zs → zs[i]? = some x) ∧ ∀ zs, SqT K H b zs → zs[i]? = some y,
   fun i H => ∃ xs ys : List V, SqL K H a xs ∧ SqT K H b ys ∧ xs.length = i ∧ ys.length = i⟩
structure ZnAt (z TI TO i1 i2 a b : Addr) (i : Nat) (h : Heap) : Prop where
  z : IsZip h z TI TO .none
  ti : IsTupOf2 h TI (.ref i1) (.ref i2)
  to : ∃ x y, IsTupOf2 h TO x y
  u1 : h.IsListIter i1 a i
  u2 : h.IsTupleIter i2 b i
theorem fiveN {c z TI TO i1 i2 : Addr} (h : c ∈ [z, TI, TO, i1, i2]) : c = z ∨ c = TI ∨ c = TO ∨ c = i1 ∨ c = i2 := by simpa using h
theorem turn_zipN {P : Program} {w : World} {K : PySem.W.Frag} {elts : List Expr} {kk : Nat} {tpos : Pos} {a b z TI TO i1 i2 : Addr} (S : ZipSep2 z TI TO i1 i2 [i1, a] [i2, b]) (n1 : a ≠ i1) (n2 : b ≠ i2) :
    Turn P w K (.Tuple elts kk tpos) (ItzN K a b) [z, TI, TO, i1, i2] z (ZnAt z TI TO i1 i2 a b) where
  mem := by simp
  obj := fun i h st c hc => by
    obtain ⟨hz, hTI, ⟨x, y, hTO⟩, ⟨o1, e1, _, d1⟩, ⟨o2, e2, _, d2⟩⟩ := st
    rcases fiveN hc with rfl | rfl | rfl | rfl | rfl
    · exact ⟨_, hz, fun v q => nomatch q⟩
    · exact ⟨_, hTI, fun v q => nomatch q⟩
    · exact ⟨_, hTO, fun v q => nomatch q⟩
    · exact ⟨o1, e1, fun v q => by rw [d1] at q; cases q⟩
    · exact ⟨o2, e2, fun v q => by rw [d2] at q; cases q⟩
  keep := fun i h h' st k => by
    obtain ⟨hz, hTI, ⟨x, y, hTO⟩, h1, h2⟩ := st
    exact ⟨k z (by simp) _ hz, k TI (by simp) _ hTI, ⟨x, y, k TO (by simp) _ hTO⟩, h1.at fun o q => k i1 (by simp) o q, h2.at fun o q => k i2 (by simp) o q⟩
  item := by
    intro X hP hw hK hc i pins s σ H E I hf st hg
    subst hP hw hK
    obtain ⟨hz, hTI, ⟨x0, y0, hTO⟩, h1, h2⟩ := st
    obtain ⟨xs, ys, x, y, qx, qy, hx, hy⟩ := hg
    obtain ⟨its, rv, p, _⟩ := I.list qx
    obtain ⟨jts, rw', p', _⟩ := I.tuple qy
    obtain ⟨u, hu, ru⟩ := rv.get hx
    obtain ⟨v, hv, rv'⟩ := rw'.get hy
    have zl : z < s.heap.objs.size := Heap.lt_size hz
    have lu : i < its.toArray.size := by simpa using (List.getElem?_eq_some_iff.mp hu).1
    have lv : i < jts.toArray.size := by simpa using (List.getElem?_eq_some_iff.mp hv).1
    refine wpAny_pyNext_zipD2_item S (Draws.list (A := X.A.in1) (I.ok.hd hc) i1 a n1 its.toArray) (Draws.tuple (A := X.A.in1) (I.ok.hd hc) i2 b n2 jts.toArray) hz hTI hTO ⟨h1, p.isList⟩ ⟨h2, p'⟩ lu lv fun y1 y2 h' tk g1 g2 hz' hTO' h1' h2' hT hsz hk => ?_
    have e1 : y1 = u := by
      have q : its[i]? = some y1 := by simpa using g1
      rw [hu] at q
      exact (Option.some.inj q).symm
    have e2 : y2 = v := by
      have q : jts[i]? = some y2 := by simpa using g2
      rw [hv] at q
      exact (Option.some.inj q).symm
    subst e1 e2
    refine ⟨_, rfl, wpAny_letOwnedTupleGo_zip (s := { s with heap := h', toks := tk }) hz' fun h'' hz'' sb => ?_⟩
    have hT2 := (sb.2 _ (Nat.ne_of_gt zl)).trans hT
    have new : ObjOk X.prog X.w (upd H s.heap.objs.size (.tup [x, y])) h'' s.heap.objs.size (.tup [x, y]) :=
      ⟨by show 2 ≤ sizeLine; decide, [y1, y2], .cons ru (.cons rv' .nil), ⟨_, hT2, rfl, _, rfl⟩⟩
    have I1 : Inv X pins σ (upd H s.heap.objs.size (.tup [x, y])) { s with heap := h'', toks := tk } :=
      I.turnedNew (ch := [z, TI, TO, i1, i2]) (fun c o hb q => (sb.2 c (fun e => hb (by simp [e]))).trans (hk c o (fun e => hb (by simp [e])) (fun e => hb (by simp [e])) (fun e => hb (by simp [e])) (fun e => hb (by simp [e])) q)) hf (Nat.le_refl _) new
    refine ⟨.ref s.heap.objs.size, _, I1, rfl, ⟨_, x, y, rfl, I.hok.fresh (Nat.le_refl _), rfl, fun zs hl => by rw [I.list_inj hl qx]; exact hx, fun zs hl => by rw [I.tuple_inj hl qy]; exact hy⟩, ⟨hz'', ?_, ⟨y1, y2, ?_⟩, ?_, ?_⟩, fun c hcm => ?_⟩
    · exact (sb.2 _ S.TIz).trans (hk _ _ S.TIz S.TITO S.TIi1 S.TIi2 hTI)
    · exact (sb.2 _ S.TOz).trans hTO'
    · exact h1'.1.at fun o q => (sb.2 _ S.zi1.symm).trans q
    · exact h2'.1.at fun o q => (sb.2 _ S.zi2.symm).trans q
    · have lt : c < s.heap.objs.size := by
        rcases fiveN hcm with rfl | rfl | rfl | rfl | rfl
        · exact zl
        · exact Heap.lt_size hTI
        · exact Heap.lt_size hTO
        · obtain ⟨_, q, _⟩ := h1; exact Heap.lt_size q
        · obtain ⟨_, q, _⟩ := h2; exact Heap.lt_size q
      rw [upd_ne (Nat.ne_of_lt lt)]
      exact (hf c hcm).1
  done := by
    intro X hP hw hK hc i pins s σ H E I hf st hg
    subst hP hw hK
    obtain ⟨hz, hTI, ⟨x0, y0, hTO⟩, h1, h2⟩ := st
    obtain ⟨xs, ys, qx, qy, hend⟩ := hg
    obtain ⟨its, rv, p, _⟩ := I.list qx
    obtain ⟨jts, rw', p', _⟩ := I.tuple qy
    have l1 : i = its.toArray.size := by rw [List.size_toArray, ← rv.length]; exact hend.1.symm
    have l2 : i = jts.toArray.size := by rw [List.size_toArray, ← rw'.length]; exact hend.2.symm
    refine wpAny_pyNext_zipD2_end S (Draws.list (A := X.A.in1) (I.ok.hd hc) i1 a n1 its.toArray) (Draws.tuple (A := X.A.in1) (I.ok.hd hc) i2 b n2 jts.toArray) hz hTI hTO ⟨h1, p.isList⟩ ⟨h2, p'⟩ (Nat.le_of_eq l1) (Nat.le_of_eq l2) (.inl l1) fun h' tk hk => ⟨rfl, I.turnedL (t' := tk) (ch := [z, TI, TO, i1, i2]) (fun c o hb q => hk c o (fun e => hb (by simp [e])) (fun e => hb (by simp [e])) (fun e => hb (by simp [e])) (fun e => hb (by simp [e])) q) hf⟩
  self := fun A i s Q E st h => wpAny_pyIter_zip st.z h
def iZipN (K : PySem.W.Frag) (ta : TA) : TI := fun σ H R => ta σ H fun vs H1 => ∃ a b xs ys, vs = [.ref a, .ref b] ∧ SqL K H1 a xs ∧ SqT K H1 b ys ∧ R (ItzN K a b) H1
theorem pi_zipN {X : Cx} {e e2 : Expr} {ta : TA} {p pos tpos : Pos} {elts : List Expr} {kk : Nat} (hg : Gl X "zip") (hm : X.mg "zip" = none) (ha : PA X [e, e2] ta)
    (hs : starEach [e, e2] X.env = (false, eval e X.env) :: starEach [e2] X.env := by rfl) (hpl : (backTo pos (starEach [e2] X.env)).any (·.1) = false := by rfl) : PI X (.Tuple elts kk tpos) (.Call (.Name "zip" p) [e, e2] [] pos) (iZipN X.K ta) := by
  refine ⟨fun pins s σ H R I h => Call_ (ld_blt I hg hm boot_zip (callWith_type1 (thn (ha.run pos pins s σ H _ I h) fun us s1 ⟨vs, H1, I1, r1, q1⟩ => ?_) hs hpl))⟩
  obtain ⟨a, b, xs, ys, rfl, qx, qy, q⟩ := q1
  cases r1 with
  | cons ra rr =>
   cases rr with
   | cons rb rr =>
    cases rr
    cases ra
    cases rb
    obtain ⟨its, rv, p1, _⟩ := I1.list qx
    obtain ⟨jts, rw', p2, _⟩ := I1.tuple qy
    have la : a < s1.heap.objs.size := p1.lt
    have lb : b < s1.heap.objs.size := by obtain ⟨o, ho, _⟩ := p2; exact Heap.lt_size ho
    refine zip_begins2 (begins_list a its.toArray) (begins_tuple b jts.toArray) p1.isList p2 fun h' hz hTI hTO g1 g2 hsz hk => wpAny_pyIter_zip hz ?_
    have I2 : Inv X pins σ H1 { s1 with heap := h' } := I1.kept (t' := s1.toks) hk
    have S := zip_sep2 (N := s1.heap.objs.size) (fp1 := [a]) (fp2 := [b]) (fun c hc => by rw [List.mem_singleton.mp hc]; exact la) (fun c hc => by rw [List.mem_singleton.mp hc]; exact lb)
    refine ⟨s1.heap.objs.size + 4, [s1.heap.objs.size + 4, s1.heap.objs.size + 2, s1.heap.objs.size + 3, s1.heap.objs.size, s1.heap.objs.size + 1], _, _, H1, rfl, I2, turn_zipN S (Nat.ne_of_lt la) (Nat.ne_of_lt (Nat.lt_succ_of_lt lb)), ⟨hz, hTI, ⟨_, _, hTO⟩, ⟨_, g1, rfl, rfl⟩, ⟨_, g2, rfl, rfl⟩⟩, fun c hcm => ?_, q⟩
    have hle : s1.heap.objs.size ≤ c := by
      rcases fiveN hcm with rfl | rfl | rfl | rfl | rfl
      · exact Nat.le_add_right _ _
      · exact Nat.le_add_right _ _
      · exact Nat.le_add_right _ _
      · exact Nat.le_refl _
      · exact Nat.le_add_right _ _
    exact I1.fpOk hle (I1.hok.fresh hle)
theorem lc_zipN {K : PySem.W.Frag} {a b : Addr} {xs ys : List V} {g : TG} {tt : TT} {te : TE} {vs : List Nat} {σ : L2.St} {H1 : Hp} {D : Addr} {Qd : Hp → Prop} (hxy : ys.length = xs.length) (Pv : Nat → Hp → Prop) (h0 : Pv 0 (upd H1 D (.lst [])))
    (hl : ∀ i H, i ≤ xs.length → Pv i H → SqL K H a xs ∧ SqT K H b ys)
    (hs : ∀ i x y T H H', xs[i]? = some x → ys[i]? = some y → Pv i H → H T = none → H' = upd H T (.tup [x, y]) → g (.ref T) (wipe σ vs) H' fun σ2 H2 => wipe σ2 vs = wipe σ vs ∧ tt σ2 H2 fun b H3 =>
      if b = true then te σ2 H3 fun y H4 => ∃ acc, H4 D = some (.lst acc) ∧ acc.length < sizeLine ∧ Pv (i + 1) (upd H4 D (.lst (acc ++ [y]))) else Pv (i + 1) H3) (hd : ∀ H, Pv xs.length H → Qd H) :
    ∃ W : Nat → Nat → Hp → Prop, (∃ m, W 0 m (upd H1 D (.lst []))) ∧ ∀ i m H, W i m H →
      ((ItzN K a b).stop i H ∧ Qd H) ∨ ((ItzN K a b).go i H ∧ ∃ Nx : Hp → Prop, (∀ H', Nx H' → ∃ m', m' < m ∧ W (i + 1) m' H') ∧ ∀ x H', (ItzN K a b).yld i H x H' → g x (wipe σ vs) H' fun σ2 H2 => wipe σ2 vs = wipe σ vs ∧ tt σ2 H2 fun b H3 =>
        if b = true then te σ2 H3 fun y H4 => ∃ acc, H4 D = some (.lst acc) ∧ acc.length < sizeLine ∧ Nx (upd H4 D (.lst (acc ++ [y]))) else Nx H3) := by
  refine ⟨fun i m H => m = xs.length - i ∧ i ≤ xs.length ∧ Pv i H, ⟨xs.length, by simp, Nat.zero_le _, h0⟩, ?_⟩
  rintro i m H ⟨rfl, hi, p⟩
  obtain ⟨q, q'⟩ := hl i H hi p
  by_cases hlt : i < xs.length
  · have hlt2 : i < ys.length := by omega
    have gx := List.getElem?_eq_getElem hlt
    have gy := List.getElem?_eq_getElem hlt2
    refine .inr ⟨⟨xs, ys, xs[i], ys[i], q, q', gx, gy⟩, Pv (i + 1), fun H' p' => ⟨xs.length - (i + 1), by omega, rfl, hlt, p'⟩, fun x H' y => ?_⟩
    obtain ⟨T, u, v, rfl, hT, rfl, hu, hv⟩ := y
    exact hs i u v T H _ (hu xs q) (hv ys q') p hT rfl
  · have e : i = xs.length := by omega
    subst e
    exact .inl ⟨⟨xs, ys, q, q', rfl, hxy⟩, hd H p⟩
end DLR
namespace DLR
open PySem PySem.Spec PyProof.Rows L2
open DL (nI)
/-! ### how often a number stands in a tuple -/
def rTCnt : V → List V → Hp → VK → Prop := fun x xs H Q => ∃ (p : Addr) (l : List Nat) (n : Nat), x = .ref p ∧ xs = [nI n] ∧ H p = some (.tup (l.map nI)) ∧ Q (.int (l.count n : Nat)) H
theorem flat_nI : ∀ l : List Nat, (l.map nI).all flatV = true
  | [] => rfl
  | _ :: l => flat_nI l
theorem eqV_nI (a b : Nat) : eqV (nI a) (nI b) = decide (a = b) := by
  show decide ((a : Int) = (b : Int)) = _
  by_cases h : a = b
  · rw [decide_eq_true h]
    exact decide_eq_true (by omega)
  · rw [decide_eq_false h]
    exact decide_eq_false (by omega)
theorem count_nI {n : Nat} : ∀ {l : List Nat} {us : List Value}, Vals (l.map nI) us → us.countP (eqU (nI n)) = l.count n
  | [], _, .nil => rfl
  | c :: l, u :: us, .cons r t => by
    rw [List.countP_cons, count_nI t, eqU_of r rfl, List.count_cons, eqV_nI]
    by_cases h : c = n <;> simp [h]
theorem mt_tcount {X : Cx} : MtR X "tuple.count" rTCnt := by
  intro pins s σ H x xs v us Q I rx rxs h
  obtain ⟨p, l, n, rfl, rfl, hs, q⟩ := h
  cases rx
  obtain ⟨u, rfl, ru⟩ := rxs.one
  obtain ⟨its, rv, ⟨⟨cls, dd, data, sl⟩, ho, hc, m, hd⟩, _⟩ := I.tuple (SqT.of hs)
  simp only at hc hd
  subst hc hd
  refine call_meets PySem.F.slot_tuple_count ⟨_, ho, rfl⟩ PySem.F.entry_tuple_count (PySem.F.args_tuple_count_2 _ _)
    (SeqAt.tuple_countAt p its.toArray m dd sl u (eqU (nI n))) ⟨ho, fun y hy => mem_eqAt ru rfl rv (flat_nI l) y (by simpa using hy), ?_⟩
  refine ⟨.int (l.count n : Nat), H, I.tok _, ⟨s.toks, ?_⟩, q⟩
  show Value.int ((its.toArray.toList.countP (eqU (nI n)) : Nat) : Int) s.toks = Value.int ((l.count n : Nat) : Int) s.toks
  rw [show its.toArray.toList = its from rfl, count_nI rv]
end DLR
namespace DLR
open PySem PySem.Spec PyProof.Rows L2 PySem.W SrtO
/-! ### sorted(cells): tuples of a spot and something, no spot twice -/
def CellIn (h : Heap) (v : Value) (x y : Int) : Prop := ∃ (a sp : Addr) (wv : Value) (t u : Tok), v = .ref a ∧ IsTup h a #[.ref sp, wv] ∧ IsTup h sp #[.int x t, .int y u]
theorem CellIn.keeps {h h' : Heap} {v : Value} {x y : Int} (c : CellIn h v x y) (k : ∀ b o, h.get? b = some o → o.cls = .type "tuple" → h'.get? b = some o) : CellIn h' v x y := by
  obtain ⟨a, sp, wv, t, u, e, ⟨o, ho, hc, r⟩, ⟨o2, ho2, hc2, r2⟩⟩ := c
  exact ⟨a, sp, wv, t, u, e, ⟨o, k _ _ ho hc, hc, r⟩, ⟨o2, k _ _ ho2 hc2, hc2, r2⟩⟩
theorem dataLt_lex (x y x' y' : Int) (h : (x, y) ≠ (x', y')) : dataLt (.tuple [.int x, .int y]) (.tuple [.int x', .int y']) = lexB (x, y) (x', y') := by
  rw [dataLt_pair (by simp [alike]) (by simp [alike]), dataLt_int, dataLt_int]
  unfold lexB
  by_cases e : x = x'
  · subst e
    have e2 : y ≠ y' := fun z => h (by rw [z])
    simp [PyData.eqv, e2]
  · simp [PyData.eqv, e]
section
variable {prog : Program} {w : World} {A : Around} {E : Value → Shared → Prop} {s : Shared}
theorem cell_cmp {vs : List Value} {k : Value → Int × Int} (hu : A.units + 2 < cLine) (hp : ∀ v ∈ vs, CellIn s.heap v (k v).1 (k v).2) (inj : ∀ v ∈ vs, ∀ u ∈ vs, k v = k u → v = u) :
    Cmp prog w A s (tuples' false) (fun p => p.1 ∈ vs) (lt2 fun v u => lexB (k v) (k u)) := by
  intro p q hm hm'
  show wpAny (model prog w) A (keyLt' (tuples' false) p.1 q.1) (fun r s' => s' = s ∧ r = lexB (k p.1) (k q.1)) (fun _ _ => False) s
  obtain ⟨a, sp, wv, t, u, e, ⟨o, ho, hc, n, hd⟩, t2⟩ := hp _ hm
  obtain ⟨a', sp', wv', t', u', e', ⟨o', ho', hc', n', hd'⟩, t2'⟩ := hp _ hm'
  by_cases he : k p.1 = k q.1
  · have same := inj _ hm _ hm' he
    rw [← same, e]
    refine kat_lt ho hd ho hd ?_
    show KatLex prog w A false false _ [(Value.ref sp, Value.ref sp), (wv, wv)] 0 s
    refine kat_cons (SeqAt.EqAt.same _ prog w _ _ ?_)
    refine kat_go (fun _ => kat_yes (kat_cons (SeqAt.EqAt.same _ prog w _ _ ?_))) (fun z => by cases z)
    refine kat_go (fun _ => kat_yes (kat_nil ⟨rfl, ?_⟩)) (fun z => by cases z)
    exact (lexB_no.mpr (by omega)).symm
  · rw [e, e']
    refine kat_lt ho hd ho' hd' ?_
    show KatLex prog w A false false _ [(Value.ref sp, Value.ref sp'), (wv, wv')] 0 s
    have k1 : IsTupleKey (L2.mixKind prog w) s.heap [Sum.inl (k p.1).1, Sum.inl (k p.1).2] sp := by
      obtain ⟨ok, hok, ck, nk, dk⟩ := t2
      exact ⟨ok, _, nk, hok, ck, dk, .cons (L2.mixKind_int prog w _ t) (.cons (L2.mixKind_int prog w _ u) .nil)⟩
    have k2 : IsTupleKey (L2.mixKind prog w) s.heap [Sum.inl (k q.1).1, Sum.inl (k q.1).2] sp' := by
      obtain ⟨ok, hok, ck, nk, dk⟩ := t2'
      exact ⟨ok, _, nk, hok, ck, dk, .cons (L2.mixKind_int prog w _ t') (.cons (L2.mixKind_int prog w _ u') .nil)⟩
    have hne : ((k p.1).1, (k p.1).2) ≠ ((k q.1).1, (k q.1).2) := he
    refine kat_cons (wpAny_eqBool_tuple (by omega) k1 k2 ?_)
    refine kat_go (fun e0 => ?_) (fun _ => kat_no ?_)
    · exfalso
      have z0 := of_decide_eq_true e0
      injection z0 with z1 z2
      injection z1 with z1
      injection z2 with z2 _
      injection z2 with z2
      exact hne (by rw [z1, z2])
    · refine kat_one _ _ ?_
      have r1 : Reads s.heap (.ref sp) (.tuple [.int (k p.1).1, .int (k p.1).2]) [] := by
        obtain ⟨ok, hok, ck, nk, dk⟩ := t2
        exact .tuple hok ck dk (.cons (.int _ _) (.cons (.int _ _) .nil))
      have r2 : Reads s.heap (.ref sp') (.tuple [.int (k q.1).1, .int (k q.1).2]) [] := by
        obtain ⟨ok, hok, ck, nk, dk⟩ := t2'
        exact .tuple hok ck dk (.cons (.int _ _) (.cons (.int _ _) .nil))
      refine rcLt_alike _ _ A s _ _ _ _ r1 r2 (by simp [alike, alikeAll]) (by simp) ?_ prog w _ _ (show s = s ∧ dataLt (.tuple [.int (k p.1).1, .int (k p.1).2]) (.tuple [.int (k q.1).1, .int (k q.1).2]) = lexB (k (Value.ref a)) (k (Value.ref a')) from ⟨rfl, by rw [← e, ← e']; exact dataLt_lex _ _ _ _ hne⟩)
      simp only [PyData.depth, PyData.depthAll]
      omega
end
end DLR
namespace DLR
open PySem PySem.Spec PyProof.Rows L2 PySem.W SrtO
theorem cells_firsts {h : Heap} {k : Value → Int × Int} : ∀ vs : List Value, (∀ v ∈ vs, CellIn h v (k v).1 (k v).2) → ∃ fs : List Value, KatTups h vs fs ∧ fs.length = vs.length ∧ ∀ f ∈ fs, ∃ (q : Addr) (o : Obj), f = Value.ref q ∧ h.get? q = some o ∧ o.cls = .type "tuple"
  | [], _ => ⟨[], KatTups.nil, rfl, fun f hf => by simp at hf⟩
  | v :: vs, x => by
    obtain ⟨fs, kt, hl, hi⟩ := cells_firsts vs fun u hu => x u (List.mem_cons_of_mem _ hu)
    obtain ⟨a, sp, wv, t, u, e, ⟨o, ho, hc, n, hd⟩, ⟨o2, ho2, hc2, _⟩⟩ := x v (List.mem_cons_self ..)
    subst e
    refine ⟨.ref sp :: fs, KatTups.cons ho hc hd rfl kt, by rw [List.length_cons, List.length_cons, hl], fun f hf => ?_⟩
    rcases List.mem_cons.mp hf with rfl | hf
    · exact ⟨sp, o2, rfl, ho2, hc2⟩
    · exact hi f hf
section
variable {prog : Program} {w : World} {A : Around} {E : Value → Shared → Prop} {s : Shared}
theorem cells_sortableO {a : Addr} {vs : List Value} {k : Value → Int × Int} (hu : A.units + 2 < cLine) (h0 : 0 < vs.length) (hp : ∀ v ∈ vs, CellIn s.heap v (k v).1 (k v).2) (inj : ∀ v ∈ vs, ∀ u ∈ vs, k v = k u → v = u)
    (ha : ∀ o, s.heap.get? a = some o → o.cls ≠ .type "tuple") : SortableO prog w A s a vs fun v u => lexB (k v) (k u) := by
  intro h' keep
  have hp' : ∀ v ∈ vs, CellIn h' v (k v).1 (k v).2 := fun v hm => (hp v hm).keeps fun b o e c => keep b o (fun z => by subst z; exact ha o e c) e
  obtain ⟨fs, k1, hl, hi⟩ := cells_firsts vs hp'
  refine ⟨tuples' false, fun Q E hq => ?_, cell_cmp (s := { s with heap := h' }) hu hp' inj⟩
  refine PySem.W.kat_kind (s := { s with heap := h' }) (T := .type "tuple") k1 (by omega) (fun f hm => ?_) (by rfl) ?_
  · obtain ⟨q, o, rfl, ho, hc⟩ := hi f hm
    have z : PySem.W.Looks (model prog w) h' (typeOf (.ref q)) o.cls := (PySem.W.Looks.ld ho).andThen .now
    rw [hc] at z
    exact z
  · have e : (Value.type "tuple" != Value.type "tuple") = false := by first | rfl | decide | simp
    rw [e]
    exact hq
theorem sorted_cells {l : Addr} {vs : List Value} {k : Value → Int × Int} {Q : Value → Shared → Prop} (hu : A.units + 4 < cLine) (hl : s.heap.IsList l vs.toArray) (hz : vs.length ≤ sizeLine) (hp : ∀ v ∈ vs, CellIn s.heap v (k v).1 (k v).2) (inj : ∀ v ∈ vs, ∀ u ∈ vs, k v = k u → v = u)
    (h : ∀ (h' : Heap) (d : Addr) (out : List Value), Srtd (fun v u => lexB (k v) (k u)) out → Stb (fun v u => lexB (k v) (k u)) out vs → (∀ b o, s.heap.get? b = some o → h'.get? b = some o) → s.heap.objs.size ≤ d → (∃ n, h'.get? d = some (seqObj "list" out.toArray n)) → Q (.ref d) { s with heap := h' }) :
    wpAny (model prog w) A (call (.builtin "sorted") [.ref l]) Q E s := by
  refine sorted_ord (swo_lex k) hl hz (fun h2 h₁ a ha kk => ?_) fun out hs hb => ?_
  · refine cells_sortableO (s := { s with heap := h₁ }) (by show A.units + 1 + 1 + 2 < cLine; omega) (by omega) (fun v hm => (hp v hm).keeps fun b o e _ => (kk b o e).2) inj fun o e => ?_
    have e' : some o = some (seqObj "list" vs.toArray 0) := e.symm.trans ha
    cases e'
    intro c
    exact absurd (Value.type.inj c) (by decide)
  · exact h _ _ out hs hb (fun b o e => PyProof.Rows.sortedAll_old e) (Nat.le_succ _) (PyProof.Rows.sortedAll_at s.heap vs out.toArray)
end
end DLR
namespace DLR
open PySem PySem.Spec PyProof.Rows L2 PySem.W SrtO
open DL (nI)
/-! ### sorted(cells) as a rule -/
def spotLt (a b : Nat × Nat) : Prop := a.1 < b.1 ∨ a.1 = b.1 ∧ a.2 < b.2
theorem spot_asym {a b : Nat × Nat} (h : spotLt a b) (g : spotLt b a) : False := by
  unfold spotLt at h g
  omega
structure IsOrd (ks : List (Nat × Nat)) (o : List Nat) : Prop where
  perm : o.Perm (List.range ks.length)
  up : o.Pairwise fun i j => spotLt (ks.getD i (0, 0)) (ks.getD j (0, 0))
theorem perm_up {α : Type} {R : α → α → Prop} (as : ∀ a b, R a b → R b a → False) : ∀ {l m : List α}, l.Perm m → l.Pairwise R → m.Pairwise R → l = m
  | [], m, p, _, _ => p.nil_eq
  | a :: l, [], p, _, _ => absurd p.eq_nil (by simp)
  | a :: l, b :: m, p, h, g => by
    obtain ⟨h1, h2⟩ := List.pairwise_cons.mp h
    obtain ⟨g1, g2⟩ := List.pairwise_cons.mp g
    have e : a = b := by
      refine Classical.byContradiction fun n => ?_
      have m1 : a ∈ m := (List.mem_cons.mp (p.mem_iff.mp List.mem_cons_self)).resolve_left n
      have m2 : b ∈ l := (List.mem_cons.mp (p.mem_iff.mpr List.mem_cons_self)).resolve_left fun z => n z.symm
      exact as _ _ (h1 b m2) (g1 a m1)
    subst e
    rw [perm_up as p.cons_inv h2 g2]
theorem IsOrd.uniq {ks : List (Nat × Nat)} {o o' : List Nat} (h : IsOrd ks o) (h' : IsOrd ks o') : o = o' :=
  perm_up (fun _ _ => spot_asym) (h.perm.trans h'.perm.symm) h.up h'.up
def CellK (H : Hp) (b : Addr) (k : Nat × Nat) : Prop := ∃ (s : Addr) (v : V), H b = some (.tup [.ref s, v]) ∧ H s = some (.tup [nI k.1, nI k.2])
def rSortC (K : PySem.W.Frag) : List V → Hp → VK → Prop := fun vs H Q => ∃ (a : Addr) (bs : List Addr) (ks : List (Nat × Nat)), vs = [V.ref a] ∧ SqL K H a (bs.map V.ref) ∧ Paired (CellK H) bs ks ∧ ks.Nodup ∧
  ∀ (o : List Nat) (p : Addr), IsOrd ks o → H p = none → Q (.ref p) (upd H p (.lst (o.map fun i => V.ref (bs.getD i 0))))
theorem vals_refs : ∀ {bs : List Addr} {its : List Value}, Vals (bs.map V.ref) its → its = bs.map Value.ref
  | [], _, .nil => rfl
  | b :: bs, _, .cons r rs => by
    have r : _ = Value.ref b := r
    rw [r, vals_refs rs]
    rfl
theorem refs_vals : ∀ bs : List Addr, Vals (bs.map V.ref) (bs.map Value.ref)
  | [] => .nil
  | b :: bs => .cons rfl (refs_vals bs)
theorem cellK_in {X : Cx} {pins : List (Addr × Obj)} {s : Shared} {σ : L2.St} {H : Hp} (I : L2.Inv X pins σ H s) {b : Addr} {k : Nat × Nat} (h : CellK H b k) : CellIn s.heap (.ref b) (k.1 : Int) (k.2 : Int) := by
  obtain ⟨sp, v, h1, h2⟩ := h
  obtain ⟨its, rv, ⟨o, ho, hc, n, hd⟩, _⟩ := I.tuple (SqT.of h1)
  obtain ⟨its2, rv2, ⟨o2, ho2, hc2, n2, hd2⟩, _⟩ := I.tuple (SqT.of h2)
  cases rv with
  | cons ra rr =>
  cases rr with
  | cons rb rr =>
  cases rr
  cases rv2 with
  | cons rx rr2 =>
  cases rr2 with
  | cons ry rr2 =>
  cases rr2
  cases ra
  obtain ⟨t, rfl⟩ := rx
  obtain ⟨u, rfl⟩ := ry
  exact ⟨b, sp, _, t, u, rfl, ⟨o, ho, hc, n, hd⟩, ⟨o2, ho2, hc2, n2, hd2⟩⟩
theorem cells_nodup {H : Hp} : ∀ {bs : List Addr} {ks : List (Nat × Nat)}, Paired (CellK H) bs ks → ks.Nodup → bs.Nodup
  | _, _, .nil, _ => List.nodup_nil
  | b :: bs, k :: ks, .cons h t, nd => by
    obtain ⟨n1, n2⟩ := List.nodup_cons.mp nd
    refine List.nodup_cons.mpr ⟨fun hm => n1 ?_, cells_nodup t n2⟩
    obtain ⟨i, hi, e⟩ := List.mem_iff_getElem.mp hm
    obtain ⟨k', g1, g2⟩ := DL.Paired.get t (List.getElem?_eq_getElem hi)
    rw [e] at g2
    obtain ⟨s, v, a1, a2⟩ := h
    obtain ⟨s', v', b1, b2⟩ := g2
    rw [a1] at b1
    obtain ⟨rfl, rfl⟩ : s = s' ∧ v = v' := by
      injection b1 with b1
      injection b1 with b1
      injection b1 with z1 z2
      injection z1 with z1
      injection z2 with z2 _
      exact ⟨z1, z2⟩
    rw [a2] at b2
    have e2 : k' = k := by
      injection b2 with b2
      injection b2 with b2
      injection b2 with z1 z2
      injection z1 with z1
      injection z2 with z2 _
      injection z2 with z2
      obtain ⟨x, y⟩ := k
      obtain ⟨x', y'⟩ := k'
      have z1 : (x : Int) = (x' : Int) := z1
      have z2 : (y : Int) = (y' : Int) := z2
      have q1 : x = x' := by omega
      have q2 : y = y' := by omega
      rw [q1, q2]
    rw [← e2]
    exact List.mem_of_getElem? g1
theorem nodup_ix {α : Type} {l : List α} (nd : l.Nodup) {i j : Nat} (hi : i < l.length) (hj : j < l.length) (e : l[i] = l[j]) : i = j := by
  rcases Nat.lt_trichotomy i j with h | h | h
  · exact absurd e (List.pairwise_iff_getElem.mp nd i j hi hj h)
  · exact h
  · exact absurd e.symm (List.pairwise_iff_getElem.mp nd j i hj hi h)
theorem refs_at (bs : List Addr) (o : List Nat) (out : List Value) (h : out = o.map fun i => Value.ref (bs.getD i 0)) : Vals (o.map fun i => V.ref (bs.getD i 0)) out := by
  subst h
  have z := refs_vals (o.map fun i => bs.getD i 0)
  rw [List.map_map, List.map_map] at z
  exact z
def keyV (bs : List Addr) (ks : List (Nat × Nat)) : Value → Int × Int
  | .ref b => (((ks.getD (bs.idxOf b) (0, 0)).1 : Nat), ((ks.getD (bs.idxOf b) (0, 0)).2 : Nat))
  | _ => (0, 0)
def idxV (bs : List Addr) : Value → Nat
  | .ref b => bs.idxOf b
  | _ => 0
theorem cr_sortedC {X : Cx} (hu : X.A.units + 64 < cLine) : CallR X (.builtin "sorted") (rSortC X.K) := by
  intro pins s σ H vs us Q I r h
  obtain ⟨a, bs, ks, rfl, hs, hT, nd, q⟩ := h
  obtain ⟨its, rv, hl, hz⟩ := I.list hs
  rw [Vals.ref1 r]
  have ei := vals_refs rv
  subst ei
  have hlen : bs.length = ks.length := Paired.length hT
  have bn := cells_nodup hT nd
  rw [List.length_map] at hz
  have at_ : ∀ v ∈ bs.map Value.ref, ∃ i, ∃ hi : i < bs.length, ∃ hk : i < ks.length, v = Value.ref bs[i] ∧ idxV bs v = i ∧ keyV bs ks v = ((ks[i].1 : Int), (ks[i].2 : Int)) ∧ CellK H bs[i] ks[i] := by
    intro v hv
    obtain ⟨b, hb, rfl⟩ := List.mem_map.mp hv
    obtain ⟨i, hi, rfl⟩ := List.mem_iff_getElem.mp hb
    obtain ⟨k, g1, g2⟩ := DL.Paired.get hT (List.getElem?_eq_getElem hi)
    have hk : i < ks.length := by omega
    have ek : ks[i] = k := by
      rw [List.getElem?_eq_getElem hk] at g1
      exact Option.some.inj g1
    have ix : bs.idxOf bs[i] = i := bn.idxOf_getElem i hi
    refine ⟨i, hi, hk, rfl, ix, ?_, ek ▸ g2⟩
    show (((ks.getD (bs.idxOf bs[i]) (0, 0)).1 : Int), ((ks.getD (bs.idxOf bs[i]) (0, 0)).2 : Int)) = _
    rw [ix, List.getD_eq_getElem?_getD, List.getElem?_eq_getElem hk]
    rfl
  have inj : ∀ v ∈ bs.map Value.ref, ∀ u ∈ bs.map Value.ref, keyV bs ks v = keyV bs ks u → v = u := by
    intro v hv u hu e
    obtain ⟨i, hi, hk, rfl, _, e1, _⟩ := at_ v hv
    obtain ⟨j, hj, hk2, rfl, _, e2, _⟩ := at_ u hu
    rw [e1, e2] at e
    have q1 : ks[i].1 = ks[j].1 := by
      have z : (ks[i].1 : Int) = (ks[j].1 : Int) := congrArg Prod.fst e
      omega
    have q2 : ks[i].2 = ks[j].2 := by
      have z : (ks[i].2 : Int) = (ks[j].2 : Int) := congrArg Prod.snd e
      omega
    have q3 : ks[i] = ks[j] := Prod.ext q1 q2
    have q4 : i = j := nodup_ix nd hk hk2 q3
    subst q4
    rfl
  refine sorted_cells (k := keyV bs ks) (by omega) hl.isList (by rw [List.length_map]; exact hz) (fun v hv => ?_) inj fun h' d out hsr hst old hd hn => ?_
  · obtain ⟨i, hi, hk, rfl, _, e1, c⟩ := at_ v hv
    rw [e1]
    exact cellK_in I c
  · have pm := hst.perm
    have hidx : (bs.map Value.ref).map (idxV bs) = List.range ks.length := by
      refine List.ext_getElem (by rw [List.length_map, List.length_map, List.length_range]; exact hlen) fun i h1 h2 => ?_
      rw [List.getElem_map, List.getElem_map, List.getElem_range]
      exact bn.idxOf_getElem i (by simpa using h1)
    have o1 : (out.map (idxV bs)).Perm (List.range ks.length) := by
      rw [← hidx]
      exact pm.map _
    have on : out.Nodup := by
      refine pm.nodup_iff.mpr ?_
      exact (List.pairwise_map.mpr (bn.imp fun {a b} n e => n (by injection e)))
    have o2 : (out.map (idxV bs)).Pairwise fun i j => spotLt (ks.getD i (0, 0)) (ks.getD j (0, 0)) := by
      refine List.pairwise_map.mpr ?_
      refine (hsr.and on).imp_of_mem fun {u v} hu hv h => ?_
      obtain ⟨i, hi, hk, rfl, i1, e1, _⟩ := at_ u (pm.mem_iff.mp hu)
      obtain ⟨j, hj, hk2, rfl, i2, e2, _⟩ := at_ v (pm.mem_iff.mp hv)
      obtain ⟨l1, l2⟩ := h
      have l1 : lexB (keyV bs ks (Value.ref bs[j])) (keyV bs ks (Value.ref bs[i])) = false := l1
      rw [e1, e2] at l1
      rw [i1, i2, List.getD_eq_getElem?_getD, List.getD_eq_getElem?_getD, List.getElem?_eq_getElem hk, List.getElem?_eq_getElem hk2]
      show spotLt ks[i] ks[j]
      have ne : ¬ (ks[i].1 = ks[j].1 ∧ ks[i].2 = ks[j].2) := fun ⟨z1, z2⟩ => l2 (by
        have q4 : i = j := nodup_ix nd hk hk2 (Prod.ext z1 z2)
        subst q4
        rfl)
      have l3 := lexB_no.mp l1
      unfold spotLt
      simp only at l3
      omega
    have o3 : out = (out.map (idxV bs)).map fun i => Value.ref (bs.getD i 0) := by
      rw [List.map_map]
      conv => lhs; rw [← List.map_id out]
      refine List.map_congr_left fun v hv => ?_
      obtain ⟨i, hi, hk, rfl, i1, _, _⟩ := at_ v (pm.mem_iff.mp hv)
      show _ = Value.ref (bs.getD (idxV bs (Value.ref bs[i])) 0)
      rw [i1, List.getD_eq_getElem?_getD, List.getElem?_eq_getElem hi]
      rfl
    have o4 : (out.map (idxV bs)).length = out.length := List.length_map _
    have o5 : out.length = bs.length := by rw [pm.length_eq, List.length_map]
    have ov := refs_at bs _ _ o3
    obtain ⟨n, hn⟩ := hn
    refine ⟨.ref d, upd H d (.lst ((out.map (idxV bs)).map fun i => V.ref (bs.getD i 0))), I.laid (t' := s.toks) old hd ⟨?_, out, n, ov, hn⟩, rfl, q _ _ ⟨o1, o2⟩ (I.hok.fresh hd)⟩
    rw [List.length_map, o4, o5]
    exact hz
end DLR
namespace DL
open PySem L2 DLR
/-! ### the spots of rows and worths -/
def spF (c : Nat → Nat) : List Nat → List (Nat × Nat)
  | [] => []
  | x :: l => (x, c x) :: spF (fun z => c z + if z = x then 1 else 0) l
theorem spF_len : ∀ (l : List Nat) (c : Nat → Nat), (spF c l).length = l.length
  | [], _ => rfl
  | x :: l, c => congrArg Nat.succ (spF_len l _)
theorem spF_congr : ∀ (l : List Nat) {c c' : Nat → Nat}, (∀ x ∈ l, c x = c' x) → spF c l = spF c' l
  | [], _, _, _ => rfl
  | x :: l, c, c', h => by
    unfold spF
    rw [h x List.mem_cons_self, spF_congr l fun z hz => by rw [h z (List.mem_cons_of_mem _ hz)]]
theorem spF_get : ∀ (l : List Nat) (c : Nat → Nat) (i x : Nat), l[i]? = some x → (spF c l)[i]? = some (x, c x + (l.take i).count x)
  | [], _, _, _, h => by simp at h
  | y :: l, c, 0, x, h => by
    have e : y = x := by simpa using h
    subst e
    rfl
  | y :: l, c, i + 1, x, h => by
    have q := spF_get l (fun z => c z + if z = y then 1 else 0) i x (by simpa using h)
    show (spF (fun z => c z + if z = y then 1 else 0) l)[i]? = _
    rw [q, List.take_succ_cons, List.count_cons]
    by_cases e : x = y
    · subst e
      simp
      omega
    · have e2 : ¬ y = x := fun z => e z.symm
      simp [e, e2]
theorem spF_app : ∀ (l m : List Nat) (c : Nat → Nat), spF c (l ++ m) = spF c l ++ spF (fun z => c z + l.count z) m
  | [], m, c => by
    show spF c m = spF (fun z => c z + 0) m
    rfl
  | x :: l, m, c => by
    show (x, c x) :: spF _ (l ++ m) = (x, c x) :: (spF _ l ++ _)
    rw [spF_app l m]
    congr 2
    refine spF_congr m fun z _ => ?_
    rw [List.count_cons]
    by_cases e : z = x
    · subst e
      simp
      omega
    · have e2 : ¬ x = z := fun h => e h.symm
      simp [e, e2]
theorem spF_ge : ∀ (l : List Nat) (c : Nat → Nat) (q : Nat × Nat), q ∈ spF c l → c q.1 ≤ q.2
  | [], _, _, h => by simp [spF] at h
  | x :: l, c, q, h => by
    rcases List.mem_cons.mp h with e | e
    · rw [e]
      exact Nat.le_refl _
    · have z := spF_ge l (fun z => c z + if z = x then 1 else 0) q e
      exact Nat.le_trans (Nat.le_add_right _ _) z
theorem spF_nodup : ∀ (l : List Nat) (c : Nat → Nat), (spF c l).Nodup
  | [], _ => List.nodup_nil
  | x :: l, c => by
    refine List.nodup_cons.mpr ⟨fun h => ?_, spF_nodup l _⟩
    have z : c x + (if x = x then 1 else 0) ≤ c x := spF_ge l (fun z => c z + if z = x then 1 else 0) _ h
    rw [if_pos rfl] at z
    omega
theorem spF_up : ∀ (l : List Nat) (c : Nat → Nat), l.Nodup → spF c l = l.map fun x => (x, c x)
  | [], _, _ => rfl
  | x :: l, c, nd => by
    obtain ⟨n1, n2⟩ := List.nodup_cons.mp nd
    show (x, c x) :: spF _ l = (x, c x) :: _
    rw [spF_congr l (c' := c) fun z hz => ?_, spF_up l c n2]
    have e : ¬ z = x := fun e => n1 (e ▸ hz)
    simp [e]
def liesF (c : Nat → Nat) : List (List Nat) → List (List (Nat × Nat))
  | [] => []
  | h :: hs => spF c h :: liesF (fun z => c z + h.count z) hs
theorem liesF_len : ∀ (hs : List (List Nat)) (c : Nat → Nat), (liesF c hs).length = hs.length
  | [], _ => rfl
  | h :: hs, c => congrArg Nat.succ (liesF_len hs _)
theorem liesF_get : ∀ (hs : List (List Nat)) (c : Nat → Nat) (j : Nat) (h : List Nat), hs[j]? = some h → (liesF c hs)[j]? = some (spF (fun z => c z + (hs.take j).flatten.count z) h)
  | [], _, _, _, e => by simp at e
  | g :: hs, c, 0, h, e => by
    have e : g = h := by simpa using e
    subst e
    rfl
  | g :: hs, c, j + 1, h, e => by
    have q := liesF_get hs (fun z => c z + g.count z) j h (by simpa using e)
    show (liesF (fun z => c z + g.count z) hs)[j]? = _
    rw [q, List.take_succ_cons, List.flatten_cons]
    refine congrArg some (spF_congr h fun z _ => ?_)
    rw [List.count_append]
    omega
theorem liesF_flat : ∀ (hs : List (List Nat)) (c : Nat → Nat), (liesF c hs).flatten = spF c hs.flatten
  | [], _ => rfl
  | h :: hs, c => by
    show (spF c h :: liesF _ hs).flatten = spF c (h ++ hs.flatten)
    rw [List.flatten_cons, liesF_flat hs, spF_app]
def Row.wor : Row → Nat
  | .load w _ => w
  | .add w _ => w
  | .take w _ => w
  | .store w _ => w
  | _ => 0
theorem Row.wor_at {r : Row} (h : r.uses = true) : (rowVs r)[1]? = some (nI r.wor) := by cases r <;> first | rfl | cases h
theorem Row.wor_lt {W N : Nat} {r : Row} (h : r.uses = true) (k : r.ok W N) : r.wor < W := by
  cases r <;> first | exact k.1 | cases h
def rowSp (y : Lay) : List (Nat × Nat) := spF (fun _ => 0) y.places
def worSp (y : Lay) : List (List (Nat × Nat)) := liesF (fun z => y.places.count z) y.homes
theorem rowSp_len (y : Lay) : (rowSp y).length = y.places.length := spF_len _ _
theorem worSp_len (y : Lay) : (worSp y).length = y.homes.length := liesF_len _ _
def keysF (y : Lay) : List (Nat × Nat) := rowSp y ++ (worSp y).flatten
theorem keys_eq (y : Lay) : keysF y = spF (fun _ => 0) (y.places ++ y.homes.flatten) := by
  unfold keysF rowSp worSp
  rw [liesF_flat, spF_app]
  refine congrArg _ (spF_congr _ fun z _ => ?_)
  omega
theorem keys_nodup (y : Lay) : (keysF y).Nodup := by
  rw [keys_eq]
  exact spF_nodup _ _
def spotD (q : Nat × Nat) : D := .tup [.int (q.1 : Nat), .int (q.2 : Nat)]
def homesD (l : List (Nat × Nat)) : D := .tup (l.map spotD)
def whatDs (y : Lay) (r : Row) : List D := .str r.word :: ((if r.uses = true then [homesD ((worSp y).getD r.wor [])] else []) ++ (nx r).map fun t => spotD ((rowSp y).getD t (0, 0)))
def whatD (y : Lay) (r : Row) : D := .tup (whatDs y r)
abbrev Cell := (Nat × Nat) × D
def rowCell (p : Prog) (y : Lay) (i : Nat) : Cell := ((rowSp y).getD i (0, 0), whatD y (p.rows.getD i .stop))
def worD (z : Int) : D := .tup [.str "worth", .int z]
def worCells (p : Prog) (y : Lay) (j : Nat) : List Cell := ((worSp y).getD j []).map fun s => (s, worD (p.ws.getD j 0))
def cellsN (p : Prog) (y : Lay) (j : Nat) : List Cell := (List.range p.rows.length).map (rowCell p y) ++ (List.range j).flatMap (worCells p y)
def cellsF (p : Prog) (y : Lay) : List Cell := cellsN p y p.ws.length
theorem cellsN_succ (p : Prog) (y : Lay) (j : Nat) : cellsN p y (j + 1) = cellsN p y j ++ worCells p y j := by
  unfold cellsN
  rw [List.range_succ, List.flatMap_append, List.append_assoc]
  simp
theorem range_getD {α : Type} (d : α) : ∀ l : List α, (List.range l.length).map (fun i => l.getD i d) = l := fun l => by
  refine List.ext_getElem (by simp) fun i h1 h2 => ?_
  rw [List.getElem_map, List.getElem_range, List.getD_eq_getElem?_getD, List.getElem?_eq_getElem h2]
  rfl
theorem keys_cells {p : Prog} {y : Lay} (yk : LayOk p y) : (cellsF p y).map (·.1) = keysF y := by
  unfold cellsF cellsN keysF
  rw [List.map_append, List.map_map, List.map_flatMap]
  congr 1
  · have e := range_getD (0, 0) (rowSp y)
    rw [rowSp_len, yk.pl] at e
    exact e
  · have e := range_getD ([] : List (Nat × Nat)) (worSp y)
    rw [worSp_len, yk.hl] at e
    conv => rhs; rw [← e]
    rw [← List.flatMap_def]
    refine congrArg (fun f => List.flatMap f _) (funext fun j => ?_)
    unfold worCells
    rw [List.map_map]
    exact List.map_id _
def cellD (c : Cell) : D := .tup [spotD c.1, c.2]
def imageD (p : Prog) (y : Lay) (o : List Nat) : D := .tup [.int (y.wide : Nat), spotD ((rowSp y).getD 0 (0, 0)), .lst (o.map fun i => cellD ((cellsF p y).getD i ((0, 0), .non)))]
def mostF (y : Lay) : Int := maxL ((List.range y.wide).map fun z => ((y.places.count z + y.homes.flatten.count z : Nat) : Int))
end DL
namespace DL
open PySem L2 DLR
abbrev SpotsAt (H : Hp) (ts : List Addr) (qs : List (Nat × Nat)) : Prop := Paired (fun t (q : Nat × Nat) => H t = some (.tup [nI q.1, nI q.2])) ts qs
theorem SpotsAt.kp {H H' : Hp} {ts : List Addr} {qs : List (Nat × Nat)} (h : SpotsAt H ts qs) (k : Kp H H') : SpotsAt H' ts qs := Paired.mapP h fun b x e => k _ _ e
abbrev LiesAt (H : Hp) (hs : List Addr) (L : List (List (Nat × Nat))) : Prop := Paired (fun h l => ∃ ts : List Addr, H h = some (.tup (ts.map V.ref)) ∧ SpotsAt H ts l) hs L
theorem LiesAt.kp {H H' : Hp} {hs : List Addr} {L : List (List (Nat × Nat))} (h : LiesAt H hs L) (k : Kp H H') : LiesAt H' hs L := Paired.mapP h fun b x ⟨ts, e1, e2⟩ => ⟨ts, k _ _ e1, SpotsAt.kp e2 k⟩
theorem But.kp {u : Addr} {H H' : Hp} {xs : List V} (b : But u H H') (h : H u = some (.lst xs)) : Kp H H' := fun a ys e => b a _ (fun z => by subst z; rw [h] at e; cases e) e
theorem But.mut {u p : Addr} {H H' : Hp} {o : HO} (b : But u H H') (h : H p = none) : But u H (upd H' p o) := fun a x n e => by
  rw [upd_ne (ne_of_none e h)]; exact b a x n e
theorem But.at {u : Addr} {H H' : Hp} {o : HO} (b : But u H H') : But u H (upd H' u o) := fun a x n e => by
  rw [upd_ne n]; exact b a x n e
def useV (W : Nat) (f : Nat → Nat) : List V := ((List.range W).map fun z => ((f z : Nat) : Int)).map V.int
theorem useV_get {W u : Nat} (f : Nat → Nat) (h : u < W) : (useV W f)[u]? = some (nI (f u)) := by
  unfold useV
  rw [List.map_map, List.getElem?_map, List.getElem?_range h]
  rfl
theorem useV_len (W : Nat) (f : Nat → Nat) : (useV W f).length = W := by
  unfold useV
  rw [List.length_map, List.length_map, List.length_range]
theorem useV_set {W u : Nat} {f f' : Nat → Nat} {y : Int} (hy : ((f' u : Nat) : Int) = y) (hf : ∀ x, x ≠ u → f' x = f x) : (useV W f).set u (.int y) = useV W f' := by
  unfold useV
  rw [List.map_map, List.map_map]
  refine List.ext_getElem (by simp) fun i h1 h2 => ?_
  rw [List.getElem_set]
  by_cases e : u = i
  · subst e
    rw [if_pos rfl]
    simp [hy]
  · rw [if_neg e]
    simp [hf i fun z => e z.symm]
theorem useV_congr {W : Nat} {f f' : Nat → Nat} (h : ∀ x, f x = f' x) : useV W f = useV W f' := by
  rw [show f = f' from funext h]
abbrev sTakeSpots : Stmt := top 78
abbrev FTakeSpots (K : Frg) (mg : Str → Option Value) := Fd K mg "take_spots" sTakeSpots ["places", "used"]
abbrev nTakeSpots : List Str := ["places","used","spots","place"]
def spTakeSpots : Sp := fun vs H Q _ => ∃ (a u : Addr) (l : List Nat) (W : Nat) (c : Nat → Nat), vs = [.ref a, .ref u] ∧ H a = some (.tup (l.map nI)) ∧ H u = some (.lst (useV W c)) ∧ l.length ≤ 100 ∧ W ≤ 100 ∧ (∀ x ∈ l, x < W) ∧
  ∀ t ts H', But u H H' → H' u = some (.lst (useV W fun z => c z + l.count z)) → H' t = some (.tup (ts.map V.ref)) → SpotsAt H' ts (spF c l) → Q (.ref t) H'
section
variable {P : Program} {w : World} {K : PySem.W.Frag} {mg : Str → Option Value} {base : Heap}
theorem scTakeSpots : FnScope nTakeSpots ["places", "used"] (defScope sTakeSpots) := ⟨rfl, rfl, rfl, by decide +kernel, rfl, by decide +kernel, by decide +kernel⟩
theorem ok_takeSpots (c : FTakeSpots K mg) (T : Bt mg) : FnOk P w K mg base CX0 1 c.f c.fd ["places", "used"] spTakeSpots := by
  refine c.F.ok scTakeSpots (fun vs H Q E h => ?_) (fun cdv A outer s H vs Q E hr h => ?_)
  · obtain ⟨a, u, l, W, c, rfl, _⟩ := h
    rfl
  · obtain ⟨a, u, l, W, c, rfl, ha, hu, l100, w100, hlt, k⟩ := h
    refine ⟨_, (pss_cons (ps_set (i := 2) scTakeSpots.nd rfl (Or.inl rfl) (pe_lst pa_nil))
      (pss_cons (ps_for PassesOwn.never rfl (pi_tup (pv 0)) (pg_name (i := 3) scTakeSpots.nd rfl (Or.inl rfl))
          (pss_cons (ps_expr (pe_bm PySem.F.plainAttrs_list PySem.F.slot_list_append PySem.F.type_list_append mt_append (pv 2) (pa_cons (pe_tup (pa_cons (pv 3) (pa_cons (pe_ix ix_list (pv 1) (pv 3) (fun _ _ => rfl)) pa_nil))) pa_nil)))
          (pss_one (ps_augS (pv 1) (pv 3) get_list pe_int ip_add set_list))))
      (pss_one (ps_ret (pe_callTy call_tuple_of (by rfl) T.tuple (by decide +kernel) (pa_cons (pv 2) pa_nil)))))), ?_⟩
    refine ⟨Nat.zero_le _, fun sl hsl => ?_⟩
    refine alloc hsl fun H1 s1 e1 => ?_
    have ne : sl ≠ u := fun z => by rw [z, hu] at hsl; cases hsl
    refine ⟨_, rfl, a, rfl, ⟨_, SqT.of (s1 _ _ ha)⟩, for_tup (K := K) (a := a) (xs := l.map nI) (fun i σ H' => ∃ (x3 : Option V) (ts : List Addr), σ = [some (.ref a), some (.ref u), some (.ref sl), x3] ∧ But u H H' ∧ H' u = some (.lst (useV W fun z => c z + (l.take i).count z)) ∧ H' sl = some (.lst (ts.map V.ref)) ∧ SpotsAt H' ts ((spF c l).take i))
      ⟨none, [], rfl, But.of s1, s1 _ _ hu, e1, .nil⟩ (fun i σ H' _ ⟨_, _, _, b, _, _, _⟩ => SqT.of (b.kp hu _ _ ha)) ?_ ?_⟩
    · rintro i x σ H2 hi ⟨x3, ts, rfl, b2, u2, sl2, S2⟩
      rw [List.getElem?_map] at hi
      cases hx : l[i]? with
      | none => rw [hx] at hi; cases hi
      | some x0 =>
      rw [hx] at hi
      have ex : nI x0 = x := Option.some.inj hi
      subst ex
      have hxW := hlt x0 (List.mem_of_getElem? hx)
      have hil : i < l.length := (List.getElem?_eq_some_iff.mp hx).1
      have htl := Paired.length S2
      rw [List.length_take, spF_len] at htl
      refine ⟨_, rfl, .inl ⟨rfl, _, SqL.of sl2⟩, _, rfl, _, rfl, _, rfl, u, _, _, _, rfl, rfl, SqL.of u2, atI_nat (useV_get _ hxW), (by show 2 ≤ sizeLine; decide), fun tt htt => ?_⟩
      refine alloc htt fun H3 s3 e3 => ?_
      have sl3 := s3 _ _ sl2
      refine ⟨sl, _, _, rfl, rfl, sl3, szl (by rw [List.length_map]; omega), ?_⟩
      have b4 : But u H (upd H3 sl (.lst (ts.map V.ref ++ [.ref tt]))) := (b2.trans (But.of s3)).mut hsl
      have k4 : Kp H2 (upd H3 sl (.lst (ts.map V.ref ++ [.ref tt]))) := (Kp.same s3).trans (Kp.lst sl3)
      have e4 : (upd H3 sl (.lst (ts.map V.ref ++ [.ref tt]))) sl = some (.lst (ts.map V.ref ++ [.ref tt])) := upd_same
      have u4 : (upd H3 sl (.lst (ts.map V.ref ++ [.ref tt]))) u = some (.lst (useV W fun z => c z + (l.take i).count z)) := (upd_ne ne.symm).trans (s3 _ _ u2)
      have t4 : (upd H3 sl (.lst (ts.map V.ref ++ [.ref tt]))) tt = some (.tup [nI x0, nI (c x0 + (l.take i).count x0)]) := Kp.lst sl3 _ _ e3
      generalize upd H3 sl (.lst (ts.map V.ref ++ [.ref tt])) = H4 at *
      refine ⟨_, rfl, _, rfl, u, _, x0, _, rfl, rfl, SqL.of u4, useV_get _ hxW, _, _, rfl, rfl, u, _, _, x0, rfl, rfl, u4, ixN_nat (by rw [useV_len]; exact hxW), ?_⟩
      rw [useV_set (f' := fun z => c z + (l.take (i + 1)).count z) ?_ ?_]
      · have e5 : (upd H4 u (.lst (useV W fun z => c z + (l.take (i + 1)).count z))) sl = some (.lst (ts.map V.ref ++ [.ref tt])) := (upd_ne ne).trans e4
        refine ⟨_, ts ++ [tt], rfl, b4.at, upd_same, by rw [e5, List.map_append]; rfl, ?_⟩
        rw [show (spF c l).take (i + 1) = (spF c l).take i ++ [(x0, c x0 + (l.take i).count x0)] by rw [List.take_add_one, spF_get l c i x0 hx]; rfl]
        exact Paired.app (SpotsAt.kp S2 (k4.trans (Kp.lst u4))) (Paired.one (Kp.lst u4 _ _ t4))
      · rw [List.take_add_one, hx]
        show ((c x0 + List.count x0 (l.take i ++ [x0]) : Nat) : Int) = ((c x0 + (l.take i).count x0 : Nat) : Int) + 1
        rw [List.count_append]
        simp
        omega
      · intro z hz
        rw [List.take_add_one, hx]
        show c z + List.count z (l.take i ++ [x0]) = _
        rw [List.count_append, List.count_singleton]
        simp
        exact fun q => hz q.symm
    · rintro σ H2 ⟨x3, ts, rfl, b2, u2, sl2, S2⟩
      rw [List.length_map, List.take_length] at u2
      have el : (spF c l).take (l.map nI).length = spF c l := by
        rw [List.length_map, ← spF_len l c, List.take_length]
      rw [el] at S2
      refine ⟨_, rfl, sl, _, rfl, .inl ⟨SqL.of sl2, fun t ht => ?_⟩⟩
      refine alloc ht fun H3 s3 e3 => ?_
      exact k t ts H3 (b2.trans (But.of s3)) (s3 _ _ u2) e3 (SpotsAt.kp S2 (Kp.same s3))
end
end DL
namespace DL
open PySem L2 DLR
abbrev sSpotsOf : Stmt := top 77
abbrev FSpotsOf (K : Frg) (mg : Str → Option Value) := Fd K mg "spots_of" sSpotsOf ["laying"]
abbrev nSpotsOf : List Str := ["laying","wide","places","homes","used","rows","worths","home"]
def spSpotsOf : Sp := fun vs H Q _ => ∃ (b : Addr) (p : Prog) (y : Lay), vs = [.ref b] ∧ Good p ∧ LayAt H b y ∧ LayOk p y ∧
  ∀ t rt wl ts hs H', Same1 H H' → H' t = some (.tup [.ref rt, .ref wl, .int (mostF y)]) → H' rt = some (.tup (ts.map V.ref)) → SpotsAt H' ts (rowSp y) → H' wl = some (.lst (hs.map V.ref)) → LiesAt H' hs (worSp y) → Q (.ref t) H'
section
variable {P : Program} {w : World} {K : PySem.W.Frag} {mg : Str → Option Value} {base : Heap}
theorem scSpotsOf : FnScope nSpotsOf ["laying"] (defScope sSpotsOf) := ⟨rfl, rfl, rfl, by decide +kernel, rfl, by decide +kernel, by decide +kernel⟩
theorem ok_spotsOf (c : FSpotsOf K mg) (cTakeSpots : FTakeSpots K mg) (T : Bt mg) : FnOk P w K mg base CX0 2 c.f c.fd ["laying"] spSpotsOf := by
  have GTakeSpots : FnOk P w K mg base CX0 1 cTakeSpots.f cTakeSpots.fd ["places", "used"] spTakeSpots := ok_takeSpots cTakeSpots T
  refine c.F.ok scSpotsOf (fun vs H Q E h => ?_) (fun cdv A outer s H vs Q E hr h => ?_)
  · obtain ⟨b, p, y, rfl, _⟩ := h
    rfl
  · obtain ⟨b, p, y, rfl, g, ⟨pl, hl, cs, hb, hpl, hhl, hH⟩, yk, k⟩ := h
    have w2 := yk.w2
    have w24 := yk.w24
    have r40 := g.r40
    have w8 := g.w8
    have ypl := yk.pl
    have yhl := yk.hl
    have hcl := Paired.length hH
    refine ⟨_, (pss_cons (ps_asg (pv 0) (pg_tup rfl (pgs_cons (pg_name (i := 1) scSpotsOf.nd rfl (Or.inl rfl)) (pgs_cons (pg_name (i := 2) scSpotsOf.nd rfl (Or.inl rfl)) (pgs_cons (pg_name (i := 3) scSpotsOf.nd rfl (Or.inl rfl)) pgs_nil)))))
      (pss_cons (ps_set (i := 4) scSpotsOf.nd rfl (Or.inl rfl) (pe_op op_rep (pe_lst (pa_cons pe_int pa_nil)) (pv 1)))
      (pss_cons (ps_set (i := 5) scSpotsOf.nd rfl (Or.inl rfl) (pe_call GTakeSpots (hr.mono (by first | omega | decide)) (by rfl) cTakeSpots.m cTakeSpots.F.kp cTakeSpots.b .nil pass0 (pa_cons (pv 2) (pa_cons (pv 4) pa_nil))))
      (pss_cons (ps_set (i := 6) scSpotsOf.nd rfl (Or.inl rfl) (pe_lst pa_nil))
      (pss_cons (ps_for PassesOwn.never rfl (pi_tup (pv 3)) (pg_name (i := 7) scSpotsOf.nd rfl (Or.inl rfl))
          (pss_one (ps_expr (pe_bm PySem.F.plainAttrs_list PySem.F.slot_list_append PySem.F.type_list_append mt_append (pv 6) (pa_cons (pe_call GTakeSpots (hr.mono (by first | omega | decide)) (by rfl) cTakeSpots.m cTakeSpots.F.kp cTakeSpots.b .nil pass0 (pa_cons (pv 7) (pa_cons (pv 4) pa_nil))) pa_nil)))))
      (pss_one (ps_ret (pe_tup (pa_cons (pv 5) (pa_cons (pv 6) (pa_cons (pe_callB (cr_max rfl) (by rfl) T.max (by decide +kernel) (pa_cons (pv 4) pa_nil)) pa_nil))))))))))), ?_⟩
    refine ⟨_, rfl, b, _, rfl, SqT.of hb, rfl, _, _, rfl, _, _, rfl, _, _, rfl, rfl, ?_⟩
    refine ⟨(by show 1 ≤ sizeLine; decide), fun l0 hl0 => ?_⟩
    refine alloc hl0 fun H1 s1 e1 => ?_
    refine ⟨_, rfl, l0, _, _, rfl, rfl, e1, ?_, ?_, ?_, fun u hu => ?_⟩
    · omega
    · omega
    · refine sz ?_
      show 1 * _ ≤ _
      omega
    refine alloc hu fun H2 s2 e2 => ?_
    have S2 := s1.trans s2
    have nu : H u = none := s1.free hu
    have u2 : H2 u = some (.lst (useV y.wide fun _ => 0)) := by
      rw [e2]
      unfold useV
      rw [List.flatten_replicate_singleton, Int.toNat_natCast, List.map_map]
      congr 2
      refine List.ext_getElem (by simp) fun i h1 h2 => by simp
    refine ⟨_, rfl, _, rfl, pl, u, y.places, y.wide, _, rfl, S2 _ _ hpl, u2, by omega, by omega, yk.pok, fun rt ts H3 b3 u3 e3 r3 => ?_⟩
    have k3 : Kp H2 H3 := b3.kp u2
    have B3 : But u H H3 := (But.of S2).trans b3
    refine ⟨Nat.zero_le _, fun wl hwl => ?_⟩
    refine alloc hwl fun H4 s4 e4 => ?_
    have nwl : H wl = none := by
      cases q : H wl with
      | none => rfl
      | some o =>
        have ne : wl ≠ u := fun z => by rw [z, u3] at hwl; cases hwl
        rw [B3 _ _ ne q] at hwl
        cases hwl
    have ne : wl ≠ u := fun z => by rw [z, u3] at hwl; cases hwl
    refine ⟨_, rfl, hl, rfl, ⟨_, SqT.of (s4 _ _ (k3 _ _ (S2 _ _ hhl)))⟩, for_tup (K := K) (a := hl) (xs := cs.map V.ref) (fun i σ H' => ∃ (x7 : Option V) (hs : List Addr), σ = [some (.ref b), some (nI y.wide), some (.ref pl), some (.ref hl), some (.ref u), some (.ref rt), some (.ref wl), x7] ∧ Kp H4 H' ∧ But u H H' ∧ H' u = some (.lst (useV y.wide fun z => y.places.count z + (y.homes.take i).flatten.count z)) ∧ H' wl = some (.lst (hs.map V.ref)) ∧ LiesAt H' hs ((worSp y).take i))
      ⟨none, [], rfl, Kp.refl _, B3.trans (But.of s4), (s4 _ _ u3).trans ?_, e4, .nil⟩ (fun i σ H' _ ⟨_, _, _, kk, _⟩ => SqT.of (kk _ _ (s4 _ _ (k3 _ _ (S2 _ _ hhl))))) ?_ ?_⟩
    · congr 2
      refine useV_congr fun z => ?_
      simp
    · rintro i x σ H5 hi ⟨x7, hs, rfl, k5, b5, u5, wl5, L5⟩
      have hic : i < cs.length := by
        have q := (List.getElem?_eq_some_iff.mp hi).1
        rwa [List.length_map] at q
      have ex : x = .ref cs[i] := by
        rw [List.getElem?_map, List.getElem?_eq_getElem hic] at hi
        exact (Option.some.inj hi).symm
      subst ex
      obtain ⟨h0, hq1, hq2⟩ := Paired.get hH (List.getElem?_eq_getElem hic)
      have hok := yk.hok h0 (List.mem_of_getElem? hq1)
      have l3 := hok.l3
      have hll := Paired.length L5
      rw [List.length_take, worSp_len] at hll
      have c5 : H5 cs[i] = some (.tup (h0.map nI)) := k5 _ _ (s4 _ _ (k3 _ _ (S2 _ _ hq2)))
      refine ⟨_, rfl, .inl ⟨rfl, _, SqL.of wl5⟩, _, rfl, _, rfl, cs[i], u, h0, y.wide, _, rfl, c5, u5, by omega, by omega, hok.lt, fun ht hts H6 b6 u6 e6 r6 => ?_⟩
      have wl6 := b6 _ _ ne wl5
      have k6 : Kp H5 H6 := b6.kp u5
      have kf : Kp H6 (upd H6 wl (.lst (hs.map V.ref ++ [.ref ht]))) := Kp.lst wl6
      refine ⟨wl, _, _, rfl, rfl, wl6, szl (by rw [List.length_map]; omega), _, hs ++ [ht], rfl, (k5.trans k6).trans kf, (b5.trans b6).mut nwl, ?_, by rw [upd_same, List.map_append]; rfl, ?_⟩
      · rw [upd_ne ne.symm, u6]
        congr 2
        refine useV_congr fun z => ?_
        rw [List.take_add_one, hq1]
        show _ = _ + List.count z (List.flatten (_ ++ [h0]))
        rw [List.flatten_append, List.count_append]
        simp
        omega
      · rw [show (worSp y).take (i + 1) = (worSp y).take i ++ [spF (fun z => y.places.count z + (y.homes.take i).flatten.count z) h0] by
          unfold worSp
          rw [List.take_add_one, liesF_get y.homes _ i h0 hq1]
          rfl]
        exact Paired.app (LiesAt.kp L5 (k6.trans kf)) (Paired.one ⟨hts, kf _ _ e6, SpotsAt.kp r6 kf⟩)
    · rintro σ H5 ⟨x7, hs, rfl, k5, b5, u5, wl5, L5⟩
      rw [List.length_map, hcl, List.take_length] at u5
      rw [List.length_map, hcl, show (worSp y).take y.homes.length = worSp y by rw [← worSp_len y, List.take_length]] at L5
      refine ⟨_, rfl, _, rfl, _, rfl, u, _, rfl, SqL.of u5, ?_, fun m hm hmx => ?_⟩
      · rw [List.length_map, List.length_range]
        omega
      refine ⟨(by show 3 ≤ sizeLine; decide), fun t ht => ?_⟩
      refine alloc ht fun H6 s6 e6 => ?_
      have em : m = mostF y := by
        rw [maxL_is hm hmx]
        rfl
      rw [em] at e6
      have S6 : Same1 H H6 := fun a o q => by
        have na : a ≠ u := fun z => by rw [z, nu] at q; cases q
        exact s6 _ _ (b5 _ _ na q)
      exact k t rt wl ts hs H6 S6 e6 (s6 _ _ (k5 _ _ (s4 _ _ e3))) (SpotsAt.kp r3 (((Kp.same s4).trans k5).trans (Kp.same s6))) (s6 _ _ wl5) (LiesAt.kp L5 (Kp.same s6))
end
end DL
namespace DL
open PySem L2 DLR
def whatV (r : Row) (ts hs : List Addr) : List V := .str r.word :: ((if r.uses = true then [V.ref (hs.getD r.wor 0)] else []) ++ (nx r).map fun t => V.ref (ts.getD t 0))
abbrev sRowCell : Stmt := top 79
abbrev FRowCell (K : Frg) (mg : Str → Option Value) := Fd K mg "row_cell" sRowCell ["row", "rows", "worths"]
abbrev nRowCell : List Str := ["row","rows","worths","what","to"]
def spRowCell : Sp := fun vs H Q _ => ∃ (a rt wl : Addr) (r : Row) (ts hs : List Addr), vs = [.ref a, .ref rt, .ref wl] ∧ H a = some (.tup (rowVs r)) ∧ r.ok hs.length ts.length ∧ H rt = some (.tup (ts.map V.ref)) ∧ H wl = some (.lst (hs.map V.ref)) ∧
  ∀ t H', Same1 H H' → H' t = some (.tup (whatV r ts hs)) → Q (.ref t) H'
theorem nx_ltY {r : Row} {W N : Nat} (h : r.ok W N) : ∀ t ∈ nx r, t < N := fun t ht => by
  cases r with
  | load x m => rw [List.mem_singleton.mp ht]; exact h.2
  | add x m => rw [List.mem_singleton.mp ht]; exact h.2
  | take x m => rw [List.mem_singleton.mp ht]; exact h.2
  | store x m => rw [List.mem_singleton.mp ht]; exact h.2
  | say m => rw [List.mem_singleton.mp ht]; exact h
  | test a b =>
    rcases List.mem_cons.mp ht with e | e
    · rw [e]; exact h.1
    · rw [List.mem_singleton.mp e]; exact h.2
  | stop => cases ht
theorem refs_get {bs : List Addr} {i : Nat} (h : i < bs.length) : (bs.map V.ref)[i]? = some (V.ref (bs.getD i 0)) := by
  rw [List.getElem?_map, List.getElem?_eq_getElem h, List.getD_eq_getElem?_getD, List.getElem?_eq_getElem h]
  rfl
section
variable {P : Program} {w : World} {K : PySem.W.Frag} {mg : Str → Option Value} {base : Heap}
theorem scRowCell : FnScope nRowCell ["row", "rows", "worths"] (defScope sRowCell) := ⟨rfl, rfl, rfl, by decide +kernel, rfl, by decide +kernel, by decide +kernel⟩
theorem ok_rowCell (c : FRowCell K mg) (cNexts : FNexts K mg) (cUsesWorth : FUsesWorth K mg) (T : Bt mg) (Z : Pt K w mg) : FnOk P w K mg base CX0 3 c.f c.fd ["row", "rows", "worths"] spRowCell := by
  have GNexts : FnOk P w K mg base CX0 2 cNexts.f cNexts.fd ["row"] spNexts := ok_nexts cNexts cUsesWorth Z
  have GUsesWorth : FnOk P w K mg base CX0 1 cUsesWorth.f cUsesWorth.fd ["row"] spUses := ok_usesWorth cUsesWorth Z
  refine c.F.ok scRowCell (fun vs H Q E h => ?_) (fun cdv A outer s H vs Q E hr h => ?_)
  · obtain ⟨a, rt, wl, r, ts, hs, rfl, _⟩ := h
    rfl
  · obtain ⟨a, rt, wl, r, ts, hs, rfl, ha, hok, hrt, hwl, k⟩ := h
    have h0 : (rowVs r)[0]? = some (.str r.word) := r.w0
    have hnl := nx_len r
    refine ⟨_, (pss_cons (ps_set (i := 3) scRowCell.nd rfl (Or.inl rfl) (pe_lst (pa_cons (pe_ix ix_tup (pv 0) pe_int (fun _ _ => rfl)) pa_nil)))
      (pss_cons (ps_if (pt_val (pe_call GUsesWorth (hr.mono (by first | omega | decide)) (by rfl) cUsesWorth.m cUsesWorth.F.kp cUsesWorth.b .nil pass0 (pa_cons (pv 0) pa_nil)))
          (pss_one (ps_expr (pe_bm PySem.F.plainAttrs_list PySem.F.slot_list_append PySem.F.type_list_append mt_append (pv 3) (pa_cons (pe_ix ix_list (pv 2) (pe_ix ix_tup (pv 0) pe_int (fun _ _ => rfl)) (fun _ _ => rfl)) pa_nil))))
          pss_nil)
      (pss_cons (ps_expr (pe_bm PySem.F.plainAttrs_list PySem.F.slot_list_extend PySem.F.type_list_extend mt_extend (pv 3) (pa_cons (pe_lc (own := [("to", 4)]) (g := gName 4) (tt := tYes) rfl scRowCell.nd (pi_tup (pe_call GNexts (hr.mono (by first | omega | decide)) (by rfl) cNexts.m cNexts.F.kp cNexts.b .nil pass0 (pa_cons (pv 0) pa_nil))) (blkOk_by (N := nRowCell) (sc := defScope sRowCell) (by decide +kernel)) (fun _ _ _ _ _ => (pg_name (i := 4) scRowCell.nd rfl (Or.inl rfl))) (fun _ _ _ _ _ => pts_nil) (fun _ _ _ _ _ => (pe_ix (ix_tupK K rfl) (pv 1) (pv 4) (fun _ _ => rfl)))) pa_nil)))
      (pss_one (ps_ret (pe_callTy call_tuple_of (by rfl) T.tuple (by decide +kernel) (pa_cons (pv 3) pa_nil))))))), ?_⟩
    refine ⟨_, rfl, a, _, _, _, rfl, rfl, SqT.of ha, atI_nat (j := 0) h0, ?_⟩
    refine ⟨(by show 1 ≤ sizeLine; decide), fun wh hwh => ?_⟩
    refine alloc hwh fun H1 s1 e1 => ?_
    refine ⟨_, rfl, a, r, rfl, s1 _ _ ha, ?_⟩
    obtain ⟨pre, hpre, hpl, hgo⟩ : ∃ pre : List V, pre ++ (nx r).map (fun t => V.ref (ts.getD t 0)) = whatV r ts hs ∧ pre.length ≤ 2 ∧ pre = .str r.word :: (if r.uses = true then [V.ref (hs.getD r.wor 0)] else []) :=
      ⟨_, rfl, by cases r.uses <;> simp, rfl⟩
    cases hu : r.uses with
    | true =>
      have hw := Row.wor_lt hu hok
      refine ⟨_, rfl, iteT ⟨_, rfl, .inl ⟨rfl, _, SqL.of e1⟩, _, rfl, _, rfl, a, _, _, _, rfl, rfl, SqT.of (s1 _ _ ha), atI_nat (j := 1) (Row.wor_at hu), wl, _, _, _, rfl, rfl, SqL.of (s1 _ _ hwl), atI_nat (refs_get hw), wh, _, _, rfl, rfl, e1, szl (by show 1 < 100000; decide), ?_⟩⟩
      rw [hu, if_pos rfl] at hgo
      have M2 : Same1 H (upd H1 wh (.lst ([V.str r.word] ++ [V.ref (hs.getD r.wor 0)]))) := Same.mut s1 hwh
      have E2 : (upd H1 wh (.lst ([V.str r.word] ++ [V.ref (hs.getD r.wor 0)]))) wh = some (.lst pre) := by rw [upd_same, hgo]; rfl
      generalize upd H1 wh (.lst ([V.str r.word] ++ [V.ref (hs.getD r.wor 0)])) = H2 at *
      refine ⟨_, rfl, .inl ⟨rfl, _, SqL.of E2⟩, _, rfl, a, r, rfl, M2 _ _ ha, fun nt H3 s3 e3 => ?_⟩
      have S3 := M2.trans s3
      refine ⟨nt, rfl, ⟨_, SqT.of e3⟩, fun D hD => ?_⟩
      refine lc_tup (K := K) (a := nt) (xs := (nx r).map nI) (fun j H' => Same1 H3 H' ∧ H' D = some (.lst (((nx r).take j).map fun t => V.ref (ts.getD t 0)))) ⟨Same.new hD, upd_same⟩ (fun j H' _ ⟨q, _⟩ => SqT.of (q _ _ e3)) ?_ ?_
      · rintro j x H4 hj ⟨s4, hd4⟩
        rw [List.getElem?_map] at hj
        cases hx : (nx r)[j]? with
        | none => rw [hx] at hj; cases hj
        | some x0 =>
        rw [hx] at hj
        have ex : nI x0 = x := Option.some.inj hj
        subst ex
        have hl := nx_ltY hok x0 (List.mem_of_getElem? hx)
        refine ⟨rfl, _, rfl, _, rfl, rt, _, _, _, rfl, rfl, SqT.of ((S3.trans s4) _ _ hrt), atI_nat (refs_get hl), _, hd4, szl (by rw [List.length_map, List.length_take]; omega), Same.mut s4 hD, ?_⟩
        rw [upd_same, List.take_add_one, hx, List.map_append]
        rfl
      · rintro H4 ⟨s4, hd4⟩
        rw [List.length_map, List.take_length] at hd4
        have E4 := s4 _ _ (s3 _ _ E2)
        refine ⟨wh, D, _, _, rfl, rfl, E4, hd4, sz (by rw [List.length_map]; omega), ?_⟩
        rw [hpre]
        refine ⟨_, rfl, wh, _, rfl, .inl ⟨SqL.of upd_same, fun t ht => ?_⟩⟩
        have M5 : Same1 H (upd H4 wh (.lst (whatV r ts hs))) := Same.mut (S3.trans s4) hwh
        exact k t _ (M5.trans (Same.new ht)) upd_same
    | false =>
      refine ⟨_, rfl, iteF ?_⟩
      rw [hu, if_neg (by decide)] at hgo
      have M2 : Same1 H H1 := s1
      have E2 : H1 wh = some (.lst pre) := by rw [hgo]; exact e1
      generalize H1 = H2 at *
      refine ⟨_, rfl, .inl ⟨rfl, _, SqL.of E2⟩, _, rfl, a, r, rfl, M2 _ _ ha, fun nt H3 s3 e3 => ?_⟩
      have S3 := M2.trans s3
      refine ⟨nt, rfl, ⟨_, SqT.of e3⟩, fun D hD => ?_⟩
      refine lc_tup (K := K) (a := nt) (xs := (nx r).map nI) (fun j H' => Same1 H3 H' ∧ H' D = some (.lst (((nx r).take j).map fun t => V.ref (ts.getD t 0)))) ⟨Same.new hD, upd_same⟩ (fun j H' _ ⟨q, _⟩ => SqT.of (q _ _ e3)) ?_ ?_
      · rintro j x H4 hj ⟨s4, hd4⟩
        rw [List.getElem?_map] at hj
        cases hx : (nx r)[j]? with
        | none => rw [hx] at hj; cases hj
        | some x0 =>
        rw [hx] at hj
        have ex : nI x0 = x := Option.some.inj hj
        subst ex
        have hl := nx_ltY hok x0 (List.mem_of_getElem? hx)
        refine ⟨rfl, _, rfl, _, rfl, rt, _, _, _, rfl, rfl, SqT.of ((S3.trans s4) _ _ hrt), atI_nat (refs_get hl), _, hd4, szl (by rw [List.length_map, List.length_take]; omega), Same.mut s4 hD, ?_⟩
        rw [upd_same, List.take_add_one, hx, List.map_append]
        rfl
      · rintro H4 ⟨s4, hd4⟩
        rw [List.length_map, List.take_length] at hd4
        have E4 := s4 _ _ (s3 _ _ E2)
        refine ⟨wh, D, _, _, rfl, rfl, E4, hd4, sz (by rw [List.length_map]; omega), ?_⟩
        rw [hpre]
        refine ⟨_, rfl, wh, _, rfl, .inl ⟨SqL.of upd_same, fun t ht => ?_⟩⟩
        have M5 : Same1 H (upd H4 wh (.lst (whatV r ts hs))) := Same.mut (S3.trans s4) hwh
        exact k t _ (M5.trans (Same.new ht)) upd_same
end
end DL
namespace DLR
open PySem PySem.Spec L2
theorem lc_zipY {K : PySem.W.Frag} {a b : Addr} {xs ys : List V} {g : TG} {tt : TT} {te : TE} {vs : List Nat} {σ : L2.St} {H1 : Hp} {D : Addr} {Qd : Hp → Prop} (hxy : ys.length ≤ xs.length) (Pv : Nat → Hp → Prop) (h0 : Pv 0 (upd H1 D (.lst [])))
    (hl : ∀ i H, i ≤ ys.length → Pv i H → SqT K H a xs ∧ SqT K H b ys)
    (hs : ∀ i x y T H H', xs[i]? = some x → ys[i]? = some y → Pv i H → H T = none → H' = upd H T (.tup [x, y]) → g (.ref T) (wipe σ vs) H' fun σ2 H2 => wipe σ2 vs = wipe σ vs ∧ tt σ2 H2 fun b H3 =>
      if b = true then te σ2 H3 fun y H4 => ∃ acc, H4 D = some (.lst acc) ∧ acc.length < sizeLine ∧ Pv (i + 1) (upd H4 D (.lst (acc ++ [y]))) else Pv (i + 1) H3) (hd : ∀ H, Pv ys.length H → Qd H) :
    ∃ W : Nat → Nat → Hp → Prop, (∃ m, W 0 m (upd H1 D (.lst []))) ∧ ∀ i m H, W i m H →
      ((RZ.ItzT K a b).stop i H ∧ Qd H) ∨ ((RZ.ItzT K a b).go i H ∧ ∃ Nx : Hp → Prop, (∀ H', Nx H' → ∃ m', m' < m ∧ W (i + 1) m' H') ∧ ∀ x H', (RZ.ItzT K a b).yld i H x H' → g x (wipe σ vs) H' fun σ2 H2 => wipe σ2 vs = wipe σ vs ∧ tt σ2 H2 fun b H3 =>
        if b = true then te σ2 H3 fun y H4 => ∃ acc, H4 D = some (.lst acc) ∧ acc.length < sizeLine ∧ Nx (upd H4 D (.lst (acc ++ [y]))) else Nx H3) := by
  refine ⟨fun i m H => m = ys.length - i ∧ i ≤ ys.length ∧ Pv i H, ⟨ys.length, by simp, Nat.zero_le _, h0⟩, ?_⟩
  rintro i m H ⟨rfl, hi, p⟩
  obtain ⟨q, q'⟩ := hl i H hi p
  by_cases hlt : i < ys.length
  · have hlt2 : i < xs.length := by omega
    have gx := List.getElem?_eq_getElem hlt2
    have gy := List.getElem?_eq_getElem hlt
    refine .inr ⟨⟨xs, ys, xs[i], ys[i], q, q', gx, gy⟩, Pv (i + 1), fun H' p' => ⟨ys.length - (i + 1), by omega, rfl, hlt, p'⟩, fun x H' y => ?_⟩
    obtain ⟨T, u, v, rfl, hT, rfl, hu, hv⟩ := y
    exact hs i u v T H _ (hu xs q) (hv ys q') p hT rfl
  · have e : i = ys.length := by omega
    subst e
    exact .inl ⟨⟨xs, ys, q, q', .inr (Nat.le_refl _)⟩, hd H p⟩
theorem for_zipN {K : PySem.W.Frag} {a b : Addr} {xs ys : List V} {g : TG} {tb : TS} {D : Ends} {σ : L2.St} {H : Hp} (hl : xs.length = ys.length) (Pv : Nat → L2.St → Hp → Prop) (h0 : Pv 0 σ H) (hq : ∀ i σ H, Pv i σ H → SqL K H a xs ∧ SqT K H b ys)
    (hs : ∀ (i : Nat) (x y : V) (T : Addr) (σ : L2.St) (H : Hp), xs[i]? = some x → ys[i]? = some y → Pv i σ H → H T = none → g (.ref T) σ (upd H T (.tup [x, y])) fun σ2 H2 => tb { D with nx := Pv (i + 1), ct := Pv (i + 1), bk := D.nx } σ2 H2) (hd : ∀ σ H, Pv xs.length σ H → D.nx σ H) :
    ∃ W : Nat → Nat → L2.St → Hp → Prop, (∃ m, W 0 m σ H) ∧ ∀ i m σ H, W i m σ H →
      ((ItzN K a b).stop i H ∧ D.nx σ H) ∨ ((ItzN K a b).go i H ∧ ∃ N : L2.St → Hp → Prop, (∀ σ' H', N σ' H' → ∃ m', m' < m ∧ W (i + 1) m' σ' H') ∧ ∀ v H', (ItzN K a b).yld i H v H' → g v σ H' fun σ2 H2 => tb { D with nx := N, ct := N, bk := D.nx } σ2 H2) := by
  refine ⟨fun i m σ H => m = xs.length - i ∧ i ≤ xs.length ∧ Pv i σ H, ⟨xs.length, rfl, Nat.zero_le _, h0⟩, ?_⟩
  rintro i m σ H ⟨rfl, hi, p⟩
  obtain ⟨qx, qy⟩ := hq i σ H p
  by_cases hlt : i < xs.length
  · have hx : xs[i]? = some xs[i] := List.getElem?_eq_getElem hlt
    have hlt2 : i < ys.length := by omega
    have hy : ys[i]? = some ys[i] := List.getElem?_eq_getElem hlt2
    refine .inr ⟨⟨xs, ys, _, _, qx, qy, hx, hy⟩, Pv (i + 1), fun σ' H' p' => ⟨xs.length - (i + 1), by omega, rfl, hlt, p'⟩, fun v H' y => ?_⟩
    obtain ⟨T, x', y', rfl, hT, rfl, f1, f2⟩ := y
    exact hs i x' y' T σ H (f1 xs qx) (f2 ys qy) p hT
  · have e : i = xs.length := by omega
    subst e
    exact .inl ⟨⟨xs, ys, qx, qy, rfl, hl.symm⟩, hd σ H p⟩
end DLR
namespace DL
open PySem PySem.Spec L2 DLR
/-! ### data without lists -/
mutual
def D.flat : D → Prop
  | .lst _ => False
  | .tup ds => flatD ds
  | _ => True
def flatD : List D → Prop
  | [] => True
  | d :: ds => d.flat ∧ flatD ds
end
theorem flatD_iff : ∀ {ds : List D}, flatD ds ↔ ∀ x ∈ ds, x.flat
  | [] => by simp [flatD]
  | d :: ds => by simp [flatD, flatD_iff (ds := ds)]
mutual
theorem At.keep {H H' : Hp} (k : Kp H H') : ∀ (d : D) (v : V), d.flat → At H v d → At H' v d
  | .non, v, _, h => by simpa [At] using h
  | .bl b, v, _, h => by simpa [At] using h
  | .int i, v, _, h => by simpa [At] using h
  | .str x, v, _, h => by simpa [At] using h
  | .lst ds, v, f, h => by simp [D.flat] at f
  | .tup ds, v, f, h => by
    obtain ⟨a, vs, rfl, h1, h2⟩ : ∃ a vs, v = .ref a ∧ H a = some (.tup vs) ∧ Ats H vs ds := by simpa [At] using h
    have q := Ats.keep k ds vs (by simpa [D.flat] using f) h2
    simp only [At]
    exact ⟨a, vs, rfl, k _ _ h1, q⟩
theorem Ats.keep {H H' : Hp} (k : Kp H H') : ∀ (ds : List D) (vs : List V), flatD ds → Ats H vs ds → Ats H' vs ds
  | [], [], _, _ => by simp [Ats]
  | d :: ds, v :: vs, f, h => by
    have h : At H v d ∧ Ats H vs ds := by simpa [Ats] using h
    have f : d.flat ∧ flatD ds := by simpa [flatD] using f
    simp only [Ats]
    exact ⟨At.keep k d v f.1 h.1, Ats.keep k ds vs f.2 h.2⟩
  | [], _ :: _, _, h => by simp [Ats] at h
  | _ :: _, [], _, h => by simp [Ats] at h
end
theorem at_tup {H : Hp} {a : Addr} {vs : List V} {ds : List D} (h : H a = some (.tup vs)) (q : Ats H vs ds) : At H (.ref a) (.tup ds) := by
  simp only [At]
  exact ⟨a, vs, rfl, h, q⟩
theorem at_lst {H : Hp} {a : Addr} {vs : List V} {ds : List D} (h : H a = some (.lst vs)) (q : Ats H vs ds) : At H (.ref a) (.lst ds) := by
  simp only [At]
  exact ⟨a, vs, rfl, h, q⟩
theorem at_int {H : Hp} {i : Int} : At H (.int i) (.int i) := by simp only [At]
theorem at_str {H : Hp} {x : Str} : At H (.str x) (.str x) := by simp only [At]
theorem ats_nil {H : Hp} : Ats H [] [] := by simp only [Ats]
theorem ats_cons {H : Hp} {v : V} {vs : List V} {d : D} {ds : List D} (h : At H v d) (q : Ats H vs ds) : Ats H (v :: vs) (d :: ds) := by
  simp only [Ats]
  exact ⟨h, q⟩
theorem ats_app {H : Hp} : ∀ {vs : List V} {ds : List D} {us : List V} {es : List D}, Ats H vs ds → Ats H us es → Ats H (vs ++ us) (ds ++ es)
  | [], [], _, _, _, g => g
  | v :: vs, d :: ds, _, _, h, g => by
    have h : At H v d ∧ Ats H vs ds := by simpa [Ats] using h
    exact ats_cons h.1 (ats_app h.2 g)
  | [], _ :: _, _, _, h, _ => by simp [Ats] at h
  | _ :: _, [], _, _, h, _ => by simp [Ats] at h
theorem ats_map {α : Type} {H : Hp} {f : α → V} {g : α → D} : ∀ {l : List α}, (∀ t ∈ l, At H (f t) (g t)) → Ats H (l.map f) (l.map g)
  | [], _ => ats_nil
  | x :: l, h => ats_cons (h x List.mem_cons_self) (ats_map fun t ht => h t (List.mem_cons_of_mem _ ht))
theorem depL_le {n : Nat} : ∀ {ds : List D}, (∀ x ∈ ds, x.dep ≤ n) → depL ds ≤ n
  | [], _ => Nat.zero_le _
  | d :: ds, h => by
    have h1 := h d List.mem_cons_self
    have h2 := depL_le (ds := ds) fun x hx => h x (List.mem_cons_of_mem _ hx)
    show max d.dep (depL ds) ≤ n
    omega
theorem dep_tup {n : Nat} {ds : List D} (h : ∀ x ∈ ds, x.dep ≤ n) : (D.tup ds).dep ≤ n + 1 := by
  have := depL_le h
  show depL ds + 1 ≤ _
  omega
theorem dep_lst {n : Nat} {ds : List D} (h : ∀ x ∈ ds, x.dep ≤ n) : (D.lst ds).dep ≤ n + 1 := by
  have := depL_le h
  show depL ds + 1 ≤ _
  omega
theorem fit_tup {ds : List D} (hl : ds.length ≤ 100000) (h : ∀ x ∈ ds, x.fit) : (D.tup ds).fit := by
  simp only [D.fit]
  exact ⟨hl, fitL_iff.mpr h⟩
theorem fit_lst {ds : List D} (hl : ds.length ≤ 100000) (h : ∀ x ∈ ds, x.fit) : (D.lst ds).fit := by
  simp only [D.fit]
  exact ⟨hl, fitL_iff.mpr h⟩
theorem flat_tup {ds : List D} (h : ∀ x ∈ ds, x.flat) : (D.tup ds).flat := by
  simp only [D.flat]
  exact flatD_iff.mpr h
structure Fine (n : Nat) (d : D) : Prop where
  dep : d.dep ≤ n
  fit : d.fit
  flat : d.flat
theorem fine_tup {n : Nat} {ds : List D} (hl : ds.length ≤ 100000) (h : ∀ x ∈ ds, Fine n x) : Fine (n + 1) (.tup ds) :=
  ⟨dep_tup fun x hx => (h x hx).dep, fit_tup hl fun x hx => (h x hx).fit, flat_tup fun x hx => (h x hx).flat⟩
theorem fine_int (n : Nat) (i : Int) : Fine n (.int i) := ⟨Nat.zero_le _, by simp [D.fit], by simp [D.flat]⟩
theorem fine_str (n : Nat) (x : Str) : Fine n (.str x) := ⟨Nat.zero_le _, by simp [D.fit], by simp [D.flat]⟩
theorem fine_mono {n m : Nat} {d : D} (h : Fine n d) (le : n ≤ m) : Fine m d := ⟨Nat.le_trans h.dep le, h.fit, h.flat⟩
theorem fine_spot (q : Nat × Nat) : Fine 1 (spotD q) := fine_tup (by show 2 ≤ 100000; decide) fun x hx => by
  rcases List.mem_cons.mp hx with rfl | hx
  · exact fine_int _ _
  · rw [List.mem_singleton.mp hx]
    exact fine_int _ _
theorem fine_homes {l : List (Nat × Nat)} (h : l.length ≤ 100) : Fine 2 (homesD l) := fine_tup (by rw [List.length_map]; omega) fun x hx => by
  obtain ⟨q, _, rfl⟩ := List.mem_map.mp hx
  exact fine_spot q
theorem fine_wor (z : Int) : Fine 1 (worD z) := fine_tup (by show 2 ≤ 100000; decide) fun x hx => by
  rcases List.mem_cons.mp hx with rfl | hx
  · exact fine_str _ _
  · rw [List.mem_singleton.mp hx]
    exact fine_int _ _
theorem worSp_3 {p : Prog} {y : Lay} (yk : LayOk p y) : ∀ l ∈ worSp y, l.length ≤ 3 := fun l hl => by
  obtain ⟨j, hj, e⟩ := List.mem_iff_getElem.mp hl
  have hj2 : j < y.homes.length := by rw [← worSp_len]; exact hj
  have q := liesF_get y.homes (fun z => y.places.count z) j _ (List.getElem?_eq_getElem hj2)
  have q2 : (worSp y)[j]? = some l := by rw [List.getElem?_eq_getElem hj, e]
  have q3 : some l = some _ := q2.symm.trans q
  rw [Option.some.inj q3, spF_len]
  exact (yk.hok _ (List.getElem_mem hj2)).l3
theorem worSp_g3 {p : Prog} {y : Lay} (yk : LayOk p y) (j : Nat) : ((worSp y).getD j []).length ≤ 3 := by
  rw [List.getD_eq_getElem?_getD]
  cases q : (worSp y)[j]? with
  | none => exact Nat.zero_le _
  | some l => exact worSp_3 yk l (List.mem_of_getElem? q)
theorem fine_what {p : Prog} {y : Lay} (yk : LayOk p y) (r : Row) : Fine 3 (whatD y r) := by
  have hn := nx_len r
  refine fine_tup ?_ fun x hx => ?_
  · unfold whatDs
    cases r.uses <;> simp <;> omega
  · rcases List.mem_cons.mp hx with rfl | hx
    · exact fine_str _ _
    · rcases List.mem_append.mp hx with hx | hx
      · split at hx
        · rw [List.mem_singleton.mp hx]
          exact fine_homes (Nat.le_trans (worSp_g3 yk _) (by decide))
        · cases hx
      · obtain ⟨t, _, rfl⟩ := List.mem_map.mp hx
        exact fine_mono (fine_spot _) (by decide)
theorem cells_fine {p : Prog} {y : Lay} (yk : LayOk p y) {j : Nat} : ∀ c ∈ cellsN p y j, Fine 3 c.2 := fun c hc => by
  rcases List.mem_append.mp hc with h | h
  · obtain ⟨i, _, rfl⟩ := List.mem_map.mp h
    exact fine_what yk _
  · obtain ⟨i, _, h⟩ := List.mem_flatMap.mp h
    obtain ⟨s, _, rfl⟩ := List.mem_map.mp h
    exact fine_mono (fine_wor _) (by decide)
theorem worCells_len {p : Prog} {y : Lay} (yk : LayOk p y) (j : Nat) : (worCells p y j).length ≤ 3 := by
  unfold worCells
  rw [List.length_map]
  exact worSp_g3 yk j
theorem cellsN_len {p : Prog} {y : Lay} (g : Good p) (yk : LayOk p y) : ∀ j, (cellsN p y j).length ≤ 40 + 3 * j
  | 0 => by
    have := g.r40
    unfold cellsN
    simp
    omega
  | j + 1 => by
    have := cellsN_len g yk j
    have := worCells_len yk j (p := p)
    rw [cellsN_succ, List.length_append]
    omega
theorem image_dep {p : Prog} {y : Lay} (g : Good p) (yk : LayOk p y) {o : List Nat} (ho : o.length ≤ 1000) : (imageD p y o).dep ≤ 6 ∧ (imageD p y o).fit := by
  have hc : ∀ i, Fine 4 (cellD ((cellsF p y).getD i ((0, 0), .non))) := fun i => by
    have z : Fine 3 ((cellsF p y).getD i ((0, 0), .non)).2 := by
      rw [List.getD_eq_getElem?_getD]
      cases q : (cellsF p y)[i]? with
      | none => exact ⟨Nat.zero_le _, by simp [D.fit], by simp [D.flat]⟩
      | some c => exact cells_fine yk c (List.mem_of_getElem? q)
    refine fine_tup (by show 2 ≤ 100000; decide) fun x hx => ?_
    rcases List.mem_cons.mp hx with rfl | hx
    · exact fine_mono (fine_spot _) (by decide)
    · rw [List.mem_singleton.mp hx]
      exact z
  have hl : ∀ x ∈ (o.map fun i => cellD ((cellsF p y).getD i ((0, 0), .non))), Fine 4 x := fun x hx => by
    obtain ⟨i, _, rfl⟩ := List.mem_map.mp hx
    exact hc i
  constructor
  · refine dep_tup fun x hx => ?_
    rcases List.mem_cons.mp hx with rfl | hx
    · exact Nat.zero_le _
    rcases List.mem_cons.mp hx with rfl | hx
    · exact (fine_mono (fine_spot _) (by decide)).dep
    · rw [List.mem_singleton.mp hx]
      exact dep_lst fun x hx => (hl x hx).dep
  · refine fit_tup (by show 3 ≤ 100000; decide) fun x hx => ?_
    rcases List.mem_cons.mp hx with rfl | hx
    · simp [D.fit]
    rcases List.mem_cons.mp hx with rfl | hx
    · exact (fine_spot _).fit
    · rw [List.mem_singleton.mp hx]
      exact fit_lst (by rw [List.length_map]; omega) fun x hx => (hl x hx).fit
end DL
namespace DL
open PySem L2 DLR
theorem in64C {k : Nat} {A : Around} (hr : Room k A) : A.units + 64 < cLine := by
  have := hr.un
  omega
theorem spot_at {H : Hp} {ts : List Addr} {qs : List (Nat × Nat)} (h : SpotsAt H ts qs) {i : Nat} (hi : i < qs.length) : H (ts.getD i 0) = some (.tup [nI (qs.getD i (0, 0)).1, nI (qs.getD i (0, 0)).2]) := by
  obtain ⟨t, h1, h2⟩ := Paired.getR h (List.getElem?_eq_getElem hi)
  rw [List.getD_eq_getElem?_getD, h1, List.getD_eq_getElem?_getD, List.getElem?_eq_getElem hi]
  exact h2
theorem spotD_at {H : Hp} {t : Addr} {q : Nat × Nat} (h : H t = some (.tup [nI q.1, nI q.2])) : At H (.ref t) (spotD q) := at_tup h (ats_cons at_int (ats_cons at_int ats_nil))
theorem spots_ats {H : Hp} : ∀ {ts : List Addr} {qs : List (Nat × Nat)}, SpotsAt H ts qs → Ats H (ts.map V.ref) (qs.map spotD)
  | _, _, .nil => ats_nil
  | _, _, .cons h t => ats_cons (spotD_at h) (spots_ats t)
theorem lies_at {H : Hp} {hs : List Addr} {L : List (List (Nat × Nat))} (h : LiesAt H hs L) {j : Nat} (hj : j < L.length) : At H (.ref (hs.getD j 0)) (homesD (L.getD j [])) := by
  obtain ⟨t, h1, ts, h2, h3⟩ := Paired.getR h (List.getElem?_eq_getElem hj)
  rw [List.getD_eq_getElem?_getD, h1, List.getD_eq_getElem?_getD, List.getElem?_eq_getElem hj]
  exact at_tup h2 (spots_ats h3)
theorem what_at {H : Hp} {y : Lay} {ts hs : List Addr} {r : Row} {t : Addr} (h : H t = some (.tup (whatV r ts hs))) (S : SpotsAt H ts (rowSp y)) (L : LiesAt H hs (worSp y)) (ok : r.ok y.homes.length y.places.length) : At H (.ref t) (whatD y r) := by
  refine at_tup h (ats_cons at_str (ats_app ?_ (ats_map fun x hx => spotD_at (spot_at S (by rw [rowSp_len]; exact nx_ltY ok x hx)))))
  cases hu : r.uses with
  | true => exact ats_cons (lies_at L (by rw [worSp_len]; exact Row.wor_lt hu ok)) ats_nil
  | false => exact ats_nil
def CellAt (H : Hp) (b : Addr) (c : Cell) : Prop := ∃ (s : Addr) (v : V), H b = some (.tup [.ref s, v]) ∧ H s = some (.tup [nI c.1.1, nI c.1.2]) ∧ At H v c.2 ∧ c.2.flat
abbrev CellsAt (H : Hp) (bs : List Addr) (cs : List Cell) : Prop := Paired (CellAt H) bs cs
theorem CellsAt.kp {H H' : Hp} {bs : List Addr} {cs : List Cell} (h : CellsAt H bs cs) (k : Kp H H') : CellsAt H' bs cs := Paired.mapP h fun b c ⟨s, v, e1, e2, e3, e4⟩ => ⟨s, v, k _ _ e1, k _ _ e2, At.keep k _ _ e4 e3, e4⟩
theorem cells_keys {H : Hp} : ∀ {bs : List Addr} {cs : List Cell}, CellsAt H bs cs → Paired (CellK H) bs (cs.map (·.1))
  | _, _, .nil => .nil
  | _, _, .cons ⟨s, v, e1, e2, _⟩ t => .cons ⟨s, v, e1, e2⟩ (cells_keys t)
theorem cell_at {H : Hp} {b : Addr} {c : Cell} (h : CellAt H b c) : At H (.ref b) (cellD c) := by
  obtain ⟨s, v, e1, e2, e3, _⟩ := h
  exact at_tup e1 (ats_cons (spotD_at e2) (ats_cons e3 ats_nil))
theorem cells_ord {H : Hp} {bs : List Addr} {cs : List Cell} (h : CellsAt H bs cs) {o : List Nat} (ho : IsOrd (cs.map (·.1)) o) : Ats H (o.map fun i => V.ref (bs.getD i 0)) (o.map fun i => cellD (cs.getD i ((0, 0), .non))) := by
  refine ats_map fun i hi => ?_
  have hi := List.mem_range.mp (ho.perm.mem_iff.mp hi)
  rw [List.length_map] at hi
  obtain ⟨b, h1, h2⟩ := Paired.getR h (List.getElem?_eq_getElem hi)
  rw [List.getD_eq_getElem?_getD, h1, List.getD_eq_getElem?_getD, List.getElem?_eq_getElem hi]
  exact cell_at h2
theorem ord_len {ks : List (Nat × Nat)} {o : List Nat} (ho : IsOrd ks o) : o.length = ks.length := by rw [ho.perm.length_eq, List.length_range]
theorem image_at {H : Hp} {t sp cl : Addr} {p : Prog} {y : Lay} {bs : List Addr} {o : List Nat} (h : H t = some (.tup [nI y.wide, .ref sp, .ref cl])) (hs : H sp = some (.tup [nI ((rowSp y).getD 0 (0, 0)).1, nI ((rowSp y).getD 0 (0, 0)).2]))
    (hc : H cl = some (.lst (o.map fun i => V.ref (bs.getD i 0)))) (hb : CellsAt H bs (cellsF p y)) (ho : IsOrd ((cellsF p y).map (·.1)) o) : At H (.ref t) (imageD p y o) :=
  at_tup h (ats_cons at_int (ats_cons (spotD_at hs) (ats_cons (at_lst hc (cells_ord hb ho)) ats_nil)))
abbrev sTracks : Stmt := top 75
abbrev sImage : Stmt := top 76
abbrev FTracks (K : Frg) (mg : Str → Option Value) := Fd K mg "tracks" sTracks ["program", "laying"]
abbrev FImage (K : Frg) (mg : Str → Option Value) := Fd K mg "image" sImage ["program", "laying"]
abbrev nTracks : List Str := ["program","laying","_","most"]
abbrev nImage : List Str := ["program","laying","rows","worths","_","cells","homes","number","spot","row"]
def spTracks : Sp := fun vs H Q _ => ∃ (a b : Addr) (p : Prog) (y : Lay), vs = [.ref a, .ref b] ∧ ProgAt H a p ∧ Good p ∧ LayAt H b y ∧ LayOk p y ∧ ∀ H', Same1 H H' → Q (.int (mostF y)) H'
def spImage : Sp := fun vs H Q _ => ∃ (a b : Addr) (p : Prog) (y : Lay), vs = [.ref a, .ref b] ∧ ProgAt H a p ∧ Good p ∧ LayAt H b y ∧ LayOk p y ∧
  ∀ t sp cl bs o H', Same1 H H' → IsOrd ((cellsF p y).map (·.1)) o → H' t = some (.tup [nI y.wide, .ref sp, .ref cl]) → H' sp = some (.tup [nI ((rowSp y).getD 0 (0, 0)).1, nI ((rowSp y).getD 0 (0, 0)).2]) → H cl = none → H' cl = some (.lst (o.map fun i => V.ref (bs.getD i 0))) → CellsAt H' bs (cellsF p y) → Q (.ref t) H'
section
variable {P : Program} {w : World} {K : PySem.W.Frag} {mg : Str → Option Value} {base : Heap}
theorem scTracks : FnScope nTracks ["program", "laying"] (defScope sTracks) := ⟨rfl, rfl, rfl, by decide +kernel, rfl, by decide +kernel, by decide +kernel⟩
theorem ok_tracks (c : FTracks K mg) (cCheckProgram : FCheckProgram K mg) (cCheckLaying : FCheckLaying K mg) (cSpotsOf : FSpotsOf K mg)
    (GCheckProgram : FnOk P w K mg base CX0 4 cCheckProgram.f cCheckProgram.fd ["program"] spCheckProgram) (GCheckLaying : FnOk P w K mg base CX0 5 cCheckLaying.f cCheckLaying.fd ["program", "laying"] spCheckLaying)
    (GSpotsOf : FnOk P w K mg base CX0 2 cSpotsOf.f cSpotsOf.fd ["laying"] spSpotsOf) : FnOk P w K mg base CX0 6 c.f c.fd ["program", "laying"] spTracks := by
  refine c.F.ok scTracks (fun vs H Q E h => ?_) (fun cdv A outer s H vs Q E hr h => ?_)
  · obtain ⟨a, b, p, y, rfl, _⟩ := h
    rfl
  · obtain ⟨a, b, p, y, rfl, hP, g, hY, yk, k⟩ := h
    refine ⟨_, (pss_cons (ps_expr (pe_call GCheckProgram (hr.mono (by first | omega | decide)) (by rfl) cCheckProgram.m cCheckProgram.F.kp cCheckProgram.b .nil pass0 (pa_cons (pv 0) pa_nil)))
      (pss_cons (ps_expr (pe_call GCheckLaying (hr.mono (by first | omega | decide)) (by rfl) cCheckLaying.m cCheckLaying.F.kp cCheckLaying.b .nil pass0 (pa_cons (pv 0) (pa_cons (pv 1) pa_nil))))
      (pss_cons (ps_asg (pe_call GSpotsOf (hr.mono (by first | omega | decide)) (by rfl) cSpotsOf.m cSpotsOf.F.kp cSpotsOf.b .nil pass0 (pa_cons (pv 1) pa_nil)) (pg_tup rfl (pgs_cons (pg_name (i := 2) scTracks.nd rfl (Or.inl rfl)) (pgs_cons (pg_name (i := 2) scTracks.nd rfl (Or.inl rfl)) (pgs_cons (pg_name (i := 3) scTracks.nd rfl (Or.inl rfl)) pgs_nil)))))
      (pss_one (ps_ret (pv 3)))))), ?_⟩
    refine ⟨_, rfl, a, p, rfl, hP, g, fun H1 s1 => ?_⟩
    refine ⟨_, rfl, _, rfl, a, b, p, y, rfl, hP.kp (Kp.same s1), g, hY.kp (Kp.same s1), yk, fun H2 s2 => ?_⟩
    have S2 := s1.trans s2
    refine ⟨_, rfl, b, p, y, rfl, g, hY.kp (Kp.same S2), yk, fun t rt wl ts hs H3 s3 e3 _ _ _ _ => ?_⟩
    refine ⟨t, _, rfl, SqT.of e3, rfl, _, _, rfl, _, _, rfl, _, _, rfl, rfl, ?_⟩
    exact ⟨_, rfl, k H3 (S2.trans s3)⟩
theorem scImage : FnScope nImage ["program", "laying"] (defScope sImage) := ⟨rfl, rfl, rfl, by decide +kernel, rfl, by decide +kernel, by decide +kernel⟩
theorem ok_image (c : FImage K mg) (cCheckProgram : FCheckProgram K mg) (cCheckLaying : FCheckLaying K mg) (cSpotsOf : FSpotsOf K mg) (cRowCell : FRowCell K mg) (T : Bt mg)
    (GCheckProgram : FnOk P w K mg base CX0 4 cCheckProgram.f cCheckProgram.fd ["program"] spCheckProgram) (GCheckLaying : FnOk P w K mg base CX0 5 cCheckLaying.f cCheckLaying.fd ["program", "laying"] spCheckLaying)
    (GSpotsOf : FnOk P w K mg base CX0 2 cSpotsOf.f cSpotsOf.fd ["laying"] spSpotsOf) (GRowCell : FnOk P w K mg base CX0 3 cRowCell.f cRowCell.fd ["row", "rows", "worths"] spRowCell) : FnOk P w K mg base CX0 6 c.f c.fd ["program", "laying"] spImage := by
  refine c.F.ok scImage (fun vs H Q E h => ?_) (fun cdv A outer s H vs Q E hr h => ?_)
  · obtain ⟨a, b, p, y, rfl, _⟩ := h
    rfl
  · obtain ⟨a, b, p, y, rfl, hP, g, hY, yk, k⟩ := h
    have r40 := g.r40
    have r1 := g.r1
    have w8 := g.w8
    have ypl := yk.pl
    have yhl := yk.hl
    refine ⟨_, (pss_cons (ps_expr (pe_call GCheckProgram (hr.mono (by first | omega | decide)) (by rfl) cCheckProgram.m cCheckProgram.F.kp cCheckProgram.b .nil pass0 (pa_cons (pv 0) pa_nil)))
      (pss_cons (ps_expr (pe_call GCheckLaying (hr.mono (by first | omega | decide)) (by rfl) cCheckLaying.m cCheckLaying.F.kp cCheckLaying.b .nil pass0 (pa_cons (pv 0) (pa_cons (pv 1) pa_nil))))
      (pss_cons (ps_asg (pe_call GSpotsOf (hr.mono (by first | omega | decide)) (by rfl) cSpotsOf.m cSpotsOf.F.kp cSpotsOf.b .nil pass0 (pa_cons (pv 1) pa_nil)) (pg_tup rfl (pgs_cons (pg_name (i := 2) scImage.nd rfl (Or.inr rfl)) (pgs_cons (pg_name (i := 3) scImage.nd rfl (Or.inr rfl)) (pgs_cons (pg_name (i := 4) scImage.nd rfl (Or.inl rfl)) pgs_nil)))))
      (pss_cons (ps_setLc (i := 5) (own := [("spot", 8), ("row", 9)]) (g := gTup K 2 (gCons (gName 8) (gCons (gName 9) gNil))) (tt := tYes) rfl scImage.nd rfl rfl (sw_true rfl rfl rfl (by decide +kernel)) (RZ.pi_zipA (by rfl) T.zip (pa_cons (pv 2) (pa_cons (pe_ix ix_tup (pv 0) pe_int (fun _ _ => rfl)) pa_nil))) (blkOk_by (N := nImage) (sc := defScope sImage) (by decide +kernel)) (fun _ _ _ _ _ => (pg_tupK K rfl rfl (pgs_cons (pg_name (i := 8) scImage.nd rfl (Or.inl rfl)) (pgs_cons (pg_name (i := 9) scImage.nd rfl (Or.inl rfl)) pgs_nil)))) (fun _ _ _ _ _ => pts_nil) (fun _ _ _ _ _ => (pe_tup (pa_cons (pv 8) (pa_cons (pe_call GRowCell (hr.mono (by first | omega | decide)) (by rfl) cRowCell.m cRowCell.F.kp cRowCell.b .nil pass0 (pa_cons (pv 9) (pa_cons (pv 2) (pa_cons (pv 3) pa_nil)))) pa_nil)))))
      (pss_cons (ps_for PassesOwn.never rfl (DLR.pi_zipN (by rfl) T.zip (pa_cons (pv 3) (pa_cons (pe_ix ix_tup (pv 0) pe_int (fun _ _ => rfl)) pa_nil))) (pg_tup rfl (pgs_cons (pg_name (i := 6) scImage.nd rfl (Or.inl rfl)) (pgs_cons (pg_name (i := 7) scImage.nd rfl (Or.inr rfl)) pgs_nil)))
          (pss_one (ps_expr (pe_bm PySem.F.plainAttrs_list PySem.F.slot_list_extend PySem.F.type_list_extend mt_extend (pv 5) (pa_cons (pe_lc (own := [("spot", 8)]) (g := gName 8) (tt := tYes) rfl scImage.nd (pi_tup (pv 6)) (blkOk_by (N := nImage) (sc := defScope sImage) (by decide +kernel)) (fun _ _ _ _ _ => (pg_name (i := 8) scImage.nd rfl (Or.inl rfl))) (fun _ _ _ _ _ => pts_nil) (fun _ _ _ _ _ => (pe_tup (pa_cons (pv 8) (pa_cons (pe_tup (pa_cons pe_str (pa_cons (pv 7) pa_nil))) pa_nil))))) pa_nil)))))
      (pss_one (ps_ret (pe_tup (pa_cons (pe_ix ix_tup (pv 1) pe_int (fun _ _ => rfl)) (pa_cons (pe_ix ix_tup (pv 2) pe_int (fun _ _ => rfl)) (pa_cons (pe_callB (DLR.cr_sortedC (in64C hr)) (by rfl) T.sorted (by decide +kernel) (pa_cons (pv 5) pa_nil)) pa_nil))))))))))), ?_⟩
    refine ⟨_, rfl, a, p, rfl, hP, g, fun H1 s1 => ?_⟩
    refine ⟨_, rfl, _, rfl, a, b, p, y, rfl, hP.kp (Kp.same s1), g, hY.kp (Kp.same s1), yk, fun H2 s2 => ?_⟩
    have S2 := s1.trans s2
    refine ⟨_, rfl, b, p, y, rfl, g, hY.kp (Kp.same S2), yk, fun t rt wl ts hs H3 s3 e3 rt3 S3 wl3 L3 => ?_⟩
    have T3 := S2.trans s3
    refine ⟨t, _, rfl, SqT.of e3, rfl, _, _, rfl, _, _, rfl, _, _, rfl, rfl, ?_⟩
    obtain ⟨wa, ra, rs, hpa, hwa, hra, hR⟩ := hP
    have tl := Paired.length S3
    rw [rowSp_len] at tl
    have hll := Paired.length L3
    rw [worSp_len] at hll
    have rl := Paired.length hR
    refine ⟨_, rfl, _, rfl, a, _, _, _, rfl, rfl, SqT.of (T3 _ _ hpa), at1, rt, ra, _, _, rfl, .inr ⟨SqT.of rt3, SqT.of (T3 _ _ hra), fun D hD => ?_⟩⟩
    refine DLR.lc_zipY (K := K) (a := rt) (b := ra) (xs := ts.map V.ref) (ys := rs.map V.ref) (by rw [List.length_map, List.length_map]; omega) (fun j H' => ∃ bs : List Addr, Same1 H3 H' ∧ H' D = some (.lst (bs.map V.ref)) ∧ CellsAt H' bs (((List.range p.rows.length).map (rowCell p y)).take j)) ⟨[], Same.new hD, upd_same, .nil⟩ (fun j H' _ ⟨_, q, _⟩ => ⟨SqT.of (q _ _ rt3), SqT.of (q _ _ (T3 _ _ hra))⟩) ?_ ?_
    · rintro j xv yv T9 H4 H5 hx hy ⟨bs, s4, d4, C4⟩ hTn rfl
      have hj : j < rs.length := by
        have q := (List.getElem?_eq_some_iff.mp hy).1
        rwa [List.length_map] at q
      rw [refs_get (by omega)] at hx
      rw [refs_get hj] at hy
      have ex := Option.some.inj hx
      have ey := Option.some.inj hy
      subst ex ey
      have hjr : j < p.rows.length := by omega
      have hr1 : H (rs.getD j 0) = some (.tup (rowVs (p.rows.getD j .stop))) := by
        obtain ⟨bb, q1, q2⟩ := Paired.getR hR (List.getElem?_eq_getElem hjr)
        rw [List.getD_eq_getElem?_getD, q1, List.getD_eq_getElem?_getD, List.getElem?_eq_getElem hjr]
        exact q2
      have hrok : (p.rows.getD j .stop).ok p.ws.length p.rows.length := by
        rw [List.getD_eq_getElem?_getD, List.getElem?_eq_getElem hjr]
        exact g.ok _ (List.getElem_mem hjr)
      refine alloc hTn fun H5 s5 e5 => ?_
      have S5 := (T3.trans s4).trans s5
      refine ⟨T9, _, rfl, SqT.of e5, rfl, _, _, rfl, _, _, rfl, rfl, ?_⟩
      have hcl : bs.length = j := by
        have q := Paired.length C4
        rw [List.length_take, List.length_map, List.length_range] at q
        omega
      refine ⟨rfl, _, rfl, _, rfl, _, rfl, _, rfl, rs.getD j 0, rt, wl, _, ts, hs, rfl, S5 _ _ hr1, by rw [hll, yhl, tl, ypl]; exact hrok, s5 _ _ (s4 _ _ rt3), s5 _ _ (s4 _ _ wl3), fun wt H6 s6 e6 => ?_⟩
      refine ⟨(by show 2 ≤ sizeLine; decide), fun ct hct => ?_⟩
      refine alloc hct fun H7 s7 e7 => ?_
      have s47 : Same1 H4 H7 := (s5.trans s6).trans s7
      have d7 := s47 _ _ d4
      have s37 : Same1 H3 H7 := s4.trans s47
      refine ⟨_, d7, szl (by rw [List.length_map]; omega), bs ++ [ct], Same.mut s37 hD, by rw [upd_same, List.map_append]; rfl, ?_⟩
      rw [show ((List.range p.rows.length).map (rowCell p y)).take (j + 1) = ((List.range p.rows.length).map (rowCell p y)).take j ++ [rowCell p y j] by rw [List.take_add_one, List.getElem?_map, List.getElem?_range hjr]; rfl]
      refine CellsAt.kp (Paired.app (CellsAt.kp C4 (Kp.same s47)) (Paired.one ⟨ts.getD j 0, .ref wt, e7, ?_, ?_, (fine_what yk _).flat⟩)) (Kp.lst d7)
      · exact spot_at (SpotsAt.kp S3 (Kp.same s37)) (by rw [rowSp_len]; omega)
      · refine what_at (s7 _ _ e6) (SpotsAt.kp S3 (Kp.same s37)) (LiesAt.kp L3 (Kp.same s37)) ?_
        rw [yhl, ypl]
        exact hrok
    · rintro H4 ⟨bs, s4, d4, C4⟩
      have el : (rs.map V.ref).length = ((List.range p.rows.length).map (rowCell p y)).length := by
        rw [List.length_map, List.length_map, List.length_range]
        omega
      rw [el, List.take_length] at C4
      dsimp only [gName]
      have T4 := T3.trans s4
      refine ⟨_, rfl, _, rfl, a, _, _, _, rfl, rfl, SqT.of (T4 _ _ hpa), at0, wl, wa, _, _, rfl, SqL.of (s4 _ _ wl3), SqT.of (T4 _ _ hwa), ?_⟩
      refine for_zipN (K := K) (a := wl) (b := wa) (xs := hs.map V.ref) (ys := p.ws.map V.int) (by rw [List.length_map, List.length_map]; omega) (fun i σ H' => ∃ (x6 x7 : Option V) (bs : List Addr), σ = [some (.ref a), some (.ref b), some (.ref rt), some (.ref wl), some (.int (mostF y)), some (.ref D), x6, x7, none, none] ∧ Same1 H3 H' ∧ H' D = some (.lst (bs.map V.ref)) ∧ CellsAt H' bs (cellsN p y i))
        ⟨none, none, bs, rfl, s4, d4, by unfold cellsN; simpa using C4⟩ (fun i σ H' ⟨_, _, _, _, q, _⟩ => ⟨SqL.of (q _ _ wl3), SqT.of ((T3.trans q) _ _ hwa)⟩) ?_ ?_
      · rintro i xv yv T9 σ H5 hx hy ⟨x6, x7, bs, rfl, s5, d5, C5⟩ hTn
        have hi : i < hs.length := by
          have q := (List.getElem?_eq_some_iff.mp hx).1
          rwa [List.length_map] at q
        have hi2 : i < p.ws.length := by omega
        rw [refs_get hi] at hx
        rw [List.getElem?_map, List.getElem?_eq_getElem hi2] at hy
        have ex := Option.some.inj hx
        have ey : V.int p.ws[i] = yv := Option.some.inj hy
        subst ex ey
        refine alloc hTn fun H6 s6 e6 => ?_
        refine ⟨T9, _, rfl, SqT.of e6, rfl, _, _, rfl, _, _, rfl, rfl, ?_⟩
        obtain ⟨hv, g1, us, g2, g3⟩ := Paired.getR L3 (List.getElem?_eq_getElem (by rw [worSp_len]; omega) : (worSp y)[i]? = some _)
        have ehv : hs.getD i 0 = hv := by rw [List.getD_eq_getElem?_getD, g1]; rfl
        have eli : (worSp y).getD i [] = (worSp y)[i]'(by rw [worSp_len]; omega) := by
          rw [List.getD_eq_getElem?_getD, List.getElem?_eq_getElem]
          rfl
        rw [← eli] at g3
        have ul := Paired.length g3
        have ul3 := worSp_g3 yk i
        have s36 := s5.trans s6
        have bl := Paired.length C5
        have bl2 := cellsN_len g yk i
        refine ⟨_, rfl, .inl ⟨rfl, _, SqL.of (s6 _ _ d5)⟩, _, rfl, hs.getD i 0, rfl, ⟨_, SqT.of (s36 _ _ (ehv ▸ g2))⟩, fun D2 hD2 => ?_⟩
        refine lc_tup (K := K) (a := hs.getD i 0) (xs := us.map V.ref) (fun q H' => ∃ cs : List Addr, Same1 H6 H' ∧ H' D2 = some (.lst (cs.map V.ref)) ∧ CellsAt H' cs ((worCells p y i).take q)) ⟨[], Same.new hD2, upd_same, .nil⟩ (fun q H' _ ⟨_, z, _⟩ => SqT.of (z _ _ (s36 _ _ (ehv ▸ g2)))) ?_ ?_
        · rintro q x H7 hq ⟨cs, s7, d7, C7⟩
          have hqu : q < us.length := by
            have q := (List.getElem?_eq_some_iff.mp hq).1
            rwa [List.length_map] at q
          rw [refs_get hqu] at hq
          have ex := Option.some.inj hq
          subst ex
          have hcl : cs.length ≤ q := by
            have q := Paired.length C7
            rw [List.length_take] at q
            omega
          refine ⟨rfl, _, rfl, _, rfl, (by show 2 ≤ sizeLine; decide), fun t1 ht1 => ?_⟩
          refine alloc ht1 fun H8 s8 e8 => ?_
          refine ⟨(by show 2 ≤ sizeLine; decide), fun t2 ht2 => ?_⟩
          refine alloc ht2 fun H9 s9 e9 => ?_
          have s79 : Same1 H7 H9 := s8.trans s9
          have d9 := s79 _ _ d7
          have hsp := spot_at g3 (i := q) (by omega)
          have hws : (worCells p y i)[q]? = some (((worSp y).getD i []).getD q (0, 0), worD (p.ws.getD i 0)) := by
            unfold worCells
            rw [List.getElem?_map, List.getD_eq_getElem?_getD (l := (worSp y).getD i []), List.getElem?_eq_getElem (by omega : q < ((worSp y).getD i []).length)]
            rfl
          refine ⟨_, d9, szl (by rw [List.length_map]; omega), cs ++ [t2], Same.mut (s7.trans s79) hD2, by rw [upd_same, List.map_append]; rfl, ?_⟩
          rw [show (worCells p y i).take (q + 1) = (worCells p y i).take q ++ [(((worSp y).getD i []).getD q (0, 0), worD (p.ws.getD i 0))] by rw [List.take_add_one, hws]; rfl]
          refine CellsAt.kp (Paired.app (CellsAt.kp C7 (Kp.same s79)) (Paired.one ⟨us.getD q 0, .ref t1, e9, ((s36.trans s7).trans s79) _ _ hsp, at_tup (s9 _ _ e8) (ats_cons at_str (ats_cons ?_ ats_nil)), (fine_wor _).flat⟩)) (Kp.lst d9)
          rw [List.getD_eq_getElem?_getD, List.getElem?_eq_getElem hi2]
          exact at_int
        · rintro H7 ⟨cs, s7, d7, C7⟩
          have ewl : (worCells p y i).length = us.length := by
            unfold worCells
            rw [List.length_map]
            exact ul.symm
          rw [List.length_map, ← ewl, List.take_length] at C7
          have csl := Paired.length C7
          have wl3' := worCells_len yk i (p := p)
          have dD7 := s7 _ _ (s6 _ _ d5)
          refine ⟨D, D2, _, _, rfl, rfl, dD7, d7, sz (by rw [List.length_map, List.length_map]; omega), _, _, bs ++ cs, rfl, Same.mut (s36.trans s7) hD, by rw [upd_same, List.map_append], ?_⟩
          rw [cellsN_succ]
          exact CellsAt.kp (Paired.app (CellsAt.kp C5 (Kp.same (s6.trans s7))) C7) (Kp.lst dD7)
      · rintro σ H5 ⟨x6, x7, bs, rfl, s5, d5, C5⟩
        rw [List.length_map, show hs.length = p.ws.length by omega] at C5
        obtain ⟨pl, hl, cs0, hb, _⟩ := hY
        have T5 := T3.trans s5
        have r0 : 0 < ts.length := by omega
        refine ⟨_, rfl, b, _, _, _, rfl, rfl, SqT.of (T5 _ _ hb), at0, _, rfl, rt, _, _, _, rfl, rfl, SqT.of (s5 _ _ rt3), atI_nat (j := 0) (refs_get r0), _, rfl, D, bs, (cellsF p y).map (·.1), rfl, SqL.of d5, cells_keys C5, by rw [keys_cells yk]; exact keys_nodup y, fun o cl ho hcl => ?_⟩
        refine alloc hcl fun H6 s6 e6 => ?_
        refine ⟨(by show 3 ≤ sizeLine; decide), fun t ht => ?_⟩
        refine alloc ht fun H7 s7 e7 => ?_
        refine k t (ts.getD 0 0) cl bs o H7 ((T5.trans s6).trans s7) ho e7 ((s6.trans s7) _ _ (s5 _ _ (spot_at S3 (by rw [rowSp_len]; omega)))) (T5.free hcl) (s7 _ _ e6) (CellsAt.kp C5 (Kp.same (s6.trans s7)))
end
end DL
namespace DLR
open PySem PySem.Spec PyProof.Rows L2 LamX
/-! ### a lambda as a value: with or without one default, kept in lists, called later by a def that gets it -/
abbrev lamFd (q : Str) (ps : Arguments) (b : Expr) (sc : Scope) (cl : List (Str × Addr)) (dV doc pm cdv ct : Value) : FuncData := PySem.W.kdv_fn "<lambda>" q ps (.expr b) sc cl dV doc pm cdv ct
abbrev lamOb (q : Str) (ps : Arguments) (b : Expr) (sc : Scope) (cl : List (Str × Addr)) (dV doc pm : Value) (c' : Addr) (ct : Value) : Obj := PySem.W.kdv_obj "<lambda>" q ps (.expr b) sc cl dV doc pm c' ct
def LamO (f : Addr) (o : Obj) : HO := .ext fun h => h.get? f = some o
theorem lamO_ne {f : Addr} {o : Obj} (ps : Array Value) : LamO f o ≠ .tbl ps := fun z => by
  unfold LamO at z
  cases z
section
variable {X : Cx} {pins : List (Addr × Obj)} {σ : L2.St} {H : Hp} {s : Shared}
theorem tabs_more {T : List (Addr × Str)} {P c' : Addr} {q : Str} {pos : Pos} {ps : Array Value} (hT : Tabs T H) (hP : H P = some (.tbl ps)) (ht : TriplesOk ps.toList) (hu : ∀ p ∈ T, p.1 = P → p.2 = q)
    (ha : ∀ (pos : Pos) (cv : Value), codeAmong pos ps.toList = some cv → ∃ c, cv = .ref c ∧ H c = some (CodeO c q)) (nC : H c' = none) :
    ExtN H (upd (upd H P (.tbl (ps ++ #[rawInt pos.line, rawInt pos.col, .ref c']))) c' (CodeO c' q)) ∧ Tabs T (upd (upd H P (.tbl (ps ++ #[rawInt pos.line, rawInt pos.col, .ref c']))) c' (CodeO c' q)) := by
  have nPc : P ≠ c' := ne_of_none hP nC
  have ext : ExtN H (upd (upd H P (.tbl (ps ++ #[rawInt pos.line, rawInt pos.col, .ref c']))) c' (CodeO c' q)) := fun b o e n => by
    have n1 : b ≠ c' := ne_of_none e nC
    have n2 : b ≠ P := fun z => by
      subst z
      exact n ps (Option.some.inj (e.symm.trans hP))
    rw [upd_ne n1, upd_ne n2, e]
  refine ⟨ext, fun p hp => ?_⟩
  have eL : (ps ++ #[rawInt pos.line, rawInt pos.col, .ref c']).toList = ps.toList ++ [rawInt pos.line, rawInt pos.col, .ref c'] := by simp
  by_cases hb : p.1 = P
  · refine ⟨ps ++ #[rawInt pos.line, rawInt pos.col, .ref c'], ?_, ?_, fun p' cv hcv => ?_⟩
    · rw [hb, upd_ne nPc, upd_same]
    · rw [eL]
      exact PySem.TriplesOk_snoc _ _ _ _ ht
    · rw [eL] at hcv
      rw [hu p hp hb]
      rcases among_app _ ht hcv with z | rfl
      · obtain ⟨c0, rfl, e2⟩ := ha p' cv z
        exact ⟨c0, rfl, ext _ _ e2 codeO_ne⟩
      · exact ⟨c', rfl, upd_same⟩
  · obtain ⟨ps', a1, a2, a3⟩ := hT p hp
    refine ⟨ps', ?_, a2, fun p' cv hcv => ?_⟩
    · rw [upd_ne (ne_of_none a1 nC), upd_ne hb, a1]
    · obtain ⟨c0, rfl, e2⟩ := a3 p' cv hcv
      exact ⟨c0, rfl, ext _ _ e2 codeO_ne⟩
theorem lam_tail {T : List (Addr × Str)} {c P : Addr} {params : Arguments} {body : Expr} {scope : Scope} {pos : Pos} {E : Value → Shared → Prop} {Q : Value → Shared → Prop} {dV : Value} (I : Inv X pins σ H s) (TB : TabB X.base X.mg c P) (hcode : X.env.code = .ref c)
    (hm : (P, X.env.qual ++ "<lambda>") ∈ T) (hu : ∀ p ∈ T, p.1 = P → p.2 = X.env.qual ++ "<lambda>") (hT : Tabs T H) (hfree : ∀ y ∈ scope.names, y.2 = .free → ∃ c, X.env.cells.lookup y.1 = some c)
    (h : ∀ (f c' : Addr) (doc pm ctv : Value) (H1 : Hp) (s' : Shared), Inv X pins σ H1 s' → ExtN H H1 → Tabs T H1 → H f = none →
      H1 f = some (LamO f (lamOb (X.env.qual ++ "<lambda>") params body scope (cloFrom X.env.cells scope.names []) dV doc pm c' ctv)) → H1 c' = some (CodeO c' (X.env.qual ++ "<lambda>")) → Q (.ref f) s') :
    wpAny (model X.prog X.w) X.A (makeTail "<lambda>" (X.env.qual ++ "<lambda>") params (.expr body) scope X.env dV .none none pos pos.line) Q E s := by
  obtain ⟨ps, hP, ht, ha⟩ := hT _ hm
  have bP : s.heap.BuiltinsAt X.mg P := TB.bm.keeps I.bk
  have hP' : s.heap.get? P = some { cls := .none, data := .fields ps } := I.hok P _ hP
  have fin : ∀ (h' : Heap) (tk tk2 : Nat) (H' : Hp) (c' : Addr) (doc pm ctv : Value), s.heap.objs.size ≤ h'.objs.size → Inv X pins σ H' { s with heap := h', toks := tk } → ExtN H H' → Tabs T H' → H' c' = some (CodeO c' (X.env.qual ++ "<lambda>")) →
      Q (.ref h'.objs.size) { s with heap := h'.push (lamOb (X.env.qual ++ "<lambda>") params body scope (cloFrom X.env.cells scope.names []) dV doc pm c' ctv), toks := tk2 } := by
    intro h' tk tk2 H' c' doc pm ctv hsz J e1 t1 hc
    have nF : H' h'.objs.size = none := J.hok.fresh (Nat.le_refl _)
    have J2 := J.laid (a := h'.objs.size) (o := LamO h'.objs.size (lamOb (X.env.qual ++ "<lambda>") params body scope (cloFrom X.env.cells scope.names []) dV doc pm c' ctv))
      (h' := h'.push (lamOb (X.env.qual ++ "<lambda>") params body scope (cloFrom X.env.cells scope.names []) dV doc pm c' ctv)) (t' := tk2)
      (fun b u e => Heap.get?_push_of_some _ e) (Nat.le_refl _) ⟨Heap.get?_push_size _ rfl, ⟨_, Heap.get?_push_size _ rfl⟩, fun h1 h2 p st => st _ p⟩
    have st : ∀ b o, H' b = some o → upd H' h'.objs.size (LamO h'.objs.size (lamOb (X.env.qual ++ "<lambda>") params body scope (cloFrom X.env.cells scope.names []) dV doc pm c' ctv)) b = some o := fun b o e => by
      rw [upd_ne (ne_of_none e nF), e]
    exact h _ c' doc pm ctv _ _ J2 (e1.trans (ExtN.of st)) (t1.ext st) (I.hok.fresh hsz) upd_same (st _ _ hc)
  cases hc : codeAmong pos ps.toList with
  | none =>
    refine PySem.W.kdv_makeTail (mg := X.mg) (c := c) (P := P) (ps := ps) (closure_ok hfree) I.ok.glob (I.mod.glob.keeps I.bk) hcode (TB.code.keeps I.bk) hP' ht hc TB.gP bP fun c' ctv doc h' tk hx hge hlt hrec htb => ?_
    obtain ⟨c2, oc, vs, t, e2, hoc, hd, hv⟩ := hrec
    cases e2
    have nC : H c' = none := I.hok.fresh hge
    obtain ⟨x1, x2⟩ := tabs_more (pos := pos) hT hP ht hu ha nC
    exact fin h' tk tk _ c' doc _ ctv (Nat.le_trans hge (Nat.le_of_lt hlt)) (inv_table (t' := tk) (more := #[rawInt pos.line, rawInt pos.col, .ref c']) I hP hx htb hge ⟨oc, vs, t, hoc, hd, hv⟩) x1 x2 upd_same
  | some cv =>
    obtain ⟨c', rfl, hco⟩ := ha pos cv hc
    refine PySem.W.kdv_makeTailHit (mg := X.mg) (c := c) (P := P) (ps := ps) (closure_ok hfree) I.ok.glob (I.mod.glob.keeps I.bk) hcode (TB.code.keeps I.bk) hP' ht hc bP fun ctv doc h' tk hx hsz => ?_
    exact fin h' s.toks tk H c' doc _ ctv hsz (I.kept (t' := s.toks) hx) (ExtN.refl H) hT hco
end
structure LamN (N : List Str) (sc scope : Scope) : Prop where
  kind : scope.kind = .function
  co : scope.isCoroutine = false
  gen : scope.isGenerator = false
  own : ∀ y ∈ scope.names, y.2 ≠ .cell ∧ (y.2 = .local → y.1 ∉ N)
  free : ∀ y ∈ scope.names, y.2 = .free → sc.names.lookup y.1 = some .cell ∨ sc.names.lookup y.1 = some .free
def lamNB (N : List Str) (sc scope : Scope) : Bool :=
  decide (scope.kind = .function) && !scope.isCoroutine && !scope.isGenerator && scope.names.all fun y => !decide (y.2 = .cell) && (!decide (y.2 = .local) || !decide (y.1 ∈ N)) && (!decide (y.2 = .free) || decide (sc.names.lookup y.1 = some .cell) || decide (sc.names.lookup y.1 = some .free))
theorem lamN_by {N : List Str} {sc scope : Scope} (h : lamNB N sc scope = true) : LamN N sc scope := by
  unfold lamNB at h
  simp only [Bool.and_eq_true, Bool.or_eq_true, Bool.not_eq_true', decide_eq_true_eq, decide_eq_false_iff_not, List.all_eq_true] at h
  obtain ⟨⟨⟨h1, h2⟩, h3⟩, h4⟩ := h
  refine ⟨h1, h2, h3, fun y hy => ⟨(h4 y hy).1.1, fun e => ?_⟩, fun y hy e => ?_⟩
  · rcases (h4 y hy).1.2 with z | z
    · exact absurd e z
    · exact z
  · rcases (h4 y hy).2 with (z | z) | z
    · exact absurd e z
    · exact .inl z
    · exact .inr z
theorem LamN.has {X : Cx} {N : List Str} {scope : Scope} (L : LamN N X.env.scope scope) (ok : X.Ok) : ∀ y ∈ scope.names, y.2 = .free → ∃ c, X.env.cells.lookup y.1 = some c := fun y hy e => by
  rcases L.free y hy e with k | k
  · exact ok.has _ (.inl k)
  · exact ok.has _ (.inr k)
def dvOf : Option Addr → Value
  | none => .none
  | some T => .ref T
def DvAt (H : Hp) : Option Addr → Prop
  | none => True
  | some T => H T = some (.tup [.int 0])
def LamB (q : Str) (ps : Arguments) (b : Expr) (sc : Scope) : Option Addr → Prop
  | none => ∀ (cl : List (Str × Addr)) (doc pm cdv ct : Value), bindArgs (lamFd q ps b sc cl .none doc pm cdv ct) ⟨[], []⟩ = pure []
  | some T => ∃ a, sc.names.lookup a = some .local ∧ ∀ (cl : List (Str × Addr)) (doc pm cdv ct u : Value), ∃ k, bindArgs (lamFd q ps b sc cl (.ref T) doc pm cdv ct) ⟨[], []⟩ = seqItems? (.ref T) >>= k ∧ k (some #[u]) = pure [(a, u)]
abbrev lamEn (q : Str) (scope : Scope) (cl : List (Str × Addr)) (L f c' : Addr) : Env := PySem.W.envX q scope L f (.ref c') cl
def lamC (P : Program) (w : World) (K : PySem.W.Frag) (mg : Str → Option Value) (base : Heap) (N : List Str) (q : Str) (cl : List (Str × Addr)) (A : Around) (outer : List Env) (s : Shared) (H : Hp) (E : XK) (scope : Scope) (f c' : Addr) : Cx where
  prog := P
  w := w
  K := K
  mg := mg
  base := base
  A := A.deeper (lamEn q scope cl s.heap.objs.size f c')
  N := N
  s_0 := s
  H_0 := H
  env := lamEn q scope cl s.heap.objs.size f c'
  outer := outer
  stack := lamEn q scope cl s.heap.objs.size f c' :: outer
  ex := []
  fn := fun _ => false
  calm := true
  pn := []
  xe := fun e s' => wpAny (model P w) (A.deeper (lamEn q scope cl s.heap.objs.size f c')) (leaving (lamEn q scope cl s.heap.objs.size f c') e) (fun _ s'' => L2.CX P w outer H s E e s'') (fun e' s'' => L2.CX P w outer H s E e' s'') s'
structure CloAt (N : List Str) (cl : List (Str × Addr)) (scope : Scope) (σ : L2.St) (H : Hp) (h : Heap) : Prop where
  len : σ.length = N.length
  own : ∀ y ∈ scope.names, y.2 ≠ .cell ∧ (y.2 = .local → y.1 ∉ N)
  kind : scope.kind = .function
  inj : ∀ x y c, cl.lookup x = some c → cl.lookup y = some c → x = y
  has : ∀ y, scope.names.lookup y = some .free → ∃ c, cl.lookup y = some c
  cell : ∀ y c, cl.lookup y = some c → H c = none ∧ ∃ v, h.IsCell c v
  val : ∀ (i : Nat) (y : Str) (v : V), N[i]? = some y → σ[i]? = some (some v) → scope.names.lookup y = some .free → ∃ c u, cl.lookup y = some c ∧ h.IsCell c (some u) ∧ RelV v u
section
variable {P : Program} {w : World} {K : PySem.W.Frag} {mg : Str → Option Value} {base : Heap}
theorem lam_enter {N : List Str} {q : Str} {cl : List (Str × Addr)} {A : Around} {outer : List Env} {E : XK} {scope : Scope} {f c' : Addr} {h₁ : Heap} {tk : Nat} {σ : L2.St} {H : Hp} {s : Shared} {m : Str → Option Value}
    (C : CloAt N cl scope σ H s.heap) (e0 : Env0 P w K mg base A outer s H) (hd : A.handled = none) (hns : h₁.Ns s.heap.objs.size m) (kp : ∀ b o, s.heap.get? b = some o → h₁.get? b = some o) :
    Inv (lamC P w K mg base N q cl A outer s H E scope f c') [] σ H { s with heap := h₁, toks := tk } := by
  have noA : ∀ b : Addr, b ∉ (lamC P w K mg base N q cl A outer s H E scope f c').ex := fun b z => absurd (show b ∈ ([] : List Addr) from z) (by simp)
  have up : ∀ {c : Addr} {v : Option Value}, s.heap.IsCell c v → h₁.IsCell c v := fun {c v} ⟨o, ho, hc⟩ => ⟨o, kp _ _ ho, hc⟩
  have nocell : ∀ {y}, scope.names.lookup y = some .cell → False := fun {y} k => (C.own _ (PySem.mem_of_lookup k)).1 rfl
  have okk : (lamC P w K mg base N q cl A outer s H E scope f c').Ok := by
    refine ⟨e0.mod, C.kind, rfl, rfl, Nat.le_refl _, C.inj, fun y hy => ?_, fun y c z _ => ?_, fun _ => hd, Around.frames_deeper e0.frames, .inr ⟨rfl, rfl⟩, fun b z => absurd z (noA b), e0.bs, e0.bsz, fun b _ _ => noA b, fun b z => absurd z (noA b), e0.funs, e0.frf⟩
    · rcases (show scope.names.lookup y = some .cell ∨ scope.names.lookup y = some .free from hy) with k | k
      · exact (nocell k).elim
      · exact C.has y k
    · cases (show false = true from z)
  refine ⟨okk, rfl, e0.bare, Un.kept kp, ⟨_, hns, fun i y v e1 e2 e3 => ?_⟩, fun y c e => ?_, e0.hok.fresh (Nat.le_refl _), fun y c e => (C.cell y c e).1, fun p hp => absurd (show p ∈ ([] : List (Addr × Obj)) ++ [] from hp) (by simp), e0.hok.kept kp, C.len⟩
  · rcases (show Vis scope y from e3) with k | k | k
    · exact absurd (List.mem_of_getElem? e1) ((C.own _ (PySem.mem_of_lookup k)).2 rfl)
    · exact (nocell k).elim
    · obtain ⟨c, u, h1, h2, r⟩ := C.val i y v e1 e2 k
      exact ⟨u, r, .inr ⟨.inr k, c, h1, up h2⟩⟩
  · obtain ⟨_, v, z⟩ := C.cell y c e
    exact ⟨v, up z⟩
theorem CloAt.here {X : Cx} {pins : List (Addr × Obj)} {σ : L2.St} {H : Hp} {s : Shared} {scope : Scope} (I : Inv X pins σ H s) (L : LamN X.N X.env.scope scope) : CloAt X.N (cloFrom X.env.cells scope.names []) scope σ H s.heap := by
  have hfree := L.has I.ok
  have cm : ∀ {y c}, (cloFrom X.env.cells scope.names []).lookup y = some c → X.env.cells.lookup y = some c := fun {y c} e => by
    rcases cloFrom_mem (PySem.mem_of_lookup e) with hm | ⟨h1, h2⟩
    · cases hm
    · obtain ⟨c1, hc⟩ := hfree _ h1 rfl
      have hc : X.env.cells.lookup y = some c1 := hc
      have e2 : c = c1 := by
        rw [h2, hc] <;> rfl
      rw [e2, hc]
  have look : ∀ {y}, scope.names.lookup y = some .free → ∃ c, (cloFrom X.env.cells scope.names []).lookup y = some c := fun {y} hl => mem_lookup (cloFrom_has (cells := X.env.cells) (acc := []) (PySem.mem_of_lookup hl))
  refine ⟨I.len, L.own, L.kind, fun x y c a b => I.ok.inj x y c (cm a) (cm b), fun y k => look k, fun y c e => ⟨I.freeC y c (cm e), I.cell y c (cm e)⟩, fun i y v e1 e2 k => ?_⟩
  obtain ⟨m, _, hl⟩ := I.loc
  have hk := L.free _ (PySem.mem_of_lookup k) rfl
  obtain ⟨u, r, z⟩ := hl i y v e1 e2 (hk.elim (fun k => .inr (.inl k)) fun k => .inr (.inr k))
  obtain ⟨c, h2⟩ := look k
  rcases z with ⟨k1, _⟩ | ⟨_, c3, e3, z⟩
  · have k1 : X.env.scope.names.lookup y = some .local := k1
    rcases hk with k2 | k2 <;> rw [show X.env.scope.names.lookup y = _ from k2] at k1 <;> cases k1
  · rw [cm h2] at e3
    cases e3
    exact ⟨c, u, h2, z, r⟩
theorem CloAt.un {N : List Str} {cl : List (Str × Addr)} {scope : Scope} {σ : L2.St} {H H' : Hp} {h h' : Heap} {fs : List Addr} (C : CloAt N cl scope σ H h) (u : Un fs [] H H' h h') : CloAt N cl scope σ H' h' := by
  have ck : ∀ {c : Addr} {v : Option Value}, H c = none → h.IsCell c v → h'.IsCell c v := fun {c v} n ⟨o, ho, hd⟩ => by
    obtain ⟨sl, q⟩ := u.any ho n (by simp)
    exact ⟨_, q, hd⟩
  refine ⟨C.len, C.own, C.kind, C.inj, C.has, fun y c e => ?_, fun i y v e1 e2 k => ?_⟩
  · obtain ⟨n, v, o, ho, hd⟩ := C.cell y c e
    exact ⟨u.free c o ho n (by simp), v, ck n ⟨o, ho, hd⟩⟩
  · obtain ⟨c, x, h1, h2, r⟩ := C.val i y v e1 e2 k
    exact ⟨c, x, h1, ck (C.cell y c h1).1 h2, r⟩
structure LamP (P : Program) (w : World) (K : PySem.W.Frag) (mg : Str → Option Value) (base : Heap) (N : List Str) (q : Str) (cl : List (Str × Addr)) (scope : Scope) (o : Obj) (c' : Addr) (dT : Option Addr) (k : Nat) (t : XK → TE) : Prop where
  co : scope.isCoroutine = false
  gen : scope.isGenerator = false
  cells : ∀ y ∈ scope.names, y.2 ≠ .cell
  kind : scope.kind = .function
  ex : ∃ (params : Arguments) (body : Expr) (doc pm ctv : Value), o = lamOb q params body scope cl (dvOf dT) doc pm c' ctv ∧ LamB q params body scope dT ∧
    ∀ (A : Around) (outer : List Env) (s : Shared) (H : Hp) (E : XK) (f : Addr), Room k (A.deeper (lamEn q scope cl s.heap.objs.size f c')) → PE (lamC P w K mg base N q cl A outer s H E scope f c') body (t E)
theorem lam_binds {s : Shared} {H : Hp} {q : Str} {ps : Arguments} {b : Expr} {sc : Scope} {cl : List (Str × Addr)} {doc pm cdv ct : Value} {dT : Option Addr} (B : LamB q ps b sc dT) (hT : DvAt H dT) (hok : HOk P w H s.heap) :
    ∃ binds, (∀ y ∈ binds, sc.names.lookup y.1 = some .local) ∧ BindsTo s (lamFd q ps b sc cl (dvOf dT) doc pm cdv ct) ⟨[], []⟩ binds := by
  cases dT with
  | none => exact ⟨[], fun y hy => absurd hy (by simp), BindsTo.of_eq (B cl doc pm cdv ct)⟩
  | some T =>
    obtain ⟨a, ha, hB⟩ := B
    obtain ⟨_, its, r, ob, e1, e2, n, e3⟩ := hok T _ hT
    match its, r with
    | [u], _ =>
      obtain ⟨k, k1, k2⟩ := hB cl doc pm cdv ct u
      refine ⟨[(a, u)], fun y hy => by rw [List.mem_singleton.mp hy]; exact ha, ?_⟩
      exact BindsTo.of_defaults (T := T) rfl e1 e3 k1 k2
end
end DLR
namespace DLR
open PySem PySem.Spec PyProof.Rows L2 LamX
def LamV (X : Cx) (k : Nat) (H : Hp) (v : V) (t : XK → TE) : Prop :=
  ∃ (f c' : Addr) (o : Obj) (scope : Scope) (dT : Option Addr), v = .ref f ∧ H f = some (LamO f o) ∧ H c' = some (CodeO c' (X.env.qual ++ "<lambda>")) ∧ DvAt H dT ∧ LamN X.N X.env.scope scope ∧
    LamP X.prog X.w X.K X.mg X.base X.N (X.env.qual ++ "<lambda>") (cloFrom X.env.cells scope.names []) scope o c' dT k t
theorem codeO_lst {c : Addr} {q : Str} (ps : List V) : CodeO c q ≠ .lst ps := fun z => by
  unfold CodeO at z
  cases z
theorem lamO_lst {f : Addr} {o : Obj} (ps : List V) : LamO f o ≠ .lst ps := fun z => by
  unfold LamO at z
  cases z
theorem LamV.keep {X : Cx} {k : Nat} {H H' : Hp} {v : V} {t : XK → TE} (L : LamV X k H v t) (h : ∀ b o, H b = some o → (∀ ps, o ≠ .tbl ps) → (∀ xs, o ≠ .lst xs) → H' b = some o) : LamV X k H' v t := by
  obtain ⟨f, c', o, scope, dT, e1, e2, e3, e4, e5, e6⟩ := L
  refine ⟨f, c', o, scope, dT, e1, h _ _ e2 lamO_ne lamO_lst, h _ _ e3 codeO_ne codeO_lst, ?_, e5, e6⟩
  cases dT with
  | none => exact True.intro
  | some T => exact h _ _ e4 (fun ps z => by cases z) (fun xs z => by cases z)
section
variable {X : Cx}
def tMk (X : Cx) (k : Nat) (T : List (Addr × Str)) (t : XK → TE) : TE := fun _ H Q => Tabs T H ∧ ∀ v H1, ExtN H H1 → Tabs T H1 → LamV X k H1 v t → Q v H1
variable {T : List (Addr × Str)} {c P : Addr} {k : Nat} {params : Arguments} {body : Expr} {scope : Scope} {t : XK → TE} {lpos : Pos}
theorem LamN.p (L : LamN X.N X.env.scope scope) {dT : Option Addr} {dV doc pm ctv : Value} {c' : Addr} (e : dV = dvOf dT) (hbind : LamB (X.env.qual ++ "<lambda>") params body scope dT)
    (hbody : ∀ (A : Around) (outer : List Env) (s : Shared) (H : Hp) (E : XK) (f c' : Addr), Room k (A.deeper (lamEn (X.env.qual ++ "<lambda>") scope (cloFrom X.env.cells scope.names []) s.heap.objs.size f c')) →
      PE (lamC X.prog X.w X.K X.mg X.base X.N (X.env.qual ++ "<lambda>") (cloFrom X.env.cells scope.names []) A outer s H E scope f c') body (t E)) :
    LamP X.prog X.w X.K X.mg X.base X.N (X.env.qual ++ "<lambda>") (cloFrom X.env.cells scope.names []) scope (lamOb (X.env.qual ++ "<lambda>") params body scope (cloFrom X.env.cells scope.names []) dV doc pm c' ctv) c' dT k t := by
  subst e
  exact ⟨L.co, L.gen, fun y hy => (L.own y hy).1, L.kind, params, body, doc, pm, ctv, rfl, hbind, fun A outer s H E f hr => hbody A outer s H E f c' hr⟩
theorem pe_lam0 (TB : TabB X.base X.mg c P) (hcode : X.env.code = .ref c) (hmT : (P, X.env.qual ++ "<lambda>") ∈ T) (hu : ∀ p ∈ T, p.1 = P → p.2 = X.env.qual ++ "<lambda>") (L : LamN X.N X.env.scope scope) (hdef : defaultsOf params X.env = ([], []))
    (hbind : LamB (X.env.qual ++ "<lambda>") params body scope none)
    (hbody : ∀ (A : Around) (outer : List Env) (s : Shared) (H : Hp) (E : XK) (f c' : Addr), Room k (A.deeper (lamEn (X.env.qual ++ "<lambda>") scope (cloFrom X.env.cells scope.names []) s.heap.objs.size f c')) →
      PE (lamC X.prog X.w X.K X.mg X.base X.N (X.env.qual ++ "<lambda>") (cloFrom X.env.cells scope.names []) A outer s H E scope f c') body (t E)) :
    PE X (.Lambda params body scope lpos) (tMk X k T t) := by
  refine ⟨fun pins s σ H Q I h => ?_⟩
  obtain ⟨hT, h⟩ := h
  refine PySem.W.kla_eval hdef ?_
  rw [makeFunction_eq]
  simp only [List.zip_nil_right, List.filterMap_nil, List.isEmpty_nil, if_true, pure_bind]
  refine lam_tail I TB hcode hmT hu hT (L.has I.ok) fun f c' doc pm ctv H1 s' I1 eN T1 hf hfo hco => ?_
  exact ⟨.ref f, H1, I1, rfl, h _ H1 eN T1 ⟨f, c', _, scope, none, rfl, hfo, hco, True.intro, L, L.p rfl hbind hbody⟩⟩
theorem pe_lam1 {j : Nat} {p0 : Pos} (TB : TabB X.base X.mg c P) (hcode : X.env.code = .ref c) (hmT : (P, X.env.qual ++ "<lambda>") ∈ T) (hu : ∀ p ∈ T, p.1 = P → p.2 = X.env.qual ++ "<lambda>") (L : LamN X.N X.env.scope scope)
    (hps : params.defaults = [.Constant (.int 0) j p0]) (hk0 : params.kw_defaults = []) (hbind : ∀ D, LamB (X.env.qual ++ "<lambda>") params body scope (some D))
    (hbody : ∀ (A : Around) (outer : List Env) (s : Shared) (H : Hp) (E : XK) (f c' : Addr), Room k (A.deeper (lamEn (X.env.qual ++ "<lambda>") scope (cloFrom X.env.cells scope.names []) s.heap.objs.size f c')) →
      PE (lamC X.prog X.w X.K X.mg X.base X.N (X.env.qual ++ "<lambda>") (cloFrom X.env.cells scope.names []) A outer s H E scope f c') body (t E)) :
    PE X (.Lambda params body scope lpos) (tMk X k T t) := by
  refine ⟨fun pins s σ H Q I h => ?_⟩
  obtain ⟨hT, h⟩ := h
  refine PySem.W.kdv_lam (by rw [hps]; rfl) hk0 ?_
  rw [hps]
  refine PySem.W.kdv_all1 (thn ((pe_int (X := X) (i := 0) (j := j) (pos := p0)).run pins s σ H (fun v H1 => v = .int 0 ∧ H1 = H) I ⟨rfl, rfl⟩) fun u s1 ⟨v, H1, I1, r1, e1, e2⟩ => PySem.W.kdv_all0 ?_)
  subst e1 e2
  rw [makeFunction_eq]
  simp only [List.zip_nil_right, List.filterMap_nil, List.isEmpty_nil, if_true, pure_bind, List.isEmpty_cons, Bool.false_eq_true, if_false]
  refine wpAny_bind (wpAny_newTextTuple ?_)
  generalize hD : s1.heap.objs.size = D
  have nD : H1 D = none := I1.hok.fresh (Nat.le_of_eq hD)
  have hD' : (s1.heap.push { cls := .type "tuple", data := .seq [u].toArray }).get? D = some { cls := .type "tuple", data := .seq [u].toArray } := by
    rw [← hD]
    exact Heap.get?_push_size _ rfl
  have J : Inv X pins σ (upd H1 D (.tup [.int 0])) { s1 with heap := s1.heap.push { cls := .type "tuple", data := .seq [u].toArray } } :=
    I1.laid (t' := s1.toks) (fun b o e => Heap.get?_push_of_some _ e) (Nat.le_of_eq hD) ⟨by show 1 ≤ sizeLine; decide, [u], .cons r1 .nil, _, hD', rfl, _, rfl⟩
  have st : ∀ b o, H1 b = some o → upd H1 D (.tup [.int 0]) b = some o := fun b o e => by rw [upd_ne (ne_of_none e nD), e]
  refine lam_tail J TB hcode hmT hu (hT.ext st) (L.has J.ok) fun f c' doc pm ctv H2 s' I2 eN T2 hf hfo hco => ?_
  exact ⟨.ref f, H2, I2, rfl, h _ H2 ((ExtN.of st).trans eN) T2 ⟨f, c', _, scope, some D, rfl, hfo, hco, eN _ _ upd_same (fun ps z => by cases z), L, L.p rfl (hbind D) hbody⟩⟩
end
section
variable {X : Cx} {pins : List (Addr × Obj)} {σ : L2.St} {H : Hp} {s : Shared}
theorem lam_act {CXg : CXT} {Eg : XK} {Ng N : List Str} {qg q a : Str} {sg scope : Scope} {g f c' : Addr} {cdg : Value} {cl : List (Str × Addr)} {o : Obj} {dT : Option Addr} {t : XK → TE} {k i : Nat} {pn : List (Addr × Obj)} {xe : Value → Shared → Prop} {W : WX} {E : XK} {p1 p2 : Pos}
    (C : CloAt N cl scope σ H s.heap) (LP : LamP X.prog X.w X.K X.mg X.base N q cl scope o c' dT k t)
    (tk : Takes ((cxOf CXg X.prog X.w X.K X.mg X.base Ng qg sg g cdg X.A X.stack s H Eg).tr pn xe) W) (hW : ∀ cls d σ' H', E cls d H' → W cls d σ' H') (hr : Room (k + 1) (X.A.deeper (envOfC qg sg s.heap.objs.size g cdg)))
    (hN : Ng[i]? = some a) (hv : Vis sg a) (hd : (a == ("__debug__" : Str)) = false := by decide) (hcd : (a == ("__classdict__" : Str)) = false := by decide) :
    PE ((cxOf CXg X.prog X.w X.K X.mg X.base Ng qg sg g cdg X.A X.stack s H Eg).tr pn xe) (.Call (.Name a p1) [] [] p2)
      (fun σZ HZ Q => σZ[i]? = some (some (.ref f)) ∧ HZ c' = some (CodeO c' q) ∧ HZ f = some (LamO f o) ∧ DvAt HZ dT ∧ t E σ HZ Q) := by
  obtain ⟨lco, lgen, lcells, lkind, params, body, doc, pm, ctv, rfl, hB, hbody⟩ := LP
  refine ⟨fun pinsZ sZ σZ HZ Q IZ ⟨h1, h2, h3, h4, ht⟩ => ?_⟩
  refine wpAny_Call_Name_kw (thn ((pe_var (pos := p1) (i := i) hN hv hd hcd).run pinsZ sZ σZ HZ (fun v H1 => v = .ref f ∧ H1 = HZ) IZ ⟨.ref f, h1, rfl, rfl⟩) fun u s1 hu => ?_)
  obtain ⟨v, H1, I1, r1, rfl, rfl⟩ := hu
  cases r1
  obtain ⟨fo, _, _⟩ := I1.hok f _ h3
  obtain ⟨⟨oc, vs, tq, hoc, hdc, hvc⟩, _, _⟩ := I1.hok c' _ h2
  have C1 : CloAt N cl scope σ H1 s1.heap := C.un (show Un (frs X.stack) [] H H1 s.heap s1.heap from I1.base)
  obtain ⟨binds, b1, b2⟩ := lam_binds (s := s1) (cl := cl) (doc := doc) (pm := pm) (cdv := .ref c') (ct := ctv) hB h4 I1.hok
  refine PySem.W.callWith_F0 ⟨_, _, _, _, fo⟩ (wpAny_call (codeAny_mono (R := CR (L2.CX X.prog X.w) (envOfC qg sg s.heap.objs.size g cdg :: X.stack) X.prog X.w H1 s1 Q E) ?_ fun r s' hq => ?_))
  · refine PySem.W.kla_callFunE hr.depth fo rfl lco lgen rfl ⟨c', oc, vs, tq, rfl, hoc, hdc, hvc⟩ (b2 _ _ _ _ (wpAny_newFunctionEnv lcells b1 (fun h₁ hns hsb => ⟨I1.nolimit.fresh _ hsb, ?_⟩) lkind))
    have kp : ∀ b o, s1.heap.get? b = some o → h₁.get? b = some o := fun b o e => hsb.extBut b o (Nat.ne_of_lt (Heap.lt_size e)) (Heap.get?_push_of_some _ e)
    have J := lam_enter (q := q) (E := E) (f := f) (c' := c') (tk := s1.toks + binds.length) C1 I1.env0 hr.hd hns kp
    have run := (hbody _ _ s1 H1 E f (hr.deeper _)).run [] _ _ H1 Q J ht
    exact PySem.W.kla_codeExpr (wpAny_mono run (fun v s' ⟨w', H', J', rv, hq⟩ => ⟨w', H', J'.os, J'.bare, J'.base, J'.hok, rv, hq⟩) fun e s' hq => hq)
  · cases r with
    | error e => exact passes_call tk hW pinsZ σZ H1 s1 e s' I1 hq
    | ok fl =>
      cases fl with
      | ret u => exact I1.after hq
      | next => exact hq.elim
      | brk => exact hq.elim
      | cont => exact hq.elim
end
section
variable {X : Cx}
def tTold (X : Cx) (k : Nat) (TT : (XK → Hp → VK → Prop) → Hp → VK → Prop) (te : TE) : TE := fun σ H Q => te σ H fun v H1 => ∃ (f c' : Addr) (o : Obj) (scope : Scope) (dT : Option Addr) (t : XK → TE), v = .ref f ∧ H1 c' = some (CodeO c' (X.env.qual ++ "<lambda>")) ∧ LamN X.N X.env.scope scope ∧
  LamP X.prog X.w X.K X.mg X.base X.N (X.env.qual ++ "<lambda>") (cloFrom X.env.cells scope.names []) scope o c' dT k t ∧ TT (fun E H' Q' => H' f = some (LamO f o) ∧ DvAt H' dT ∧ t E σ H' Q') H1 Q
theorem pe_told {TT : (XK → Hp → VK → Prop) → Hp → VK → Prop} {x a : Str} {g : Addr} {k : Nat} {pg : Arguments} {bg : List Stmt} {sg : Scope} {dV kV doc pm cdv ct oc : Value} {an od : Option Addr} {osl : Array (Option Value)} {Ng : List Str} {e : Expr} {te : TE} {p pos : Pos}
    (hg : Gl X x) (hm : X.mg x = some (.ref g)) (hk : PySem.W.keepIn X.K (.ref g) = true) (lk : X.K.lookup g = some ⟨oc, od, .func (PySem.W.fnOf x x pg bg sg dV kV doc pm an cdv ct), osl⟩) (hcg : PySem.W.codeIn X.K cdv x = true)
    (hb : L2.Binds X.K (PySem.W.fnOf x x pg bg sg dV kV doc pm an cdv ct) [a] []) (Sg : FnScope Ng [a] sg) (hNg : Ng[0]? = some a) (hva : Vis sg a) (hG : GivesTo X Ng x sg g cdv bg a (X.env.qual ++ "<lambda>") TT) (hr : Room (k + 2) X.A) (he : PE X e te)
    (hdb : (x == ("__debug__" : Str)) = false := by decide) (hd : (a == ("__debug__" : Str)) = false := by decide) (hcd : (a == ("__classdict__" : Str)) = false := by decide)
    (hs : starEach [e] X.env = (false, eval e X.env) :: starEach [] X.env := by rfl) (hpl : (backTo pos (starEach [] X.env)).any (·.1) = false := by rfl) :
    PE X (.Call (.Name x p) [e] [] pos) (tTold X k TT te) := by
  refine ⟨fun pins s σ H Q I h => ?_⟩
  refine wpAny_Call_Name_kw (ld_glob I hg hm ?_ hdb)
  have arg := (pa_cons he pa_nil hs).run pos pins s σ H (fun vs H1 => match vs with
    | [v] => ∃ (f c' : Addr) (o : Obj) (scope : Scope) (dT : Option Addr) (t : XK → TE), v = .ref f ∧ H1 c' = some (CodeO c' (X.env.qual ++ "<lambda>")) ∧ LamN X.N X.env.scope scope ∧
      LamP X.prog X.w X.K X.mg X.base X.N (X.env.qual ++ "<lambda>") (cloFrom X.env.cells scope.names []) scope o c' dT k t ∧ TT (fun E H' Q' => H' f = some (LamO f o) ∧ DvAt H' dT ∧ t E σ H' Q') H1 Q
    | _ => False) I h
  refine PySem.W.callWith_K (h₀ := X.base) I.ok.mod.kin hk (thn arg fun us s1 ⟨vs, H1, I1, r, q0⟩ => ⟨I1.kIn, ?_⟩) hs hpl
  match vs, r, q0 with
  | [v], r, q0 =>
    obtain ⟨f, c', o, scope, dT, t, rfl, hc, L, LP, q⟩ := q0
    obtain ⟨u, rfl, ru⟩ := r.one
    cases ru
    have rc : codeAny (model X.prog X.w) X.A (.call (.ref g) ⟨[.ref f], []⟩) (CR C8.CX0 X.stack X.prog X.w H1 s1 Q C8.E0) s1 := by
      refine run_ofS (N := Ng) (ps := [a]) (us := [.ref f]) (vs := [.ref f]) lk hcg Sg hr I1.env0 (hb s1 [.ref f] I1.kIn rfl) (.cons rfl .nil) rfl fun hr' => ?_
      obtain ⟨t', ht', hq'⟩ := hG f c' s1 H1 Q (fun E H' Q' => H' f = some (LamO f o) ∧ DvAt H' dT ∧ t E σ H' Q') (fun W pn xe E p1 p2 tk hW => lam_act (i := 0) (CloAt.here I1 L) LP tk hW hr' hNg hva hd hcd) hc q
      exact ⟨t', ht'.nox, hq'⟩
    refine wpAny_call (codeAny_mono rc fun r s2 hq => ?_)
    cases r with
    | error e => exact (show False from hq).elim
    | ok fl =>
      cases fl with
      | ret u => exact I1.after hq
      | next => exact hq.elim
      | brk => exact hq.elim
      | cont => exact hq.elim
end
end DLR
namespace DLR
open PySem PySem.Spec PyProof.Rows L2
theorem lookup_rel {f : Str × NameKind → Str × NameKind} (hf : ∀ p, (f p).1 = p.1 ∧ ((p.2 = .cell ∨ p.2 = .free) → ((f p).2 = .cell ∨ (f p).2 = .free))) : ∀ {names : List (Str × NameKind)} {x : Str}, names.lookup x = some .cell ∨ names.lookup x = some .free →
    (names.map f).lookup x = some .cell ∨ (names.map f).lookup x = some .free
  | [], x, h => by simp at h
  | (n, k) :: r, x, h => by
    obtain ⟨h1, h2⟩ := hf (n, k)
    obtain ⟨n', k', e⟩ : ∃ n' k', f (n, k) = (n', k') := ⟨_, _, rfl⟩
    rw [e] at h1 h2
    have h1 : n' = n := h1
    subst h1
    rw [List.map_cons, e]
    rw [List.lookup_cons] at h ⊢
    cases c : x == n' with
    | true =>
      rw [c] at h
      have h : k = .cell ∨ k = .free := h.imp (fun z => Option.some.inj z) fun z => Option.some.inj z
      exact (h2 h).imp (congrArg some) (congrArg some)
    | false =>
      rw [c] at h
      exact lookup_rel hf h
theorem blkRel {N : List Str} {sc scope : Scope} {own : List (Str × Nat)} {env : Env} (h : BlkOk N sc scope own) : BlkOk N (relabel sc env) scope own := by
  refine ⟨h.kind, h.uniq, h.ix, fun y hy e => ?_, h.own⟩
  unfold relabel
  refine lookup_rel (fun p => ?_) (h.free y hy e)
  obtain ⟨n, k⟩ := p
  dsimp only
  split
  · exact ⟨rfl, fun _ => .inl rfl⟩
  · exact ⟨rfl, fun z => z⟩
theorem pi_tupK {X : Cx} {tg e : Expr} {te : TE} (K0 : PySem.W.Frag) (hK : X.K = K0) (h : PE X e te) : PI X tg e (iTup K0 te) := by
  subst hK
  exact pi_tup h
theorem cr_sortedIK {X : Cx} (K0 : PySem.W.Frag) (hK : X.K = K0) : CallR X (.builtin "sorted") (rSortedI K0) := hK ▸ cr_sortedI
theorem call_tuple_ofK {X : Cx} (K0 : PySem.W.Frag) (hK : X.K = K0) : CallR X (.type "tuple") (fun xs H Q => ∃ p ys, xs = [.ref p] ∧ ((SqL K0 H p ys ∧ ∀ l, H l = none → Q (.ref l) (upd H l (.tup ys))) ∨ (SqT K0 H p ys ∧ Q (.ref p) H))) := by
  subst hK
  exact call_tuple_of
end DLR
namespace DL
open PySem L2 DLR LamX
theorem refs_ne_dice {H : Hp} {d sa la : Addr} {gs : List Addr} (dv : DiceV H d sa) (h : H la = some (.lst (gs.map V.ref))) : la ≠ d := fun e => by
  subst e
  obtain ⟨i, m, r, z, _⟩ := dv
  rw [z] at h
  have q : ([.ref sa, .int i, .int m, .int r] : List V) = gs.map V.ref := by injection (Option.some.inj h)
  match gs, q with
  | [], q => cases q
  | [_], q => cases q
  | _ :: _ :: _, q => cases (List.cons.inj (List.cons.inj q).2).1
def noTb (H : Hp) : Hp := fun a => match H a with
  | some (.tbl _) => none
  | x => x
theorem noTb_of {H : Hp} {a : Addr} {o : HO} (h : noTb H a = some o) : H a = some o ∧ ∀ ps, o ≠ .tbl ps := by
  unfold noTb at h
  split at h
  · cases h
  · rename_i n
    exact ⟨h, fun ps z => n ps (by rw [h, z])⟩
theorem noTb_at {H : Hp} {a : Addr} {o : HO} (h : H a = some o) (n : ∀ ps, o ≠ .tbl ps) : noTb H a = some o := by
  unfold noTb
  split
  · rename_i ps e
    rw [h] at e
    exact absurd (Option.some.inj e) (n ps)
  · exact h
theorem noTb_none {H : Hp} {a : Addr} (h : H a = none) : noTb H a = none := by
  unfold noTb
  rw [h]
theorem Ent.noTb {K : Frg} {H : Hp} {d sa : Addr} {ns : List Int} (h : Ent K H d sa ns) : Ent K (noTb H) d sa ns := by
  refine ⟨?_, ?_, h.len⟩
  · obtain ⟨i, m, r, z, q⟩ := h.dice
    exact ⟨i, m, r, noTb_at z (fun ps q => by cases q), q⟩
  · rcases h.scr with (g | ⟨o, g⟩) | g
    · exact .inl (.inl (noTb_at g (fun ps q => by cases q)))
    · exact .inl (.inr ⟨o, noTb_at g (fun ps q => by cases q)⟩)
    · exact .inr g
theorem Dc.ext {K : Frg} {H0 H H' : Hp} {d sa : Addr} {ns : List Int} (h : Dc K (DL.noTb H0) H d sa ns) (e : ExtN H H') : Dc K (DL.noTb H0) H' d sa ns := by
  refine ⟨h.e0, fun x o n g => e x o (h.but x o n g) (noTb_of g).2, ?_⟩
  obtain ⟨i, m, r, z, q⟩ := h.dice
  exact ⟨i, m, r, e _ _ z (fun ps q => by cases q), q⟩
theorem tabS_dice {K : Frg} {H H' : Hp} {d sa P : Addr} {ns : List Int} {q : Str} (t : TabS H P q) (c : Dc K H H' d sa ns) : TabS H' P q := by
  obtain ⟨j, m, r, z, _⟩ := c.e0.dice
  obtain ⟨ps, h1, h2, h3⟩ := t
  refine ⟨ps, c.but _ _ (ne_of h1 z (by intro q; cases q)) h1, h2, fun pos cv hc => ?_⟩
  obtain ⟨k, e1, e2⟩ := h3 pos cv hc
  exact ⟨k, e1, c.but _ _ (ne_of e2 z (by intro q; unfold CodeO at q; cases q)) e2⟩
def forB : Stmt → List Stmt
  | .For _ _ b .. => b
  | _ => []
def ifB : Stmt → List Stmt
  | .If _ b .. => b
  | _ => []
def asgV : Stmt → Expr
  | .Assign _ v _ => v
  | _ => .Name "x" ⟨0, 0, 0, 0⟩
def callA : Expr → Expr
  | .Call _ (a :: _) _ _ => a
  | e => e
def lcS (d : Scope) : Expr → Scope
  | .ListComp _ _ sc _ => sc
  | _ => d
abbrev qP : Str := (("law" : Str) ++ (".<locals>." : Str))
abbrev qL : Str := qP ++ ("<lambda>" : Str)
theorem tab_mem {Pt : Addr} {q : Str} (h : q = qP) : (Pt, q ++ "<lambda>") ∈ [(Pt, qL)] := by
  rw [h]
  exact List.mem_singleton.mpr rfl
theorem tab_one {Pt : Addr} {q : Str} (h : q = qP) : ∀ p ∈ [(Pt, qL)], p.1 = Pt → p.2 = q ++ "<lambda>" := by
  rw [h]
  intro p hp _
  rw [List.mem_singleton.mp hp]
structure Ct (K : Frg) (Hb H : Hp) (d sa Pt : Addr) (ns : List Int) : Prop where
  ent : Dc K Hb H d sa ns
  tab : TabS H Pt qL
theorem Ct.same {K : Frg} {Hb H H' : Hp} {d sa Pt : Addr} {ns : List Int} (h : Ct K Hb H d sa Pt ns) (s : Same1 H H') : Ct K Hb H' d sa Pt ns := ⟨h.ent.same s, h.tab.ext s⟩
theorem Ct.dice {K : Frg} {Hb H H' : Hp} {d sa Pt : Addr} {ns : List Int} (h : Ct K Hb H d sa Pt ns) (c : Dc K H H' d sa ns) : Ct K Hb H' d sa Pt ns := ⟨h.ent.trans c, tabS_dice h.tab c⟩
theorem Ct.ext {K : Frg} {H0 H H' : Hp} {d sa Pt : Addr} {ns : List Int} (h : Ct K (noTb H0) H d sa Pt ns) (e : ExtN H H') (t : Tabs [(Pt, qL)] H') : Ct K (noTb H0) H' d sa Pt ns := ⟨h.ent.ext e, t _ (List.mem_singleton.mpr rfl)⟩
theorem Ct.tabs {K : Frg} {Hb H : Hp} {d sa Pt : Addr} {ns : List Int} (h : Ct K Hb H d sa Pt ns) : Tabs [(Pt, qL)] H := fun q hq => by rw [List.mem_singleton.mp hq]; exact h.tab
theorem Kp.ext {H H' : Hp} (e : ExtN H H') : Kp H H' := fun a xs g => e _ _ g (fun ps z => by cases z)
end DL
/-! ### an error of an own class that has fields: made by an own __init__ that calls its base's, asked for its class and its fields -/
namespace PySem.W
open PySem PySem.Spec PySem.Calls PyProof.Rows
section
variable {prog : Program} {w : World} {A : Around} {E : Value → Shared → Prop} {s : Shared} {K : Frag} {x D : Addr} {ox od : Obj}
theorem class_of_held {Q : Option Value → Shared → Prop} (h1 : findIn K (.ref D) "__getattribute__" = some (some (.builtin "BaseException.__getattribute__"))) (h2 : findIn K (.ref D) "__getattr__" = some none) (h3 : subIn K (.ref D) (.type "BaseException") = some true) (h4 : hasDictIn K D = true)
    (h5 : findIn K (.ref D) "__class__" = some (some (.builtin "object.__class__"))) (h6 : specialIn K (.builtin "object.__class__") "__get__" = some (some (.builtin "getset_descriptor.__get__"))) (h7 : takesIn K (.builtin "object.__class__") = some true) (h8 : mroIn K D (.type "object") = some true)
    (X : K.In s.heap) (I : InstAt s.heap x ox D (some od)) (q : Q (some (.ref D)) { s with toks := s.toks + 1 }) : wpAny (model prog w) A (getAttr? (.ref x) "__class__") Q E s := by
  obtain ⟨cd, e0, _⟩ := any_some h4
  have fo : findObj K D (some od) "__class__" = some (.bind (.builtin "getset_descriptor.__get__") (.builtin "object.__class__")) := findObj_data (by rw [e0]; rfl) h5 h6 h7
  obtain ⟨hp, g, d, t, os⟩ := s
  have ty := I.type (M := model prog w)
  have is : Looks (model prog w) hp (isInstance (.ref x) (.type "BaseException")) true := ty.andThen (looks_subIn X h3)
  have no : (onTheHeap (Value.ref D) && Value.builtin "BaseException.__getattribute__" == Value.builtin "object.__getattribute__") = false := by
    rw [show (Value.builtin "BaseException.__getattribute__" == Value.builtin "object.__getattribute__") = false by decide +kernel]
    rfl
  unfold getAttr? getAttrBy? getAttrBy
  refine wpAny_bind (wpAny_mkText (wpAny_bind (wpAny_attempt (wpAny_holding (wpAny_bind (ty.at (wpAny_bind ((looks_findIn X h1).at ?_))))))))
  show wpAny _ _ (if (onTheHeap (Value.ref D) && Value.builtin "BaseException.__getattribute__" == Value.builtin "object.__getattribute__") = true then _ else _) _ _ _
  rw [no, if_neg Bool.false_ne_true]
  unfold getAttrByItsOwn hookBefore
  refine wpAny_bind ?_
  rw [if_pos (show onTheHeap (Value.ref D) = true from rfl)]
  refine (looks_findIn X h2).at (wpAny_bind (wpAny_attempt (wpAny_holding ?_)))
  unfold callGetattribute
  rw [show (false && onTheHeap (Value.builtin "BaseException.__getattribute__")) = false from rfl, if_neg Bool.false_ne_true]
  unfold boundAndCalled
  rw [PySem.F.excAttr_ValueError.ga.bind (.ref x)]
  refine wpAny_bind (wpAny_pure ?_)
  show wpAny _ _ (call (.builtin "BaseException.__getattribute__") [.ref x, .str "__class__" t]) _ _ _
  refine wpAny_call (codeAny_call_builtin PySem.F.excAttr_ValueError.ga.plain PySem.F.entry_bexc_ga (@check_slot (model prog w) _ _ ⟨hp, g, d, t + 1, os⟩ "BaseException.__getattribute__" "BaseException" "__getattribute__" (.ref x) [.str "__class__" t] [] _ (by decide +kernel) (by decide +kernel) is (PySem.F.args_bexc_ga (.ref x) (.str "__class__" t)) ?_))
  unfold Builtin.«object.__getattribute__»
  refine wpAny_bind (wpAny_of_eq (a := ((Value.ref x : Value), [Value.str "__class__" t])) (by first | rfl | (simp only [slotArgs]; rfl)) (wpAny_bind (wpAny_pure (wpAny_bind (ty.at (wpAny_bind ((looks_find (M := model prog w) X I fo).at ?_)))))))
  show wpAny _ _ (holding [Value.builtin "object.__class__"] (call (.builtin "getset_descriptor.__get__") [.builtin "object.__class__", .ref x, .ref D]) >>= ret) _ _ _
  refine wpAny_bind (wpAny_holding (wpAny_call (class_get (s := ⟨hp, g, d, t + 1, os⟩) (ox := ox) (od := some od) X I h8 (wpAny_pure ?_))))
  show wpAny _ _ (handedOut (.ref D)) _ _ _
  rw [handedOut_of (v := .ref D) rfl]
  first
    | exact wpAny_pure (wpAny_pure q)
    | exact wpAny_pure q
    | exact wpAny_pure (wpAny_bind (wpAny_pure (wpAny_pure q)))
theorem kit_held (h1 : findIn K (.ref D) "__getattribute__" = some (some (.builtin "BaseException.__getattribute__"))) (h2 : findIn K (.ref D) "__getattr__" = some none) (h3 : subIn K (.ref D) (.type "BaseException") = some true) (h4 : hasDictIn K D = true)
    (h5 : findIn K (.ref D) "__class__" = some (some (.builtin "object.__class__"))) (h6 : specialIn K (.builtin "object.__class__") "__get__" = some (some (.builtin "getset_descriptor.__get__"))) (h7 : takesIn K (.builtin "object.__class__") = some true) (h8 : mroIn K D (.type "object") = some true) :
    KitX K (.ref x) (.ref D) (fun h => ∃ od, InstAt h x ox D (some od)) :=
  have old := handS_kitx_exc (x := x) (ox := ox) h1 h2 h3 h4 h5 h6 h7 h8
  { ty := fun _ _ _ ⟨_, I⟩ => I.type
    it := fun M h X ⟨_, I⟩ => by
      obtain ⟨cd, hc, _⟩ := any_some h4
      unfold clsIn at hc
      split at hc
      · rename_i c1 d1 cd1 sl1 ho
        intro A' Q' E' s' k q
        unfold isType loadHead
        exact wpAny_bind (wpAny_loadPart (k _ _ (X _ _ ho)) (wpAny_pure q))
      · cases hc
    ne := old.ne
    ca := fun X ⟨_, I⟩ k => class_of_held h1 h2 h3 h4 h5 h6 h7 h8 X I k }
end
end PySem.W
namespace DLR
open PySem PySem.Spec PyProof.Rows L2 LamX
def rIsD (K : PySem.W.Frag) (D a : Addr) (dd : Addr) : List V → Hp → VK → Prop := fun xs H Q => ∃ (fs : List (Str × V)) (c : V) (cv : Value) (b : Bool), H dd = some (.xd fs) ∧ xs = [.ref a, c] ∧ (∀ u, RelV c u → u = cv) ∧ PySem.W.kitOne K (.ref D) cv = some b ∧ Q (.bl b) H
theorem call_isD {X : Cx} {a D dd : Addr} {oe : Obj} {pn : List (Addr × Obj)} (C : ExcC X.K D) (hz : Zc (.ref D) (some dd) oe) (hf : ∃ vs, oe.data = .fields vs) : CallR (X.suite a ((a, oe) :: pn)) (.builtin "isinstance") (rIsD X.K D a dd) := by
  intro pins s σ H xs us Q I r h
  obtain ⟨fs, c, cv, b, hdd, rfl, hcv, e, q⟩ := h
  match us, r with
  | [u1, u2], .cons rx (.cons rt .nil) =>
    cases rx
    obtain rfl := hcv _ rt
    obtain ⟨hget, _⟩ := I.pin (a, oe) (List.mem_append.mpr (.inl List.mem_cons_self))
    obtain ⟨vs, hv⟩ := hf
    have hx : ObjOk X.prog X.w H s.heap dd (.xd fs) := I.hok dd _ hdd
    obtain ⟨mA, hns, _⟩ := hx
    obtain ⟨od, ho, _⟩ := lookIn_ns hns
    have J : PySem.W.InstAt s.heap a oe D (some od) := ⟨hget, hz.1, by unfold PySem.W.notCls; rw [hv] <;> rfl, by rw [hz.2]; exact ho⟩
    exact PySem.W.kia_one (PySem.W.kit_held C.hg C.hk C.hs C.hd C.ha C.hn C.ht C.hm) I.kIn ⟨_, J⟩ e (fun z => nomatch z) fun tk => ⟨.bl b, H, I.kept (t' := tk) fun _ _ z => z, rfl, q⟩
structure DeK (K : PySem.W.Frag) (mg : Str → Option Value) (DE : Addr) : Prop where
  m : mg "DrumError" = some (.ref DE)
  sp : PySem.W.specialIn K (.ref DE) "__getattribute__" = some (some (.builtin "type.__getattribute__"))
  ty : PySem.W.typeIn K (.ref DE) = some (.type "type")
  rd : PySem.W.readsIn K DE (.type "type") = true
  fi : PySem.W.findCls K (.ref DE) (.type "type") "__init__" = some (.val (.builtin "ValueError.__init__"))
section
variable {X : Cx} {e : Expr} {es : List Expr} {ta : TA} {p1 p2 pos : Pos} {DE : Addr}
theorem pe_deinit {pl : Sem Bool} (B : DeK X.K X.mg DE) (hg : Gl X "DrumError") (ha : PA X (e :: es) ta)
    (hc : eval (.Call (.Attribute (.Name "DrumError" p1) "__init__" p2) (e :: es) [] pos) X.env = (do
      let ov ← eval (.Name "DrumError" p1) X.env
      standAt p2.atName
      let (f, first) ← holding [ov] (getMethod ov "__init__" pl)
      callWith pos f first (backTo pos (starEach (e :: es) X.env)) (backToKw pos (keywordEach [] X.env))) := by rfl)
    (he : starEach (e :: es) X.env = (false, eval e X.env) :: starEach es X.env := by rfl) (hpl : (backTo pos (starEach es X.env)).any (·.1) = false := by rfl) :
    PE X (.Call (.Attribute (.Name "DrumError" p1) "__init__" p2) (e :: es) [] pos) (tVeI X.K ta) := by
  refine ⟨fun pins s σ H Q I h => PySem.W.methodCall_KW (ld_glob I hg B.m ?_ (by decide)) hc⟩
  obtain ⟨m, fr⟩ := I.fr
  refine PySem.W.method_of_cls fr I.ok.mod.kin B.sp (PySem.W.cls_val fr I.ok.mod.kin B.ty B.rd B.fi (by decide +kernel) ?_)
  show wpAny _ _ (callWith pos (Value.builtin "ValueError.__init__") [] (backTo pos (starEach (e :: es) X.env)) []) _ _ _
  refine PyProof.Rows.callWith_method1 (thn (ha.run pos pins _ σ H _ (I.tok _) h) fun us s1 ⟨vs, H1, I1, r1, a, C, ws, ev, hl, T, ea, q⟩ => ?_) he hpl
  subst ev
  match us, r1 with
  | u0 :: ur, .cons ra rr =>
    cases ra
    exact oinit_ok T I1 ea (by rw [← Paired.length rr, sizeLine_eq]; omega) fun s' J => ⟨.non, H1, J, rfl, q⟩
end
end DLR
namespace DL
open PySem PySem.Spec L2 DLR
/-! ### the errors that have fields: made and raised -/
structure ErI (K : Frg) (mg : Str → Option Value) (x : Str) (qual : Str) (C : Addr) (st : Stmt) (ps : List Str) where
  f : Addr
  fd : FuncData
  F : Fun K "__init__" qual st f fd
  b : Binds K fd ps []
  iC : PySem.W.findIn K (.ref C) "__init__" = some (some (.ref f))
  tI : PySem.W.typeIn K (.ref f) = some (.type "function")
  T : OexC K C
  m : mg x = some (.ref C)
theorem raised_eq {H : Hp} {a d : Addr} {o o1 o2 x : HO} (ha : H a = none) (hd : d ≠ a) : upd (L2.del (upd (upd (upd H a o) d o1) a o2) a) d x = upd H d x := by
  funext b
  by_cases h1 : b = d
  · rw [h1, upd_same, upd_same]
  · rw [upd_ne h1, upd_ne h1]
    by_cases h2 : b = a
    · rw [h2, L2.del_same, ha]
    · rw [L2.del_ne h2, upd_ne h2, upd_ne h1, upd_ne h2]
theorem raised_eq2 {H : Hp} {a d : Addr} {o o1 o2 o3 x : HO} (ha : H a = none) (hd : d ≠ a) : upd (L2.del (upd (upd (upd (upd H a o) d o1) a o2) d o3) a) d x = upd H d x := by
  funext b
  by_cases h1 : b = d
  · rw [h1, upd_same, upd_same]
  · rw [upd_ne h1, upd_ne h1]
    by_cases h2 : b = a
    · rw [h2, L2.del_same, ha]
    · rw [L2.del_ne h2, upd_ne h1, upd_ne h2, upd_ne h1, upd_ne h2]
def Sm (n : Int) : Prop := n.natAbs.log2 < 1920
theorem Sm.len {n : Int} (h : Sm n) : (Str.ofString (toString n)).length ≤ 1921 := by
  rw [ofString_length]
  exact int_text_length_le (by decide) h
theorem app_le {x y : Str} {m n : Nat} (h : x.length ≤ m) (g : y.length ≤ n) : (x ++ y).length ≤ m + n := by
  rw [Str.length_append]
  omega
theorem len_str (n : Nat) (x : Str) (h : x.length ≤ n) : x.length ≤ n := h
abbrev sBTInit : Stmt := inClass (top 11) 0
abbrev fsBT (line : Int) : List (Str × V) := [("line", .int line)]
def spBT (C : Addr) : Sp := fun vs H Q _ => ∃ (a : Addr) (line : Int), vs = [.ref a, .int line] ∧ H a = some (exo a C none) ∧ Sm line ∧ ∀ d, H d = none → d ≠ a → Q .non (upd (upd H d (exd d (fsBT line))) a (exo a C (some d)))
theorem toldBT {C : Addr} {line : Int} {H : Hp} {Q : XK} (hc : Sm line) (k : ∀ d H', H d = none → Same1 H H' → H' d = some (.xd (fsBT line)) → Q (.ref C) (some d) H') :
    ([.int line] : List V).length ≤ 1000 ∧ ∀ a, H a = none → spBT C (.ref a :: ([.int line] ++ [])) (upd H a (exo a C none)) (fun v H2 => v = .non ∧ ∃ (d : Addr) (fs : List (Str × V)), H2 a = some (exo a C (some d)) ∧ H2 d = some (exd d fs) ∧ H d = none ∧ Q (.ref C) (some d) (upd (L2.del H2 a) d (.xd fs))) (fun _ _ _ => False) := by
  refine ⟨by show 1 ≤ 1000; decide, fun a ha => ⟨a, line, rfl, upd_same, hc, fun d hd hne => ?_⟩⟩
  have hd0 : H d = none := by rwa [upd_ne hne] at hd
  refine ⟨rfl, d, fsBT line, upd_same, ?_, hd0, ?_⟩
  · rw [upd_ne hne, upd_same]
  · rw [raised_eq ha hne]
    exact k d _ hd0 (Same.new hd0) upd_same
section
variable {P : Program} {w : World} {K : PySem.W.Frag} {mg : Str → Option Value} {base : Heap} {C DE : Addr}
theorem scBTInit : FnScope ["self", "line"] ["self", "line"] (defScope sBTInit) := ⟨rfl, rfl, rfl, by decide +kernel, rfl, by decide +kernel, by decide +kernel⟩
theorem ok_BTInit (c : ErI K mg "BadText" "BadText.__init__" C sBTInit ["self", "line"]) (B : DeK K mg DE) (nline : PySem.W.findIn K (.ref C) "line" = some none) : FnOk P w K mg base CX0 1 c.f c.fd ["self", "line"] (spBT C) := by
  refine c.F.ok scBTInit (fun vs H Q E h => ?_) (fun cdv A outer s H vs Q E hr h => ?_)
  · obtain ⟨a, line, rfl, _⟩ := h
    rfl
  · obtain ⟨a, line, rfl, ha, hline, k⟩ := h
    refine ⟨_, (pss_cons (ps_expr (pe_deinit B (by rfl) (pa_cons (pv 0) (pa_cons (L2.pe_joined (L2.PJ.cons pe_str (L2.PJ.cons (L2.pe_fmt (pv 1)) L2.PJ.nil))) pa_nil)))) (pss_one (L2.ps_ost (pv 0) (pv 1)))), ?_⟩
    have lline := Sm.len hline
    refine ⟨_, rfl, ?_⟩
    refine ⟨_, rfl, (sz (Nat.le_trans (app_le (show (Str.empty : Str).length ≤ 0 by decide) (show (_ : Str).length ≤ 100 by decide +kernel)) (by decide))), ?_⟩
    refine ⟨_, rfl, .inr ⟨line, rfl, hline, _, rfl, (sz (Nat.le_trans (app_le (app_le (show (Str.empty : Str).length ≤ 0 by decide) (show (_ : Str).length ≤ 100 by decide +kernel)) lline) (by decide))), ?_⟩⟩
    refine ⟨a, C, _, rfl, (by show 1 ≤ 1000; decide), c.T, ha, ?_⟩
    exact ⟨_, rfl, _, rfl, a, C, rfl, c.T, nline, .inl ⟨ha, fun d hd hne => k d hd hne⟩⟩
end
abbrev sBPInit : Stmt := inClass (top 4) 0
abbrev fsBP (row : Int) (why : Str) : List (Str × V) := [("why", .str why), ("row", .int row)]
def spBP (C : Addr) : Sp := fun vs H Q _ => ∃ (a : Addr) (row : Int) (why : Str), vs = [.ref a, .int row, .str why] ∧ H a = some (exo a C none) ∧ Sm row ∧ why.length ≤ 1000 ∧ ∀ d, H d = none → d ≠ a → Q .non (upd (upd (upd H d (exd d [("row", .int row)])) a (exo a C (some d))) d (exd d (fsBP row why)))
theorem toldBP {C : Addr} {row : Int} {why : Str} {H : Hp} {Q : XK} (hc : Sm row ∧ why.length ≤ 1000) (k : ∀ d H', H d = none → Same1 H H' → H' d = some (.xd (fsBP row why)) → Q (.ref C) (some d) H') :
    ([.int row, .str why] : List V).length ≤ 1000 ∧ ∀ a, H a = none → spBP C (.ref a :: ([.int row, .str why] ++ [])) (upd H a (exo a C none)) (fun v H2 => v = .non ∧ ∃ (d : Addr) (fs : List (Str × V)), H2 a = some (exo a C (some d)) ∧ H2 d = some (exd d fs) ∧ H d = none ∧ Q (.ref C) (some d) (upd (L2.del H2 a) d (.xd fs))) (fun _ _ _ => False) := by
  refine ⟨by show 2 ≤ 1000; decide, fun a ha => ⟨a, row, why, rfl, upd_same, hc.1, hc.2, fun d hd hne => ?_⟩⟩
  have hd0 : H d = none := by rwa [upd_ne hne] at hd
  refine ⟨rfl, d, fsBP row why, ?_, upd_same, hd0, ?_⟩
  · rw [upd_ne hne.symm, upd_same]
  · rw [raised_eq2 ha hne]
    exact k d _ hd0 (Same.new hd0) upd_same
section
variable {P : Program} {w : World} {K : PySem.W.Frag} {mg : Str → Option Value} {base : Heap} {C DE : Addr}
theorem scBPInit : FnScope ["self", "row", "why"] ["self", "row", "why"] (defScope sBPInit) := ⟨rfl, rfl, rfl, by decide +kernel, rfl, by decide +kernel, by decide +kernel⟩
theorem ok_BPInit (c : ErI K mg "BadProgram" "BadProgram.__init__" C sBPInit ["self", "row", "why"]) (B : DeK K mg DE) (nrow : PySem.W.findIn K (.ref C) "row" = some none) (nwhy : PySem.W.findIn K (.ref C) "why" = some none) : FnOk P w K mg base CX0 1 c.f c.fd ["self", "row", "why"] (spBP C) := by
  refine c.F.ok scBPInit (fun vs H Q E h => ?_) (fun cdv A outer s H vs Q E hr h => ?_)
  · obtain ⟨a, row, why, rfl, _⟩ := h
    rfl
  · obtain ⟨a, row, why, rfl, ha, hrow, hwhy, k⟩ := h
    refine ⟨_, (pss_cons (ps_expr (pe_deinit B (by rfl) (pa_cons (pv 0) (pa_cons (L2.pe_joined (L2.PJ.cons pe_str (L2.PJ.cons (L2.pe_fmt (pv 1)) (L2.PJ.cons pe_str (L2.PJ.cons (L2.pe_fmt (pv 2)) L2.PJ.nil))))) pa_nil)))) (pss_cons (L2.ps_ost (pv 0) (pv 1)) (pss_one (L2.ps_ost (pv 0) (pv 2))))), ?_⟩
    have lrow := Sm.len hrow
    refine ⟨_, rfl, ?_⟩
    refine ⟨_, rfl, (sz (Nat.le_trans (app_le (show (Str.empty : Str).length ≤ 0 by decide) (show (_ : Str).length ≤ 100 by decide +kernel)) (by decide))), ?_⟩
    refine ⟨_, rfl, .inr ⟨row, rfl, hrow, _, rfl, (sz (Nat.le_trans (app_le (app_le (show (Str.empty : Str).length ≤ 0 by decide) (show (_ : Str).length ≤ 100 by decide +kernel)) lrow) (by decide))), ?_⟩⟩
    refine ⟨_, rfl, (sz (Nat.le_trans (app_le (app_le (app_le (show (Str.empty : Str).length ≤ 0 by decide) (show (_ : Str).length ≤ 100 by decide +kernel)) lrow) (show (_ : Str).length ≤ 100 by decide +kernel)) (by decide))), ?_⟩
    refine ⟨_, rfl, .inl ⟨why, rfl, sz (Nat.le_trans hwhy (by decide)), _, rfl, (sz (Nat.le_trans (app_le (app_le (app_le (app_le (show (Str.empty : Str).length ≤ 0 by decide) (show (_ : Str).length ≤ 100 by decide +kernel)) lrow) (show (_ : Str).length ≤ 100 by decide +kernel)) hwhy) (by decide))), ?_⟩⟩
    refine ⟨a, C, _, rfl, (by show 1 ≤ 1000; decide), c.T, ha, ?_⟩
    refine ⟨_, rfl, _, rfl, a, C, rfl, c.T, nrow, .inl ⟨ha, fun d hd hne => ?_⟩⟩
    refine ⟨_, rfl, _, rfl, a, C, rfl, c.T, nwhy, .inr ⟨d, _, upd_same, ?_, by show 1 ≤ 900; decide, k d hd hne⟩⟩
    rw [upd_ne hne, upd_same]
end
abbrev sBLInit : Stmt := inClass (top 5) 0
abbrev fsBL (why : Str) (at_ : Int) : List (Str × V) := [("at", .int at_), ("why", .str why)]
def spBL (C : Addr) : Sp := fun vs H Q _ => ∃ (a : Addr) (why : Str) (at_ : Int), vs = [.ref a, .str why, .int at_] ∧ H a = some (exo a C none) ∧ why.length ≤ 1000 ∧ Sm at_ ∧ ∀ d, H d = none → d ≠ a → Q .non (upd (upd (upd H d (exd d [("why", .str why)])) a (exo a C (some d))) d (exd d (fsBL why at_)))
theorem toldBL {C : Addr} {why : Str} {at_ : Int} {H : Hp} {Q : XK} (hc : why.length ≤ 1000 ∧ Sm at_) (k : ∀ d H', H d = none → Same1 H H' → H' d = some (.xd (fsBL why at_)) → Q (.ref C) (some d) H') :
    ([.str why, .int at_] : List V).length ≤ 1000 ∧ ∀ a, H a = none → spBL C (.ref a :: ([.str why, .int at_] ++ [])) (upd H a (exo a C none)) (fun v H2 => v = .non ∧ ∃ (d : Addr) (fs : List (Str × V)), H2 a = some (exo a C (some d)) ∧ H2 d = some (exd d fs) ∧ H d = none ∧ Q (.ref C) (some d) (upd (L2.del H2 a) d (.xd fs))) (fun _ _ _ => False) := by
  refine ⟨by show 2 ≤ 1000; decide, fun a ha => ⟨a, why, at_, rfl, upd_same, hc.1, hc.2, fun d hd hne => ?_⟩⟩
  have hd0 : H d = none := by rwa [upd_ne hne] at hd
  refine ⟨rfl, d, fsBL why at_, ?_, upd_same, hd0, ?_⟩
  · rw [upd_ne hne.symm, upd_same]
  · rw [raised_eq2 ha hne]
    exact k d _ hd0 (Same.new hd0) upd_same
section
variable {P : Program} {w : World} {K : PySem.W.Frag} {mg : Str → Option Value} {base : Heap} {C DE : Addr}
theorem scBLInit : FnScope ["self", "why", "at"] ["self", "why", "at"] (defScope sBLInit) := ⟨rfl, rfl, rfl, by decide +kernel, rfl, by decide +kernel, by decide +kernel⟩
theorem ok_BLInit (c : ErI K mg "BadLaying" "BadLaying.__init__" C sBLInit ["self", "why", "at"]) (B : DeK K mg DE) (nwhy : PySem.W.findIn K (.ref C) "why" = some none) (nat : PySem.W.findIn K (.ref C) "at" = some none) : FnOk P w K mg base CX0 1 c.f c.fd ["self", "why", "at"] (spBL C) := by
  refine c.F.ok scBLInit (fun vs H Q E h => ?_) (fun cdv A outer s H vs Q E hr h => ?_)
  · obtain ⟨a, why, at_, rfl, _⟩ := h
    rfl
  · obtain ⟨a, why, at_, rfl, ha, hwhy, hat, k⟩ := h
    refine ⟨_, (pss_cons (ps_expr (pe_deinit B (by rfl) (pa_cons (pv 0) (pa_cons (L2.pe_joined (L2.PJ.cons pe_str (L2.PJ.cons (L2.pe_fmt (pv 1)) (L2.PJ.cons pe_str (L2.PJ.cons (L2.pe_fmt (pv 2)) L2.PJ.nil))))) pa_nil)))) (pss_cons (L2.ps_ost (pv 0) (pv 1)) (pss_one (L2.ps_ost (pv 0) (pv 2))))), ?_⟩
    have lat := Sm.len hat
    refine ⟨_, rfl, ?_⟩
    refine ⟨_, rfl, (sz (Nat.le_trans (app_le (show (Str.empty : Str).length ≤ 0 by decide) (show (_ : Str).length ≤ 100 by decide +kernel)) (by decide))), ?_⟩
    refine ⟨_, rfl, .inl ⟨why, rfl, sz (Nat.le_trans hwhy (by decide)), _, rfl, (sz (Nat.le_trans (app_le (app_le (show (Str.empty : Str).length ≤ 0 by decide) (show (_ : Str).length ≤ 100 by decide +kernel)) hwhy) (by decide))), ?_⟩⟩
    refine ⟨_, rfl, (sz (Nat.le_trans (app_le (app_le (app_le (show (Str.empty : Str).length ≤ 0 by decide) (show (_ : Str).length ≤ 100 by decide +kernel)) hwhy) (show (_ : Str).length ≤ 100 by decide +kernel)) (by decide))), ?_⟩
    refine ⟨_, rfl, .inr ⟨at_, rfl, hat, _, rfl, (sz (Nat.le_trans (app_le (app_le (app_le (app_le (show (Str.empty : Str).length ≤ 0 by decide) (show (_ : Str).length ≤ 100 by decide +kernel)) hwhy) (show (_ : Str).length ≤ 100 by decide +kernel)) lat) (by decide))), ?_⟩⟩
    refine ⟨a, C, _, rfl, (by show 1 ≤ 1000; decide), c.T, ha, ?_⟩
    refine ⟨_, rfl, _, rfl, a, C, rfl, c.T, nwhy, .inl ⟨ha, fun d hd hne => ?_⟩⟩
    refine ⟨_, rfl, _, rfl, a, C, rfl, c.T, nat, .inr ⟨d, _, upd_same, ?_, by show 1 ≤ 900; decide, k d hd hne⟩⟩
    rw [upd_ne hne, upd_same]
end
abbrev sBEInit : Stmt := inClass (top 8) 0
abbrev fsBE (at_ : Int) : List (Str × V) := [("at", .int at_)]
def spBE (C : Addr) : Sp := fun vs H Q _ => ∃ (a : Addr) (at_ : Int), vs = [.ref a, .int at_] ∧ H a = some (exo a C none) ∧ Sm at_ ∧ ∀ d, H d = none → d ≠ a → Q .non (upd (upd H d (exd d (fsBE at_))) a (exo a C (some d)))
theorem toldBE {C : Addr} {at_ : Int} {H : Hp} {Q : XK} (hc : Sm at_) (k : ∀ d H', H d = none → Same1 H H' → H' d = some (.xd (fsBE at_)) → Q (.ref C) (some d) H') :
    ([.int at_] : List V).length ≤ 1000 ∧ ∀ a, H a = none → spBE C (.ref a :: ([.int at_] ++ [])) (upd H a (exo a C none)) (fun v H2 => v = .non ∧ ∃ (d : Addr) (fs : List (Str × V)), H2 a = some (exo a C (some d)) ∧ H2 d = some (exd d fs) ∧ H d = none ∧ Q (.ref C) (some d) (upd (L2.del H2 a) d (.xd fs))) (fun _ _ _ => False) := by
  refine ⟨by show 1 ≤ 1000; decide, fun a ha => ⟨a, at_, rfl, upd_same, hc, fun d hd hne => ?_⟩⟩
  have hd0 : H d = none := by rwa [upd_ne hne] at hd
  refine ⟨rfl, d, fsBE at_, upd_same, ?_, hd0, ?_⟩
  · rw [upd_ne hne, upd_same]
  · rw [raised_eq ha hne]
    exact k d _ hd0 (Same.new hd0) upd_same
section
variable {P : Program} {w : World} {K : PySem.W.Frag} {mg : Str → Option Value} {base : Heap} {C DE : Addr}
theorem scBEInit : FnScope ["self", "at"] ["self", "at"] (defScope sBEInit) := ⟨rfl, rfl, rfl, by decide +kernel, rfl, by decide +kernel, by decide +kernel⟩
theorem ok_BEInit (c : ErI K mg "BadPaper" "BadPaper.__init__" C sBEInit ["self", "at"]) (B : DeK K mg DE) (nat : PySem.W.findIn K (.ref C) "at" = some none) : FnOk P w K mg base CX0 1 c.f c.fd ["self", "at"] (spBE C) := by
  refine c.F.ok scBEInit (fun vs H Q E h => ?_) (fun cdv A outer s H vs Q E hr h => ?_)
  · obtain ⟨a, at_, rfl, _⟩ := h
    rfl
  · obtain ⟨a, at_, rfl, ha, hat, k⟩ := h
    refine ⟨_, (pss_cons (ps_expr (pe_deinit B (by rfl) (pa_cons (pv 0) (pa_cons (L2.pe_joined (L2.PJ.cons pe_str (L2.PJ.cons (L2.pe_fmt (pv 1)) L2.PJ.nil))) pa_nil)))) (pss_one (L2.ps_ost (pv 0) (pv 1)))), ?_⟩
    have lat := Sm.len hat
    refine ⟨_, rfl, ?_⟩
    refine ⟨_, rfl, (sz (Nat.le_trans (app_le (show (Str.empty : Str).length ≤ 0 by decide) (show (_ : Str).length ≤ 100 by decide +kernel)) (by decide))), ?_⟩
    refine ⟨_, rfl, .inr ⟨at_, rfl, hat, _, rfl, (sz (Nat.le_trans (app_le (app_le (show (Str.empty : Str).length ≤ 0 by decide) (show (_ : Str).length ≤ 100 by decide +kernel)) lat) (by decide))), ?_⟩⟩
    refine ⟨a, C, _, rfl, (by show 1 ≤ 1000; decide), c.T, ha, ?_⟩
    exact ⟨_, rfl, _, rfl, a, C, rfl, c.T, nat, .inl ⟨ha, fun d hd hne => k d hd hne⟩⟩
end
end DL
namespace DL
open PySem PySem.Spec L2 DLR
/-! ### what is no program: by data of any shape -/
def D.num : D → Bool
  | .int _ => true
  | _ => false
def D.betw (lo hi : Int) : D → Bool
  | .int i => decide (lo ≤ i) && decide (i ≤ hi)
  | _ => false
def partD : D → Nat → D
  | .tup ds, j => ds.getD j .non
  | _, _ => .non
def worthsF : D → Option Str
  | .tup ds => if ds.length ≤ 8 then (if ds.all (D.betw (-1000000) 1000000) = true then none else some "number") else some "worths"
  | _ => some "worths"
def words7 : List (Str × List Str) := [("load", ["worth", "next"]), ("add", ["worth", "next"]), ("take", ["worth", "next"]), ("store", ["worth", "next"]), ("say", ["next"]), ("test", ["next", "next"]), ("stop", [])]
def partsOf (x : Str) : Option (List Str) := words7.lookup x
def shapeF : D → Bool
  | .tup (.str x :: r) => match partsOf x with
    | some ps => decide (r.length = ps.length) && r.all D.num
    | none => false
  | _ => false
def argsF (W N : Nat) : List Str → List D → Option Str
  | n :: ns, .int i :: ds => if 0 ≤ i ∧ i < (if n = "worth" then (W : Int) else (N : Int)) then argsF W N ns ds else some n
  | _, _ => none
def rowF (W N : Nat) (d : D) : Option Str := if shapeF d = true then (match d with
  | .tup (.str x :: r) => argsF W N ((partsOf x).getD []) r
  | _ => none) else some "shape"
def rowsF (W N : Nat) : Nat → List D → Option (Nat × Str)
  | _, [] => none
  | i, d :: ds => match rowF W N d with
    | some y => some (i, y)
    | none => rowsF W N (i + 1) ds
def lenD : D → Nat
  | .tup ds => ds.length
  | .lst ds => ds.length
  | _ => 0
def progF (d : D) : Option (Int × Str) := match worthsF (partD d 0) with
  | some y => some (-1, y)
  | none => match partD d 1 with
    | .tup rs => if lenD d = 2 ∧ 1 ≤ rs.length ∧ rs.length ≤ 40 then (rowsF (lenD (partD d 0)) rs.length 0 rs).map fun q => ((q.1 : Int), q.2) else some (-1, "rows")
    | _ => some (-1, "rows")
structure PtO (K : Frg) {w : World} {mg : Str → Option Value} (Z : Pt K w mg) : Prop where
  no : ∀ x : Str, partsOf x = none → PySem.W.nsIn K Z.d x = some none
theorem parts_row {x : Str} {ps : List Str} (h : partsOf x = some ps) : ∃ r : Row, r.word = x ∧ r.parts = ps := by
  unfold partsOf words7 at h
  simp only [List.lookup_cons, List.lookup_nil] at h
  split at h
  · rename_i e
    exact ⟨.load 0 0, by rw [eq_of_beq e]; rfl, Option.some.inj h⟩
  split at h
  · rename_i e
    exact ⟨.add 0 0, by rw [eq_of_beq e]; rfl, Option.some.inj h⟩
  split at h
  · rename_i e
    exact ⟨.take 0 0, by rw [eq_of_beq e]; rfl, Option.some.inj h⟩
  split at h
  · rename_i e
    exact ⟨.store 0 0, by rw [eq_of_beq e]; rfl, Option.some.inj h⟩
  split at h
  · rename_i e
    exact ⟨.say 0, by rw [eq_of_beq e]; rfl, Option.some.inj h⟩
  split at h
  · rename_i e
    exact ⟨.test 0 0, by rw [eq_of_beq e]; rfl, Option.some.inj h⟩
  split at h
  · rename_i e
    exact ⟨.stop, by rw [eq_of_beq e]; rfl, Option.some.inj h⟩
  · cases h
def spNumD : Sp := fun vs H Q _ => ∃ (v : V) (d : D), vs = [v] ∧ At H v d ∧ Q (.bl d.num) H
def spBetweenD : Sp := fun vs H Q _ => ∃ (v : V) (d : D) (lo hi : Int), vs = [v, .int lo, .int hi] ∧ At H v d ∧ Q (.bl (d.betw lo hi)) H
def spPartD : Sp := fun vs H Q _ => ∃ (v : V) (d : D) (j : Nat), vs = [v, .int (j : Int)] ∧ At H v d ∧ ∀ u, At H u (partD d j) → Q u H
def spHasShapeD : Sp := fun vs H Q _ => ∃ (v : V) (d : D), vs = [v] ∧ At H v d ∧ d.fit ∧ ∀ H', Same1 H H' → Q (.bl (shapeF d)) H'
abbrev BadP (BP : Addr) (H : Hp) (E : XK) (r : Int) (y : Str) : Prop := ∀ d H', H d = none → Same1 H H' → H' d = some (.xd (fsBP r y)) → E (.ref BP) (some d) H'
def spCheckWorthsD (BP : Addr) : Sp := fun vs H Q E => ∃ (v : V) (d : D), vs = [v] ∧ At H v d ∧ d.fit ∧ (∀ y, worthsF d = some y → BadP BP H E (-1) y) ∧ (worthsF d = none → Q .non H)
mutual
theorem At.sm0 {H H' : Hp} (s : Same1 H H') : ∀ (d : D) (v : V), At H v d → At H' v d
  | .non, v, h => by simpa [At] using h
  | .bl b, v, h => by simpa [At] using h
  | .int i, v, h => by simpa [At] using h
  | .str x, v, h => by simpa [At] using h
  | .lst ds, v, h => by
    obtain ⟨a, vs, rfl, h1, h2⟩ : ∃ a vs, v = .ref a ∧ H a = some (.lst vs) ∧ Ats H vs ds := by simpa [At] using h
    have q := Ats.sm0 s ds vs h2
    simp only [At]
    exact ⟨a, vs, rfl, s _ _ h1, q⟩
  | .tup ds, v, h => by
    obtain ⟨a, vs, rfl, h1, h2⟩ : ∃ a vs, v = .ref a ∧ H a = some (.tup vs) ∧ Ats H vs ds := by simpa [At] using h
    have q := Ats.sm0 s ds vs h2
    simp only [At]
    exact ⟨a, vs, rfl, s _ _ h1, q⟩
theorem Ats.sm0 {H H' : Hp} (s : Same1 H H') : ∀ (ds : List D) (vs : List V), Ats H vs ds → Ats H' vs ds
  | [], [], _ => by simp [Ats]
  | d :: ds, v :: vs, h => by
    have h : At H v d ∧ Ats H vs ds := by simpa [Ats] using h
    simp only [Ats]
    exact ⟨At.sm0 s d v h.1, Ats.sm0 s ds vs h.2⟩
  | [], _ :: _, h => by simp [Ats] at h
  | _ :: _, [], h => by simp [Ats] at h
end
theorem At.numI {H : Hp} {v : V} {d : D} (h : At H v d) (n : d.num = true) : ∃ i, d = .int i ∧ v = .int i := by
  cases d with
  | int i => exact ⟨i, rfl, by simpa [At] using h⟩
  | non => cases n
  | bl b => cases n
  | str s => cases n
  | lst l => cases n
  | tup l => cases n
section
variable {P : Program} {w : World} {K : PySem.W.Frag} {mg : Str → Option Value} {base : Heap}
theorem ok_isNumberD (c : FIsNumber K mg) (T : Bt mg) : FnOk P w K mg base CX0 1 c.f c.fd ["thing"] spNumD := by
  refine c.F.ok scIsNumber (fun vs H Q E h => ?_) (fun cdv A outer s H vs Q E hr h => ?_)
  · obtain ⟨v, d, rfl, _⟩ := h
    rfl
  · obtain ⟨v, d, rfl, hv, k⟩ := h
    refine ⟨_, (pss_one (ps_ret (pe_and (pe_callB call_isi (by rfl) T.isinstance (by decide +kernel) (pa_cons (pv 0) (pa_cons (pe_bltn (v := .ty "int") (by rfl) T.int (by decide +kernel) rfl) pa_nil))) (pe_one (pe_not (pe_callB call_isi (by rfl) T.isinstance (by decide +kernel) (pa_cons (pv 0) (pa_cons (pe_bltn (v := .ty "bool") (by rfl) T.bool (by decide +kernel) rfl) pa_nil)))))))), ?_⟩
    cases d with
    | int i =>
      refine ⟨_, rfl, _, _, _, _, true, rfl, .ty _, hv.ty, kit_ty (by dsimp only [DL.D.ty]; decide +kernel), _, rfl, ?_⟩
      exact ⟨_, rfl, _, _, _, _, false, rfl, .ty _, hv.ty, kit_ty (by dsimp only [DL.D.ty]; decide +kernel), _, rfl, k⟩
    | bl b =>
      refine ⟨_, rfl, _, _, _, _, true, rfl, .ty _, hv.ty, kit_ty (by dsimp only [DL.D.ty]; decide +kernel), _, rfl, ?_⟩
      exact ⟨_, rfl, _, _, _, _, true, rfl, .ty _, hv.ty, kit_ty (by dsimp only [DL.D.ty]; decide +kernel), _, rfl, k⟩
    | non => exact ⟨_, rfl, _, _, _, _, false, rfl, .ty _, hv.ty, kit_ty (by dsimp only [DL.D.ty]; decide +kernel), _, rfl, k⟩
    | str x => exact ⟨_, rfl, _, _, _, _, false, rfl, .ty _, hv.ty, kit_ty (by dsimp only [DL.D.ty]; decide +kernel), _, rfl, k⟩
    | lst l => exact ⟨_, rfl, _, _, _, _, false, rfl, .ty _, hv.ty, kit_ty (by dsimp only [DL.D.ty]; decide +kernel), _, rfl, k⟩
    | tup l => exact ⟨_, rfl, _, _, _, _, false, rfl, .ty _, hv.ty, kit_ty (by dsimp only [DL.D.ty]; decide +kernel), _, rfl, k⟩
theorem ok_isBetweenD (c : FIsBetween K mg) (cIsNumber : FIsNumber K mg) (T : Bt mg) : FnOk P w K mg base CX0 2 c.f c.fd ["thing", "low", "high"] spBetweenD := by
  have GIsNumber : FnOk P w K mg base CX0 1 cIsNumber.f cIsNumber.fd ["thing"] spNumD := ok_isNumberD cIsNumber T
  refine c.F.ok scIsBetween (fun vs H Q E h => ?_) (fun cdv A outer s H vs Q E hr h => ?_)
  · obtain ⟨v, d, lo, hi, rfl, _⟩ := h
    rfl
  · obtain ⟨v, d, lo, hi, rfl, hv, k⟩ := h
    refine ⟨_, (pss_one (ps_ret (pe_and (pe_call GIsNumber (hr.mono (by first | omega | decide)) (by rfl) cIsNumber.m cIsNumber.F.kp cIsNumber.b .nil pass0 (pa_cons (pv 0) pa_nil)) (pe_one (pe_chain op_le op_le (pv 1) (pv 0) (pv 2)))))), ?_⟩
    refine ⟨_, rfl, v, d, rfl, hv, _, rfl, ?_⟩
    cases hn : d.num with
    | true =>
      obtain ⟨i, rfl, rfl⟩ := hv.numI hn
      refine ⟨_, rfl, _, rfl, _, _, rfl, rfl, _, rfl, ?_⟩
      have k : Q (.bl (decide (lo ≤ i) && decide (i ≤ hi))) H := k
      cases h1 : decide (lo ≤ i) with
      | true =>
        rw [h1] at k
        exact iteT ⟨_, rfl, _, _, rfl, rfl, k⟩
      | false =>
        rw [h1] at k
        exact iteF k
    | false =>
      have e : d.betw lo hi = false := by cases d <;> first | rfl | cases hn
      rw [e] at k
      exact k
theorem ok_partD (c : FPart K mg) (T : Bt mg) : FnOk P w K mg base CX0 1 c.f c.fd ["whole", "at"] spPartD := by
  refine c.F.ok scPart (fun vs H Q E h => ?_) (fun cdv A outer s H vs Q E hr h => ?_)
  · obtain ⟨v, d, j, rfl, _⟩ := h
    rfl
  · obtain ⟨v, d, j, rfl, hv, k⟩ := h
    refine ⟨_, (pss_cons (ps_if (PW.pt (pw_and (pt_val (pe_callB call_isi (by rfl) T.isinstance (by decide +kernel) (pa_cons (pv 0) (pa_cons (pe_bltn (v := .ty "tuple") (by rfl) T.tuple (by decide +kernel) rfl) pa_nil)))) (pw_and1 (pt_cmpR op_lt (pv 1) (pe_callB call_len_seq (by rfl) T.len PySem.boot_len (pa_cons (pv 0) pa_nil)) (nomark _)))))
          (pss_one (ps_ret (pe_ix ix_tup (pv 0) (pv 1) (fun _ _ => rfl))))
          pss_nil)
      (pss_one (ps_ret pe_non))), ?_⟩
    have hnon : partD d j = .non → Q .non H := fun e => k .non (by rw [e]; simp [At])
    cases d with
    | tup ds =>
      obtain ⟨a, xs, rfl, h1, h2⟩ : ∃ a vs, v = .ref a ∧ H a = some (.tup vs) ∧ Ats H vs ds := by simpa [At] using hv
      have hl := h2.len
      refine ⟨_, rfl, _, _, _, _, true, rfl, .ty _, .base (.tup h1), kit_ty (by decide +kernel), _, rfl, ?_⟩
      refine ⟨_, rfl, _, rfl, a, _, rfl, .inr (SqT.of h1), _, _, rfl, rfl, _, rfl, ?_⟩
      by_cases hj : j < xs.length
      · obtain ⟨u, x, g1, g2, g3⟩ := h2.get j (by omega)
        rw [decide_eq_true (show (j : Int) < (xs.length : Int) by omega)]
        refine iteT ⟨_, rfl, _, rfl, a, _, _, _, rfl, rfl, SqT.of h1, atI_nat g1, k u ?_⟩
        show At H u (ds.getD j .non)
        rw [List.getD_eq_getElem?_getD, g2]
        exact g3
      · rw [decide_eq_false (show ¬ (j : Int) < (xs.length : Int) by omega)]
        refine iteF (hnon ?_)
        show ds.getD j .non = .non
        rw [List.getD_eq_getElem?_getD, List.getElem?_eq_none (by omega)]
        rfl
    | int i => exact ⟨_, rfl, _, _, _, _, false, rfl, .ty _, hv.ty, kit_ty (by dsimp only [DL.D.ty]; decide +kernel), _, rfl, iteF (hnon rfl)⟩
    | bl b => exact ⟨_, rfl, _, _, _, _, false, rfl, .ty _, hv.ty, kit_ty (by dsimp only [DL.D.ty]; decide +kernel), _, rfl, iteF (hnon rfl)⟩
    | non => exact ⟨_, rfl, _, _, _, _, false, rfl, .ty _, hv.ty, kit_ty (by dsimp only [DL.D.ty]; decide +kernel), _, rfl, iteF (hnon rfl)⟩
    | str x => exact ⟨_, rfl, _, _, _, _, false, rfl, .ty _, hv.ty, kit_ty (by dsimp only [DL.D.ty]; decide +kernel), _, rfl, iteF (hnon rfl)⟩
    | lst l => exact ⟨_, rfl, _, _, _, _, false, rfl, .ty _, hv.ty, kit_ty (by dsimp only [DL.D.ty]; decide +kernel), _, rfl, iteF (hnon rfl)⟩
theorem ok_hasShapeD (c : FHasShape K mg) (cPart : FPart K mg) (cIsNumber : FIsNumber K mg) (T : Bt mg) (Z : Pt K w mg) (O : PtO K Z) : FnOk P w K mg base CX0 2 c.f c.fd ["row"] spHasShapeD := by
  have GPart : FnOk P w K mg base CX0 1 cPart.f cPart.fd ["whole", "at"] spPartD := ok_partD cPart T
  have GIsNumber : FnOk P w K mg base CX0 1 cIsNumber.f cIsNumber.fd ["thing"] spNumD := ok_isNumberD cIsNumber T
  refine c.F.ok scHasShape (fun vs H Q E h => ?_) (fun cdv A outer s H vs Q E hr h => ?_)
  · obtain ⟨v, d, rfl, _⟩ := h
    rfl
  · obtain ⟨v, d, rfl, hv, hfit, k⟩ := h
    refine ⟨_, (pss_cons (ps_set (i := 1) scHasShape.nd rfl (Or.inl rfl) (pe_call GPart (hr.mono (by first | omega | decide)) (by rfl) cPart.m cPart.F.kp cPart.b .nil pass0 (pa_cons (pv 0) (pa_cons pe_int pa_nil))))
      (pss_cons (ps_if (PW.pt (pw_or (pt_not (pt_val (pe_callB call_isi (by rfl) T.isinstance (by decide +kernel) (pa_cons (pv 1) (pa_cons (pe_bltn (v := .ty "str") (by rfl) T.str (by decide +kernel) rfl) pa_nil))))) (pw_or1 (pt_cmpR (op_notIn_kd Z.kd) (pv 1) (pe_glob (v := .ref Z.d) rfl Z.m rfl) rfl))))
          (pss_one (ps_ret pe_bl))
          pss_nil)
      (pss_one (ps_ret (pe_and (pe_cmpR op_eq (pe_callB call_len_seq (by rfl) T.len PySem.boot_len (pa_cons (pv 0) pa_nil)) (pe_op op_add (pe_callB call_len_seq (by rfl) T.len PySem.boot_len (pa_cons (pe_ix ix_kdict (pe_glob (v := .ref Z.d) rfl Z.m rfl) (pv 1) (fun _ _ => rfl)) pa_nil)) pe_int) (nomark _)) (pe_one (pe_callB (cr_all rfl) (by rfl) T.all (by decide +kernel) (pa_cons (pe_lc (own := [("thing", 2)]) (g := gName 2) (tt := tYes) rfl scHasShape.nd (pi_tup (pe_slice sl_tupS (pv 0) (po_some pe_int) po_none)) (blkOk_by (N := nHasShape) (sc := defScope sHasShape) (by decide +kernel)) (fun _ _ _ _ _ => (pg_name (i := 2) scHasShape.nd rfl (Or.inl rfl))) (fun _ _ _ _ _ => pts_nil) (fun _ _ _ _ _ => (pe_call GIsNumber (hr.mono (by first | omega | decide)) (by rfl) cIsNumber.m cIsNumber.F.kp cIsNumber.b .nil pass0 (pa_cons (pv 2) pa_nil)))) pa_nil)))))))), ?_⟩
    refine ⟨_, rfl, v, d, 0, rfl, hv, fun u hu => ?_⟩
    have no : (∀ x, partD d 0 ≠ .str x) → shapeF d = false := fun n => by
      cases d with
      | tup ds =>
        cases ds with
        | nil => rfl
        | cons y r =>
          cases y with
          | str x => exact absurd rfl (n x)
          | _ => rfl
      | _ => rfl
    have no2 : ∀ b, kitB (partD d 0).ty "str" = some b → b = false → shapeF d = false := fun b hb hf => no fun x e => by
      rw [e] at hb
      have z : kitB (D.str x).ty "str" = some true := by dsimp only [DL.D.ty]; decide +kernel
      rw [z] at hb
      cases hb
      cases hf
    cases hy : partD d 0 with
    | str x =>
      rw [hy] at hu
      obtain ⟨r, rfl⟩ : ∃ r, d = .tup (.str x :: r) := by
        cases d with
        | tup ds =>
          cases ds with
          | nil => cases hy
          | cons y r =>
            have e : y = .str x := hy
            exact ⟨r, by rw [e]⟩
        | _ => cases hy
      obtain ⟨a, vs, rfl, ha, hds⟩ : ∃ a vs, v = .ref a ∧ H a = some (.tup vs) ∧ Ats H vs (.str x :: r) := by simpa [At] using hv
      have hvl := hds.len
      obtain ⟨v0, ws, rfl⟩ : ∃ v0 ws, vs = v0 :: ws := by
        cases vs with
        | nil => simp at hvl
        | cons v0 ws => exact ⟨v0, ws, rfl⟩
      have hds : At H v0 (.str x) ∧ Ats H ws r := by simpa [Ats] using hds
      have eu : u = .str x := by simpa [At] using hu
      subst eu
      refine ⟨_, rfl, _, _, _, _, true, rfl, .ty _, hu.ty, kit_ty (by dsimp only [DL.D.ty]; decide +kernel), _, rfl, ?_⟩
      cases hp : partsOf x with
      | none =>
        have es : shapeF (.tup (.str x :: r)) = false := by
          show (match partsOf x with | some ps => decide (r.length = ps.length) && r.all D.num | none => false) = false
          rw [hp]
        rw [es] at k
        exact ⟨_, rfl, _, _, rfl, rfl, O.no x hp, _, rfl, k H (Same.refl _)⟩
      | some ps =>
        have es : shapeF (.tup (.str x :: r)) = (decide (r.length = ps.length) && r.all D.num) := by
          show (match partsOf x with | some ps => decide (r.length = ps.length) && r.all D.num | none => false) = _
          rw [hp]
        rw [es] at k
        obtain ⟨r0, rw0, rp0⟩ := parts_row hp
        obtain ⟨t, z1, z2, z3⟩ := Z.get r0
        rw [rw0] at z1 z2
        rw [rp0] at z3
        refine ⟨_, rfl, _, _, rfl, rfl, z1, _, rfl, ?_⟩
        refine ⟨_, rfl, a, _, rfl, .inr (SqT.of ha), _, rfl, Z.d, _, _, rfl, rfl, z2, t, _, rfl, .inr (z3 H), _, _, rfl, rfl, rfl, _, rfl, ?_⟩
        have hwl := hds.2.len
        have hll := (D.fit_of (.inr rfl) hfit).1
        have hll : r.length + 1 ≤ 100000 := hll
        by_cases hlen : r.length = ps.length
        · rw [decide_eq_true (show V.int (((v0 :: ws).length : Nat) : Int) = V.int (((ps.map V.str).length : Int) + 1) by rw [List.length_cons, List.length_map, hwl, hlen]; rfl)]
          rw [decide_eq_true hlen, Bool.true_and] at k
          refine iteT ⟨_, rfl, _, rfl, a, _, rfl, ha, fun t2 H2 s2 e2 => ?_⟩
          rw [drop1] at e2
          have e2 : H2 t2 = some (.tup ws) := e2
          refine ⟨t2, rfl, ⟨_, SqT.of e2⟩, fun D hD => ?_⟩
          refine lc_tup (K := K) (a := t2) (xs := ws) (fun i H' => H' D = some (.lst (((r.take i).map DL.D.num).map V.bl)) ∧ Same1 H2 H') ⟨upd_same, Same.new hD⟩ (fun i H' _ ⟨_, q⟩ => SqT.of (q _ _ e2)) ?_ ?_
          · rintro i x' H3 hi ⟨hd, s3⟩
            have hil := (List.getElem?_eq_some_iff.mp hi).1
            obtain ⟨u, y, g1, g2, g3⟩ := hds.2.get i (by omega)
            rw [hi] at g1
            have e := Option.some.inj g1
            subst e
            refine ⟨rfl, _, rfl, x', y, rfl, At.sm0 (s2.trans s3) y x' g3, _, hd, szl (by rw [List.length_map, List.length_map, List.length_take]; omega), ?_, Same.mut s3 hD⟩
            rw [upd_same, List.take_add_one, g2, List.map_append, List.map_append]
            rfl
          · rintro H3 ⟨hd, s3⟩
            rw [hwl, List.take_length] at hd
            refine ⟨D, _, rfl, SqL.of hd, ?_⟩
            have ea : (r.map DL.D.num).all id = r.all DL.D.num := by
              rw [List.all_map]
              rfl
            rw [ea]
            exact k _ (s2.trans s3)
        · rw [decide_eq_false (show ¬ V.int (((v0 :: ws).length : Nat) : Int) = V.int (((ps.map V.str).length : Int) + 1) by
            intro z
            injection z with z
            rw [List.length_cons, List.length_map, hwl] at z
            omega)]
          rw [decide_eq_false hlen, Bool.false_and] at k
          exact iteF (k H (Same.refl _))
    | non =>
      rw [hy] at hu
      rw [no fun x e => by rw [hy] at e; cases e] at k
      exact ⟨_, rfl, _, _, _, _, false, rfl, .ty _, hu.ty, kit_ty (by dsimp only [DL.D.ty]; decide +kernel), _, rfl, k H (Same.refl _)⟩
    | bl b =>
      rw [hy] at hu
      rw [no fun x e => by rw [hy] at e; cases e] at k
      exact ⟨_, rfl, _, _, _, _, false, rfl, .ty _, hu.ty, kit_ty (by dsimp only [DL.D.ty]; decide +kernel), _, rfl, k H (Same.refl _)⟩
    | int i =>
      rw [hy] at hu
      rw [no fun x e => by rw [hy] at e; cases e] at k
      exact ⟨_, rfl, _, _, _, _, false, rfl, .ty _, hu.ty, kit_ty (by dsimp only [DL.D.ty]; decide +kernel), _, rfl, k H (Same.refl _)⟩
    | lst l =>
      rw [hy] at hu
      rw [no fun x e => by rw [hy] at e; cases e] at k
      exact ⟨_, rfl, _, _, _, _, false, rfl, .ty _, hu.ty, kit_ty (by dsimp only [DL.D.ty]; decide +kernel), _, rfl, k H (Same.refl _)⟩
    | tup l =>
      rw [hy] at hu
      rw [no fun x e => by rw [hy] at e; cases e] at k
      exact ⟨_, rfl, _, _, _, _, false, rfl, .ty _, hu.ty, kit_ty (by dsimp only [DL.D.ty]; decide +kernel), _, rfl, k H (Same.refl _)⟩
end
end DL
namespace DL
open PySem PySem.Spec L2 DLR
abbrev IBP (K : Frg) (mg : Str → Option Value) (C : Addr) := ErI K mg "BadProgram" "BadProgram.__init__" C sBPInit ["self", "row", "why"]
theorem small_m1 : Sm (-1) := by unfold Sm; decide
theorem small_nat {n : Nat} (h : n < 1000000) : Sm (n : Int) := by
  unfold Sm
  show n.log2 < 1920
  by_cases e : n = 0
  · subst e
    decide
  · exact Nat.lt_of_lt_of_le ((Nat.log2_lt e).mpr (Nat.lt_of_lt_of_le h (by decide : 1000000 ≤ 2 ^ 20))) (by decide)
def spCheckRowD (BP : Addr) : Sp := fun vs H Q E => ∃ (v : V) (d : D) (c : Addr) (n W N : Nat) (kvs : List (Key × V)), vs = [v, .int (n : Int), .ref c] ∧ At H v d ∧ d.fit ∧ n < 1000000 ∧
  H c = some (.dK kvs) ∧ valV kvs kWo = some (.int (W : Int)) ∧ valV kvs kNx = some (.int (N : Int)) ∧ (∀ y, rowF W N d = some y → BadP BP H E (n : Int) y) ∧ (rowF W N d = none → ∀ H', Same1 H H' → Q .non H')
def spCheckProgramD (BP : Addr) : Sp := fun vs H Q E => ∃ (v : V) (d : D), vs = [v] ∧ At H v d ∧ d.fit ∧ (∀ r y, progF d = some (r, y) → BadP BP H E r y) ∧ (progF d = none → ∀ H', Same1 H H' → Q .non H')
theorem parts_two {x : Str} {ps : List Str} (h : partsOf x = some ps) {n : Str} (hn : n ∈ ps) : n = "worth" ∨ n = "next" := by
  obtain ⟨r, _, rfl⟩ := parts_row h
  cases r <;> simp [Row.parts] at hn <;> first | exact hn | exact .inr hn
theorem parts_short {x : Str} {ps : List Str} (h : partsOf x = some ps) {n : Str} (hn : n ∈ ps) : n.length ≤ 1000 := by
  rcases parts_two h hn with rfl | rfl <;> decide +kernel
theorem part_fit {d : D} (h : d.fit) (j : Nat) : (partD d j).fit := by
  cases d with
  | tup ds =>
    show (ds.getD j .non).fit
    rw [List.getD_eq_getElem?_getD]
    cases q : ds[j]? with
    | none => simp [D.fit]
    | some z => exact fitL_iff.mp (D.fit_of (.inr rfl) h).2 z (List.mem_of_getElem? q)
  | _ => simp [partD, D.fit]
theorem BadP.to {BP : Addr} {H H1 : Hp} {E : XK} {r : Int} {y : Str} (h : BadP BP H E r y) (s : Same1 H H1) : BadP BP H1 E r y := fun d H' hd s' e => h d H' (s.free hd) (s.trans s') e
section
variable {P : Program} {w : World} {K : PySem.W.Frag} {mg : Str → Option Value} {base : Heap} {CB : Addr}
theorem ok_checkWorthsD (BP : IBP K mg CB) (GBP : FnOk P w K mg base CX0 1 BP.f BP.fd ["self", "row", "why"] (spBP CB)) (c : FCheckWorths K mg) (cIsBetween : FIsBetween K mg) (cIsNumber : FIsNumber K mg) (T : Bt mg) (C : Cn mg) : FnOk P w K mg base (L2.CX P w) 3 c.f c.fd ["worths"] (spCheckWorthsD CB) := by
  have GIsBetween : FnOk P w K mg base CX0 2 cIsBetween.f cIsBetween.fd ["thing", "low", "high"] spBetweenD := ok_isBetweenD cIsBetween cIsNumber T
  refine c.F.okX scCheckWorths (fun vs H Q E h => ?_) (fun cdv A outer s H vs Q E hr h => ?_)
  · obtain ⟨v, d, rfl, _⟩ := h
    rfl
  · obtain ⟨v, d, rfl, hv, hfit, ke, k⟩ := h
    refine ⟨_, (pss_cons (ps_if (PW.pt (pw_or (pt_not (pt_val (pe_callB call_isi (by rfl) T.isinstance (by decide +kernel) (pa_cons (pv 0) (pa_cons (pe_bltn (v := .ty "tuple") (by rfl) T.tuple (by decide +kernel) rfl) pa_nil))))) (pw_or1 (pt_cmpR op_gt (pe_callB call_len_seq (by rfl) T.len PySem.boot_len (pa_cons (pv 0) pa_nil)) (pe_glob rfl C.mW relI) (nomark _)))))
          (pss_one (ps_raise rfl (takes_of rfl rfl rfl rfl) (L2.pmk_oex BP.T BP.iC BP.tI GBP (hr.mono (by first | omega | decide)) BP.b .nil pass0 (by rfl) BP.m (pa_cons (pe_un un_neg pe_int) (pa_cons pe_str pa_nil)))))
          pss_nil)
      (pss_one (ps_for (L2.passes_of rfl) rfl (pi_tup (pv 0)) (pg_name (i := 1) scCheckWorths.nd rfl (Or.inl rfl))
          (pss_one (ps_if (pt_not (pt_val (pe_call GIsBetween (hr.mono (by first | omega | decide)) (by rfl) cIsBetween.m cIsBetween.F.kp cIsBetween.b .nil pass0 (pa_cons (pv 1) (pa_cons (pe_un un_neg (pe_glob rfl C.mN relI)) (pa_cons (pe_glob rfl C.mN relI) pa_nil))))))
              (pss_one (ps_raise rfl (takes_of rfl rfl rfl rfl) (L2.pmk_oex BP.T BP.iC BP.tI GBP (hr.mono (by first | omega | decide)) BP.b .nil pass0 (by rfl) BP.m (pa_cons (pe_un un_neg pe_int) (pa_cons pe_str pa_nil)))))
              pss_nil))))), ?_⟩
    cases d with
    | tup ds =>
      obtain ⟨a, xs, rfl, h1, h2⟩ : ∃ a vs, v = .ref a ∧ H a = some (.tup vs) ∧ Ats H vs ds := by simpa [At] using hv
      have hl := h2.len
      refine ⟨_, rfl, _, _, _, _, true, rfl, .ty _, .base (.tup h1), kit_ty (by decide +kernel), _, rfl, ?_⟩
      refine ⟨_, rfl, a, _, rfl, .inr (SqT.of h1), _, _, rfl, rfl, _, rfl, ?_⟩
      by_cases h8 : ds.length ≤ 8
      · rw [decide_eq_false (show ¬ (8 : Int) < (xs.length : Int) by omega)]
        refine iteF ⟨_, rfl, a, rfl, ⟨_, SqT.of h1⟩, for_tup (K := K) (a := a) (xs := xs) (fun i σ H' => ∃ x : Option V, σ = [some (.ref a), x] ∧ H' = H ∧ (ds.take i).all (D.betw (-1000000) 1000000) = true) ⟨_, rfl, rfl, rfl⟩ (fun i σ H' _ ⟨_, _, e, _⟩ => by rw [e]; exact SqT.of h1) ?_ ?_⟩
        · rintro i x σ H' hi ⟨y, rfl, rfl, hall⟩
          have hil := (List.getElem?_eq_some_iff.mp hi).1
          obtain ⟨u, z, g1, g2, g3⟩ := h2.get i (by omega)
          rw [hi] at g1
          have e := Option.some.inj g1
          subst e
          refine ⟨_, rfl, _, rfl, x, z, _, _, rfl, g3, _, rfl, ?_⟩
          cases hb : z.betw (-1000000) 1000000 with
          | true =>
            refine iteF ⟨_, rfl, rfl, ?_⟩
            rw [List.take_add_one, g2, List.all_append, hall]
            show (true && (z.betw (-1000000) 1000000 && true)) = true
            rw [hb]
            rfl
          | false =>
            refine iteT ⟨_, rfl, toldBP ⟨small_m1, by decide +kernel⟩ (ke _ ?_)⟩
            show (if ds.length ≤ 8 then _ else _) = _
            rw [if_pos h8, if_neg fun q => ?_]
            have q2 := List.all_eq_true.mp q z (List.mem_of_getElem? g2)
            rw [hb] at q2
            cases q2
        · rintro σ H' ⟨y, rfl, rfl, hall⟩
          rw [hl, List.take_length] at hall
          exact k (by show (if ds.length ≤ 8 then _ else _) = _; rw [if_pos h8, if_pos hall])
      · rw [decide_eq_true (show (8 : Int) < (xs.length : Int) by omega)]
        refine iteT ⟨_, rfl, toldBP ⟨small_m1, by decide +kernel⟩ (ke _ ?_)⟩
        show (if ds.length ≤ 8 then _ else _) = _
        rw [if_neg h8]
    | non => exact ⟨_, rfl, _, _, _, _, false, rfl, .ty _, hv.ty, kit_ty (by dsimp only [DL.D.ty]; decide +kernel), _, rfl, iteT ⟨_, rfl, toldBP ⟨small_m1, by decide +kernel⟩ (ke _ rfl)⟩⟩
    | bl b => exact ⟨_, rfl, _, _, _, _, false, rfl, .ty _, hv.ty, kit_ty (by dsimp only [DL.D.ty]; decide +kernel), _, rfl, iteT ⟨_, rfl, toldBP ⟨small_m1, by decide +kernel⟩ (ke _ rfl)⟩⟩
    | int i => exact ⟨_, rfl, _, _, _, _, false, rfl, .ty _, hv.ty, kit_ty (by dsimp only [DL.D.ty]; decide +kernel), _, rfl, iteT ⟨_, rfl, toldBP ⟨small_m1, by decide +kernel⟩ (ke _ rfl)⟩⟩
    | str x => exact ⟨_, rfl, _, _, _, _, false, rfl, .ty _, hv.ty, kit_ty (by dsimp only [DL.D.ty]; decide +kernel), _, rfl, iteT ⟨_, rfl, toldBP ⟨small_m1, by decide +kernel⟩ (ke _ rfl)⟩⟩
    | lst l => exact ⟨_, rfl, _, _, _, _, false, rfl, .ty _, hv.ty, kit_ty (by dsimp only [DL.D.ty]; decide +kernel), _, rfl, iteT ⟨_, rfl, toldBP ⟨small_m1, by decide +kernel⟩ (ke _ rfl)⟩⟩
theorem ok_checkRowD (BP : IBP K mg CB) (GBP : FnOk P w K mg base CX0 1 BP.f BP.fd ["self", "row", "why"] (spBP CB)) (c : FCheckRow K mg) (cHasShape : FHasShape K mg) (cPart : FPart K mg) (cIsNumber : FIsNumber K mg) (T : Bt mg) (Z : Pt K w mg) (O : PtO K Z) : FnOk P w K mg base (L2.CX P w) 3 c.f c.fd ["row", "number", "counts"] (spCheckRowD CB) := by
  have GHasShape : FnOk P w K mg base CX0 2 cHasShape.f cHasShape.fd ["row"] spHasShapeD := ok_hasShapeD cHasShape cPart cIsNumber T Z O
  refine c.F.okX scCheckRow (fun vs H Q E h => ?_) (fun cdv A outer s H vs Q E hr h => ?_)
  · obtain ⟨v, d, c, n, W, N, kvs, rfl, _⟩ := h
    rfl
  · obtain ⟨v, d, cc, n, W, N, kvs, rfl, hv, hfit, hn6, hc, hW, hN, ke, k⟩ := h
    refine ⟨_, (pss_cons (ps_if (pt_not (pt_val (pe_call GHasShape (hr.mono (by first | omega | decide)) (by rfl) cHasShape.m cHasShape.F.kp cHasShape.b .nil pass0 (pa_cons (pv 0) pa_nil))))
          (pss_one (ps_raise rfl (takes_of rfl rfl rfl rfl) (L2.pmk_oex BP.T BP.iC BP.tI GBP (hr.mono (by first | omega | decide)) BP.b .nil pass0 (by rfl) BP.m (pa_cons (pv 1) (pa_cons pe_str pa_nil)))))
          pss_nil)
      (pss_one (ps_for (L2.passes_of rfl) rfl (RZ.pi_zipA (by rfl) T.zip (pa_cons (pe_ix ix_kdict (pe_glob (v := .ref Z.d) rfl Z.m rfl) (pe_ix ix_tup (pv 0) pe_int (fun _ _ => rfl)) (fun _ _ => rfl)) (pa_cons (pe_slice sl_tupS (pv 0) (po_some pe_int) po_none) pa_nil))) (pg_tup rfl (pgs_cons (pg_name (i := 3) scCheckRow.nd rfl (Or.inl rfl)) (pgs_cons (pg_name (i := 4) scCheckRow.nd rfl (Or.inl rfl)) pgs_nil)))
          (pss_one (ps_if (pt_not (pt_chain op_le op_lt pe_int (pv 4) (pe_dget (hu_of hr) (pv 2) (pv 3) (fun _ _ => rfl))))
              (pss_one (ps_raise rfl (takes_of rfl rfl rfl rfl) (L2.pmk_oex BP.T BP.iC BP.tI GBP (hr.mono (by first | omega | decide)) BP.b .nil pass0 (by rfl) BP.m (pa_cons (pv 1) (pa_cons (pv 3) pa_nil)))))
              pss_nil))))), ?_⟩
    refine ⟨_, rfl, v, d, rfl, hv, hfit, fun H1 s1 => ⟨_, rfl, ?_⟩⟩
    cases hs : shapeF d with
    | false =>
      have er : rowF W N d = some "shape" := by
        unfold rowF
        rw [hs]
        rfl
      exact iteT ⟨_, rfl, toldBP ⟨small_nat hn6, by decide +kernel⟩ ((ke _ er).to s1)⟩
    | true =>
      refine iteF ?_
      obtain ⟨x, r, rfl⟩ : ∃ x r, d = .tup (.str x :: r) := by
        cases d with
        | tup ds =>
          cases ds with
          | nil => cases hs
          | cons y r =>
            cases y with
            | str x => exact ⟨x, r, rfl⟩
            | _ => cases hs
        | _ => cases hs
      obtain ⟨a, vs, rfl, ha, hds⟩ : ∃ a vs, v = .ref a ∧ H a = some (.tup vs) ∧ Ats H vs (.str x :: r) := by simpa [At] using hv
      have hvl := hds.len
      obtain ⟨v0, ws, rfl⟩ : ∃ v0 ws, vs = v0 :: ws := by
        cases vs with
        | nil => simp at hvl
        | cons v0 ws => exact ⟨v0, ws, rfl⟩
      have hds : At H v0 (.str x) ∧ Ats H ws r := by simpa [Ats] using hds
      have ev0 : v0 = .str x := by simpa [At] using hds.1
      subst ev0
      have hwl := hds.2.len
      obtain ⟨ps, hp, hlen, hnum⟩ : ∃ ps, partsOf x = some ps ∧ r.length = ps.length ∧ r.all D.num = true := by
        have hs : (match partsOf x with | some ps => decide (r.length = ps.length) && r.all D.num | none => false) = true := hs
        cases hp : partsOf x with
        | none => rw [hp] at hs; cases hs
        | some ps =>
          rw [hp] at hs
          have hs : (decide (r.length = ps.length) && r.all D.num) = true := hs
          obtain ⟨q1, q2⟩ := Bool.and_eq_true_iff.mp hs
          exact ⟨ps, rfl, of_decide_eq_true q1, q2⟩
      obtain ⟨r0, rw0, rp0⟩ := parts_row hp
      obtain ⟨t, z1, z2, z3⟩ := Z.get r0
      rw [rw0] at z1 z2
      rw [rp0] at z3
      have erow : rowF W N (.tup (.str x :: r)) = argsF W N ps r := by
        show (if shapeF (.tup (.str x :: r)) = true then argsF W N ((partsOf x).getD []) r else some "shape") = _
        rw [if_pos hs, hp]
        rfl
      rw [erow] at ke k
      have ha1 := s1 _ _ ha
      refine ⟨_, rfl, a, _, _, _, rfl, rfl, SqT.of ha1, at0, Z.d, _, _, rfl, rfl, z2, _, rfl, _, rfl, a, _, rfl, ha1, fun t2 H2 s2 e2 => ?_⟩
      rw [drop1] at e2
      have e2 : H2 t2 = some (.tup ws) := e2
      have S2 := s1.trans s2
      refine ⟨t, t2, _, _, rfl, .inr ⟨z3 H2, SqT.of e2, RZ.for_zipT (by rw [List.length_map]; omega) (fun i σ H' => ∃ x3 x4 : Option V, σ = [some (.ref a), some (.int (n : Int)), some (.ref cc), x3, x4] ∧ Same1 H2 H' ∧ argsF W N ps r = argsF W N (ps.drop i) (r.drop i)) ⟨none, none, rfl, Same.refl _, rfl⟩
        (fun i σ H' ⟨_, _, _, q, _⟩ => ⟨z3 H', SqT.of (q _ _ e2)⟩) ?_ ?_⟩⟩
      · rintro i xv y T' σ H3 hx hy ⟨x3, x4, rfl, s3, eA⟩ hT'
        rw [List.getElem?_map] at hx
        cases hpi : ps[i]? with
        | none => rw [hpi] at hx; cases hx
        | some nm =>
        rw [hpi] at hx
        have ex : V.str nm = xv := Option.some.inj hx
        subst ex
        have hil := (List.getElem?_eq_some_iff.mp hy).1
        obtain ⟨u, z, g1, g2, g3⟩ := hds.2.get i (by omega)
        rw [hy] at g1
        have e := Option.some.inj g1
        subst e
        obtain ⟨m, rfl, rfl⟩ := g3.numI (List.all_eq_true.mp hnum z (List.mem_of_getElem? g2))
        have hdp : ps.drop i = nm :: ps.drop (i + 1) := by
          obtain ⟨hi, e⟩ := List.getElem?_eq_some_iff.mp hpi
          rw [← e]
          exact List.drop_eq_getElem_cons hi
        have hdr : r.drop i = .int m :: r.drop (i + 1) := by
          obtain ⟨hi, e⟩ := List.getElem?_eq_some_iff.mp g2
          rw [← e]
          exact List.drop_eq_getElem_cons hi
        rw [hdp, hdr] at eA
        have eA : argsF W N ps r = if 0 ≤ m ∧ m < (if nm = "worth" then (W : Int) else (N : Int)) then argsF W N (ps.drop (i + 1)) (r.drop (i + 1)) else some nm := eA
        refine alloc hT' fun H4 s4 e4 => ?_
        have S4 : Same1 H H4 := (S2.trans s3).trans s4
        have hc4 := S4 _ _ hc
        have nml : nm.length ≤ 1000 := parts_short hp (List.mem_of_getElem? hpi)
        refine ⟨T', _, rfl, SqT.of e4, rfl, _, _, rfl, _, _, rfl, rfl, ?_⟩
        refine ⟨_, rfl, _, _, rfl, rfl, _, rfl, ?_⟩
        by_cases m0 : 0 ≤ m
        · rw [decide_eq_true m0]
          have hkey : ∃ cnt : Int, valV kvs (.inr nm) = some (.int cnt) ∧ cnt = (if nm = "worth" then (W : Int) else (N : Int)) := by
            rcases parts_two hp (List.mem_of_getElem? hpi) with rfl | rfl
            · exact ⟨_, hW, by rw [if_pos rfl]⟩
            · exact ⟨_, hN, by rw [if_neg (by decide +kernel)]⟩
          obtain ⟨cnt, hv1, hv2⟩ := hkey
          rw [← hv2] at eA
          refine iteT ⟨_, rfl, _, rfl, cc, _, rfl, dget (k := .inr nm) hc4 hv1, _, _, rfl, rfl, _, rfl, ?_⟩
          by_cases m1 : m < cnt
          · rw [decide_eq_true m1]
            rw [if_pos ⟨m0, m1⟩] at eA
            exact iteF ⟨_, _, rfl, s3.trans s4, eA⟩
          · rw [decide_eq_false m1]
            rw [if_neg fun q => m1 q.2] at eA
            exact iteT ⟨_, rfl, _, rfl, toldBP ⟨small_nat hn6, nml⟩ ((ke _ eA).to S4)⟩
        · rw [decide_eq_false m0]
          rw [if_neg fun q => m0 q.1] at eA
          refine iteF ?_
          exact ⟨_, rfl, iteT ⟨_, rfl, _, rfl, toldBP ⟨small_nat hn6, nml⟩ ((ke _ eA).to S4)⟩⟩
      · rintro σ H3 ⟨x3, x4, rfl, s3, eA⟩
        refine k ?_ _ (S2.trans s3)
        rw [eA, List.drop_eq_nil_of_le (by rw [List.length_map]; exact Nat.le_refl _)]
        rfl
theorem ok_checkProgramD (BP : IBP K mg CB) (GBP : FnOk P w K mg base CX0 1 BP.f BP.fd ["self", "row", "why"] (spBP CB)) (c : FCheckProgram K mg) (cCheckRow : FCheckRow K mg) (cCheckWorths : FCheckWorths K mg) (cHasShape : FHasShape K mg) (cPart : FPart K mg) (cIsBetween : FIsBetween K mg) (cIsNumber : FIsNumber K mg) (T : Bt mg) (C : Cn mg) (Z : Pt K w mg) (O : PtO K Z) : FnOk P w K mg base (L2.CX P w) 4 c.f c.fd ["program"] (spCheckProgramD CB) := by
  have GCheckRow : FnOk P w K mg base (L2.CX P w) 3 cCheckRow.f cCheckRow.fd ["row", "number", "counts"] (spCheckRowD CB) := ok_checkRowD BP GBP cCheckRow cHasShape cPart cIsNumber T Z O
  have GCheckWorths : FnOk P w K mg base (L2.CX P w) 3 cCheckWorths.f cCheckWorths.fd ["worths"] (spCheckWorthsD CB) := ok_checkWorthsD BP GBP cCheckWorths cIsBetween cIsNumber T C
  have GPart : FnOk P w K mg base CX0 1 cPart.f cPart.fd ["whole", "at"] spPartD := ok_partD cPart T
  refine c.F.okX scCheckProgram (fun vs H Q E h => ?_) (fun cdv A outer s H vs Q E hr h => ?_)
  · obtain ⟨v, d, rfl, _⟩ := h
    rfl
  · obtain ⟨v, d, rfl, hv, hfit, ke, k⟩ := h
    refine ⟨_, (pss_cons (ps_expr (pe_call GCheckWorths (hr.mono (by first | omega | decide)) (by rfl) cCheckWorths.m cCheckWorths.F.kp cCheckWorths.b .nil (L2.passes_call (takes_of rfl rfl rfl rfl) (fun _ _ _ _ h => h)) (pa_cons (pe_call GPart (hr.mono (by first | omega | decide)) (by rfl) cPart.m cPart.F.kp cPart.b .nil pass0 (pa_cons (pv 0) (pa_cons pe_int pa_nil))) pa_nil)))
      (pss_cons (ps_set (i := 1) scCheckProgram.nd rfl (Or.inl rfl) (pe_call GPart (hr.mono (by first | omega | decide)) (by rfl) cPart.m cPart.F.kp cPart.b .nil pass0 (pa_cons (pv 0) (pa_cons pe_int pa_nil))))
      (pss_cons (ps_if (PW.pt (pw_or (pt_not (pt_val (pe_callB call_isi (by rfl) T.isinstance (by decide +kernel) (pa_cons (pv 1) (pa_cons (pe_bltn (v := .ty "tuple") (by rfl) T.tuple (by decide +kernel) rfl) pa_nil))))) (pw_or (pt_cmpR op_ne (pe_callB call_len_seq (by rfl) T.len PySem.boot_len (pa_cons (pv 0) pa_nil)) pe_int (nomark _)) (pw_or1 (pt_not (pt_chain op_le op_le pe_int (pe_callB call_len_seq (by rfl) T.len PySem.boot_len (pa_cons (pv 1) pa_nil)) (pe_glob rfl C.mR relI)))))))
          (pss_one (ps_raise rfl (takes_of rfl rfl rfl rfl) (L2.pmk_oex BP.T BP.iC BP.tI GBP (hr.mono (by first | omega | decide)) BP.b .nil pass0 (by rfl) BP.m (pa_cons (pe_un un_neg pe_int) (pa_cons pe_str pa_nil)))))
          pss_nil)
      (pss_one (ps_for (L2.passes_of rfl) rfl (pi_enumT (by rfl) T.enumerate (pa_cons (pv 1) pa_nil)) (pg_tup rfl (pgs_cons (pg_name (i := 2) scCheckProgram.nd rfl (Or.inl rfl)) (pgs_cons (pg_name (i := 3) scCheckProgram.nd rfl (Or.inl rfl)) pgs_nil)))
          (pss_one (ps_expr (pe_call GCheckRow (hr.mono (by first | omega | decide)) (by rfl) cCheckRow.m cCheckRow.F.kp cCheckRow.b .nil (L2.passes_call (takes_of rfl rfl rfl rfl) (fun _ _ _ _ h => h)) (pa_cons (pv 3) (pa_cons (pv 2) (pa_cons (pe_disp (pps_cons pe_str (pe_callB call_len_seq (by rfl) T.len PySem.boot_len (pa_cons (pe_ix ix_tup (pv 0) pe_int (fun _ _ => rfl)) pa_nil)) (pps_cons pe_str (pe_callB call_len_seq (by rfl) T.len PySem.boot_len (pa_cons (pv 1) pa_nil)) pps_nil)) (by rfl) (by rfl) (fun z => by cases z) (by decide)) pa_nil))))))))))), ?_⟩
    refine ⟨_, rfl, v, d, 0, rfl, hv, fun u0 hu0 => ?_⟩
    have ewp : ∀ y, worthsF (partD d 0) = some y → progF d = some (-1, y) := fun y hy => by
      unfold progF
      rw [hy]
    refine ⟨u0, partD d 0, rfl, hu0, part_fit hfit 0, fun y hy => ke _ _ (ewp y hy), fun hw => ?_⟩
    refine ⟨_, rfl, v, d, 1, rfl, hv, fun u1 hu1 => ?_⟩
    obtain ⟨wd, hwd⟩ : ∃ wd, partD d 0 = .tup wd := by
      cases hp : partD d 0 with
      | tup wd => exact ⟨wd, rfl⟩
      | _ => rw [hp] at hw; cases hw
    obtain ⟨ds, rfl⟩ : ∃ ds, d = .tup ds := by
      cases d with
      | tup ds => exact ⟨ds, rfl⟩
      | _ => cases hwd
    obtain ⟨a, vs, rfl, ha, hds⟩ : ∃ a vs, v = .ref a ∧ H a = some (.tup vs) ∧ Ats H vs ds := by simpa [At] using hv
    have hvl := hds.len
    have d0 : ds[0]? = some (.tup wd) := by
      have e : ds.getD 0 .non = .tup wd := hwd
      rw [List.getD_eq_getElem?_getD] at e
      cases q : ds[0]? with
      | none => rw [q] at e; cases e
      | some z => rw [q] at e; exact congrArg some e
    obtain ⟨v0, z0, q0, q1, q2⟩ := hds.get 0 (List.getElem?_eq_some_iff.mp d0).1
    obtain rfl : z0 = .tup wd := Option.some.inj (q1.symm.trans d0)
    obtain ⟨wa, wvs, rfl, hwa, hws⟩ : ∃ a vs, v0 = .ref a ∧ H a = some (.tup vs) ∧ Ats H vs wd := by simpa [At] using q2
    have hwl := hws.len
    have rows_ : ∀ {rs : List D}, partD (.tup ds) 1 = .tup rs → progF (.tup ds) = if ds.length = 2 ∧ 1 ≤ rs.length ∧ rs.length ≤ 40 then (rowsF wd.length rs.length 0 rs).map fun q => ((q.1 : Int), q.2) else some ((-1 : Int), ("rows" : Str)) := fun {rs} e => by
      unfold progF
      rw [hw]
      dsimp only
      rw [e, hwd]
      rfl
    have nrows : (∀ rs, partD (.tup ds) 1 ≠ .tup rs) → progF (.tup ds) = some ((-1 : Int), ("rows" : Str)) := fun n => by
      unfold progF
      rw [hw]
      dsimp only
      cases e : partD (.tup ds) 1 with
      | tup rs => exact absurd e (n rs)
      | _ => rfl
    cases e1 : partD (.tup ds) 1 with
    | tup rs =>
      rw [e1] at hu1
      have er := rows_ e1
      obtain ⟨ra, rvs, rfl, hra, hrs⟩ : ∃ a vs, u1 = .ref a ∧ H a = some (.tup vs) ∧ Ats H vs rs := by simpa [At] using hu1
      have hrl := hrs.len
      have rfit : (D.tup rs).fit := e1 ▸ part_fit hfit 1
      have rbig := (D.fit_of (.inr rfl) rfit).1
      refine ⟨_, rfl, _, _, _, _, true, rfl, .ty _, .base (.tup hra), kit_ty (by decide +kernel), _, rfl, ?_⟩
      refine ⟨_, rfl, a, _, rfl, .inr (SqT.of ha), rfl, _, rfl, ?_⟩
      by_cases h2 : ds.length = 2
      · rw [decide_eq_true (show V.int ((vs.length : Nat) : Int) = V.int 2 by rw [hvl, h2]; rfl)]
        refine iteF ⟨_, rfl, ra, _, rfl, .inr (SqT.of hra), _, _, rfl, rfl, _, rfl, ?_⟩
        by_cases h1 : 1 ≤ rs.length
        · rw [hrl, decide_eq_true (show (1 : Int) ≤ (rs.length : Int) by omega)]
          refine iteT ⟨_, _, rfl, rfl, _, rfl, ?_⟩
          by_cases h40 : rs.length ≤ 40
          · rw [decide_eq_true (show (rs.length : Int) ≤ 40 by omega)]
            rw [if_pos ⟨h2, h1, h40⟩] at er
            refine iteF ?_
            refine ⟨_, rfl, ra, _, rfl, SqT.of hra, for_enumT (K := K) (a := ra) (xs := rvs) (fun i σ H' => ∃ x2 x3 : Option V, σ = [some (.ref a), some (.ref ra), x2, x3] ∧ Same1 H H' ∧ rowsF wd.length rs.length 0 rs = rowsF wd.length rs.length i (rs.drop i)) ⟨none, none, rfl, Same.refl _, rfl⟩
              (fun i σ H' ⟨_, _, _, q, _⟩ => SqT.of (q _ _ hra)) ?_ ?_⟩
            · rintro i x T' σ H1 hi ⟨x2, x3, rfl, s1, eR⟩ hT'
              have hil := (List.getElem?_eq_some_iff.mp hi).1
              obtain ⟨u, z, g1, g2, g3⟩ := hrs.get i (by omega)
              rw [hi] at g1
              have e := Option.some.inj g1
              subst e
              have hdr : rs.drop i = z :: rs.drop (i + 1) := by
                obtain ⟨hi, e⟩ := List.getElem?_eq_some_iff.mp g2
                rw [← e]
                exact List.drop_eq_getElem_cons hi
              rw [hdr] at eR
              refine alloc hT' fun H2 s2 e2 => ?_
              have S2 := s1.trans s2
              refine ⟨T', _, rfl, SqT.of e2, rfl, _, _, rfl, _, _, rfl, rfl, ?_⟩
              refine ⟨_, rfl, _, rfl, fun c1 hc1 => ?_⟩
              refine alloc hc1 fun H3 s3 e3 => ?_
              have S3 := S2.trans s3
              refine ⟨_, rfl, a, _, _, _, rfl, rfl, SqT.of (S3 _ _ ha), atI_nat (j := 0) q0, wa, _, rfl, .inr (SqT.of (S3 _ _ hwa)), _, rfl, ra, _, rfl, .inr (SqT.of (S3 _ _ hra)), e3,
                [(kWo, .int ((wvs.length : Nat) : Int)), (kNx, .int ((rvs.length : Nat) : Int))], rfl, (by show 2 ≤ 15; decide), ?_⟩
              have em : mergeK [] [(kWo, .int ((wvs.length : Nat) : Int)), (kNx, .int ((rvs.length : Nat) : Int))] = putK (putK [] kWo (.int (wd.length : Int))) kNx (.int (rs.length : Int)) := by
                rw [hwl, hrl]
                rfl
              rw [em]
              have S4 : Same1 H (upd H3 c1 (.dK (putK (putK [] kWo (.int (wd.length : Int))) kNx (.int (rs.length : Int))))) := Same.mut S3 (S2.free hc1)
              refine ⟨x, z, c1, i, wd.length, rs.length, putK (putK [] kWo (.int (wd.length : Int))) kNx (.int (rs.length : Int)), rfl, At.sm0 S4 z x g3, fitL_iff.mp (D.fit_of (.inr rfl) rfit).2 _ (List.mem_of_getElem? g2), by omega, upd_same, ?_, ?_, fun y hy => ?_, fun hn H5 s5 => ⟨_, _, rfl, S4.trans s5, ?_⟩⟩
              · rw [valV_put, if_neg k_WN, valV_put, if_pos rfl]
              · rw [valV_put, if_pos rfl]
              · refine (ke _ _ ?_).to S4
                rw [er, eR]
                show (match rowF wd.length rs.length z with | some y => some (i, y) | none => _).map _ = _
                rw [hy]
                rfl
              · rw [eR]
                show (match rowF wd.length rs.length z with | some y => some (i, y) | none => _) = _
                rw [hn]
            · rintro σ H1 ⟨x2, x3, rfl, s1, eR⟩
              refine k ?_ _ s1
              rw [er, eR, List.drop_eq_nil_of_le (by omega)]
              rfl
          · rw [decide_eq_false (show ¬ (rs.length : Int) ≤ 40 by omega)]
            rw [if_neg fun q => h40 q.2.2] at er
            exact iteT ⟨_, rfl, toldBP ⟨small_m1, by decide +kernel⟩ (ke _ _ er)⟩
        · rw [hrl, decide_eq_false (show ¬ (1 : Int) ≤ (rs.length : Int) by omega)]
          rw [if_neg fun q => h1 q.2.1] at er
          refine iteF ?_
          exact ⟨_, rfl, iteT ⟨_, rfl, toldBP ⟨small_m1, by decide +kernel⟩ (ke _ _ er)⟩⟩
      · rw [decide_eq_false (show ¬ V.int ((vs.length : Nat) : Int) = V.int 2 from fun z => by injection z with z; omega)]
        rw [if_neg fun q => h2 q.1] at er
        exact iteT ⟨_, rfl, toldBP ⟨small_m1, by decide +kernel⟩ (ke _ _ er)⟩
    | non =>
      rw [e1] at hu1
      exact ⟨_, rfl, _, _, _, _, false, rfl, .ty _, hu1.ty, kit_ty (by dsimp only [DL.D.ty]; decide +kernel), _, rfl, iteT ⟨_, rfl, toldBP ⟨small_m1, by decide +kernel⟩ (ke _ _ (nrows fun rs e => by rw [e1] at e; cases e))⟩⟩
    | bl b =>
      rw [e1] at hu1
      exact ⟨_, rfl, _, _, _, _, false, rfl, .ty _, hu1.ty, kit_ty (by dsimp only [DL.D.ty]; decide +kernel), _, rfl, iteT ⟨_, rfl, toldBP ⟨small_m1, by decide +kernel⟩ (ke _ _ (nrows fun rs e => by rw [e1] at e; cases e))⟩⟩
    | int i =>
      rw [e1] at hu1
      exact ⟨_, rfl, _, _, _, _, false, rfl, .ty _, hu1.ty, kit_ty (by dsimp only [DL.D.ty]; decide +kernel), _, rfl, iteT ⟨_, rfl, toldBP ⟨small_m1, by decide +kernel⟩ (ke _ _ (nrows fun rs e => by rw [e1] at e; cases e))⟩⟩
    | str x =>
      rw [e1] at hu1
      exact ⟨_, rfl, _, _, _, _, false, rfl, .ty _, hu1.ty, kit_ty (by dsimp only [DL.D.ty]; decide +kernel), _, rfl, iteT ⟨_, rfl, toldBP ⟨small_m1, by decide +kernel⟩ (ke _ _ (nrows fun rs e => by rw [e1] at e; cases e))⟩⟩
    | lst l =>
      rw [e1] at hu1
      exact ⟨_, rfl, _, _, _, _, false, rfl, .ty _, hu1.ty, kit_ty (by dsimp only [DL.D.ty]; decide +kernel), _, rfl, iteT ⟨_, rfl, toldBP ⟨small_m1, by decide +kernel⟩ (ke _ _ (nrows fun rs e => by rw [e1] at e; cases e))⟩⟩
end
end DL
namespace DL
open PySem PySem.Spec PyProof.Rows L2 DLR LamX
/-! ### _law_told of refusals that have fields -/
structure KnF (K : Frg) {mg : Str → Option Value} (E : Er mg) (D : Addr) (j : Nat) : Prop where
  ex : ExcC K D
  one : PySem.W.exmOne K (.ref D) (.ref E.DE) = some true
  ve : PySem.W.kitOne K (.ref D) (.type "ValueError") = some true
  k0 : PySem.W.kitOne K (.ref D) (.ref E.BP) = some (decide (0 = j))
  k1 : PySem.W.kitOne K (.ref D) (.ref E.BL) = some (decide (1 = j))
  k2 : PySem.W.kitOne K (.ref D) (.ref E.BF) = some (decide (2 = j))
  k3 : PySem.W.kitOne K (.ref D) (.ref E.BG) = some (decide (3 = j))
  k4 : PySem.W.kitOne K (.ref D) (.ref E.BE) = some (decide (4 = j))
  k5 : PySem.W.kitOne K (.ref D) (.ref E.TM) = some (decide (5 = j))
  k6 : PySem.W.kitOne K (.ref D) (.ref E.OV) = some (decide (6 = j))
  k7 : PySem.W.kitOne K (.ref D) (.ref E.BT) = some (decide (7 = j))
  j : j = 0 ∨ j = 1 ∨ j = 4 ∨ j = 7
  xf : XfC K D
  nrow : PySem.W.findIn K (.ref D) "row" = some none
  nwhy : PySem.W.findIn K (.ref D) "why" = some none
  nat : PySem.W.findIn K (.ref D) "at" = some none
  nline : PySem.W.findIn K (.ref D) "line" = some none
def FieldsJ (j : Nat) (fs : List (Str × V)) (vs : List V) : Prop :=
  (j = 0 ∧ ∃ x y, fs.lookup ("row" : Str) = some x ∧ fs.lookup ("why" : Str) = some y ∧ vs = [x, y]) ∨ (j = 1 ∧ ∃ x y, fs.lookup ("why" : Str) = some x ∧ fs.lookup ("at" : Str) = some y ∧ vs = [x, y]) ∨
  (j = 4 ∧ ∃ x, fs.lookup ("at" : Str) = some x ∧ vs = [x]) ∨ (j = 7 ∧ ∃ x, fs.lookup ("line" : Str) = some x ∧ vs = [x])
theorem low_of {l : List V} {j : Nat} (h : ∀ i, i < j → ∃ z, l[i]? = some z ∧ eqV z (.bl true) = false) : ∀ (m : Nat) (z' : V), m < j → l[m]? = some z' → eqV z' (.bl true) = false := by
  intro m z' hm e
  obtain ⟨z, h1, h2⟩ := h m hm
  rw [h1] at e
  rw [← Option.some.inj e]
  exact h2
theorem at_kindsF {j : Nat} (h : j = 0 ∨ j = 1 ∨ j = 4 ∨ j = 7) : ([decide (0 = j), decide (1 = j), decide (2 = j), decide (3 = j)] ++ [decide (4 = j), decide (5 = j), decide (6 = j), decide (7 = j)]).count true = 1 ∧
    atI [V.str "program", V.str "laying", V.str "fuel", V.str "goes", V.str "paper", V.str "many", V.str "over", V.str "text"] (j : Int) = some (.str (wordJ j)) ∧
    ((([decide (0 = j), decide (1 = j), decide (2 = j), decide (3 = j)] ++ [decide (4 = j), decide (5 = j), decide (6 = j), decide (7 = j)] : List Bool).map V.bl)[j]? = some (.bl true)) ∧
    (∀ (m : Nat) (z' : V), m < j → (([decide (0 = j), decide (1 = j), decide (2 = j), decide (3 = j)] ++ [decide (4 = j), decide (5 = j), decide (6 = j), decide (7 = j)] : List Bool).map V.bl)[m]? = some z' → eqV z' (.bl true) = false) ∧
    decide (V.str (wordJ j) = V.str "program") = decide (j = 0) ∧ decide (V.str (wordJ j) = V.str "laying") = decide (j = 1) ∧ decide (V.str (wordJ j) = V.str "paper") = decide (j = 4) ∧ decide (V.str (wordJ j) = V.str "text") = decide (j = 7) := by
  rcases h with rfl | rfl | rfl | rfl
  · exact ⟨by decide +kernel, rfl, rfl, low_of fun i hi => absurd hi (Nat.not_lt_zero i), by decide +kernel, by decide +kernel, by decide +kernel, by decide +kernel⟩
  · refine ⟨by decide +kernel, rfl, rfl, low_of fun i hi => ?_, by decide +kernel, by decide +kernel, by decide +kernel, by decide +kernel⟩
    match i, hi with
    | 0, _ => exact ⟨_, rfl, rfl⟩
  · refine ⟨by decide +kernel, rfl, rfl, low_of fun i hi => ?_, by decide +kernel, by decide +kernel, by decide +kernel, by decide +kernel⟩
    match i, hi with
    | 0, _ => exact ⟨_, rfl, rfl⟩
    | 1, _ => exact ⟨_, rfl, rfl⟩
    | 2, _ => exact ⟨_, rfl, rfl⟩
    | 3, _ => exact ⟨_, rfl, rfl⟩
  · refine ⟨by decide +kernel, rfl, rfl, low_of fun i hi => ?_, by decide +kernel, by decide +kernel, by decide +kernel, by decide +kernel⟩
    match i, hi with
    | 0, _ => exact ⟨_, rfl, rfl⟩
    | 1, _ => exact ⟨_, rfl, rfl⟩
    | 2, _ => exact ⟨_, rfl, rfl⟩
    | 3, _ => exact ⟨_, rfl, rfl⟩
    | 4, _ => exact ⟨_, rfl, rfl⟩
    | 5, _ => exact ⟨_, rfl, rfl⟩
    | 6, _ => exact ⟨_, rfl, rfl⟩
section
variable {X : Cx}
theorem told_suiteF (E : Er X.mg) (T : Bt X.mg) {g : Addr} {cdg : Value} {s : Shared} {H0 : Hp} {CX : CXT} {E0 : XK} {j : Nat} {D a dd : Addr} {oe : Obj} {pn : List (Addr × Obj)} (kn : KnF X.K E D j) (hz : Zc (.ref D) (some dd) oe) (hf : ∃ vs, oe.data = .fields vs) :
    ∃ t, PSs ((cxOf CX X.prog X.w X.K X.mg X.base nTold "_law_told" (defScope sTold) g cdg X.A X.stack s H0 E0).nox.suite a ((a, oe) :: pn)) toldSuite t ∧
      ∀ (D : Ends) (σ : L2.St) (H : Hp) (fs : List (Str × V)) (vs : List V), σ.length = 4 → σ[1]? = some (some (.ref a)) → H dd = some (.xd fs) → FieldsJ j fs vs → (∀ t' H', Same1 H H' → H' t' = some (.tup (.str (wordJ j) :: vs)) → D.rt (.ref t') H') → t D σ H := by
  refine ⟨_, (pss_cons (ps_set (i := 2) scTold.nd rfl (Or.inl rfl) (pe_lst (pa_cons (pe_callB (DLR.call_isD kn.ex hz hf) (by rfl) T.isinstance (by decide +kernel) (pa_cons (pv 1) (pa_cons (pe_glob (v := .ref E.BP) rfl E.mBP rfl) pa_nil))) (pa_cons (pe_callB (DLR.call_isD kn.ex hz hf) (by rfl) T.isinstance (by decide +kernel) (pa_cons (pv 1) (pa_cons (pe_glob (v := .ref E.BL) rfl E.mBL rfl) pa_nil))) (pa_cons (pe_callB (DLR.call_isD kn.ex hz hf) (by rfl) T.isinstance (by decide +kernel) (pa_cons (pv 1) (pa_cons (pe_glob (v := .ref E.BF) rfl E.mBF rfl) pa_nil))) (pa_cons (pe_callB (DLR.call_isD kn.ex hz hf) (by rfl) T.isinstance (by decide +kernel) (pa_cons (pv 1) (pa_cons (pe_glob (v := .ref E.BG) rfl E.mBG rfl) pa_nil))) pa_nil))))))
      (pss_cons (ps_set (i := 2) scTold.nd rfl (Or.inl rfl) (pe_op op_cat (pv 2) (pe_lst (pa_cons (pe_callB (DLR.call_isD kn.ex hz hf) (by rfl) T.isinstance (by decide +kernel) (pa_cons (pv 1) (pa_cons (pe_glob (v := .ref E.BE) rfl E.mBE rfl) pa_nil))) (pa_cons (pe_callB (DLR.call_isD kn.ex hz hf) (by rfl) T.isinstance (by decide +kernel) (pa_cons (pv 1) (pa_cons (pe_glob (v := .ref E.TM) rfl E.mTM rfl) pa_nil))) (pa_cons (pe_callB (DLR.call_isD kn.ex hz hf) (by rfl) T.isinstance (by decide +kernel) (pa_cons (pv 1) (pa_cons (pe_glob (v := .ref E.OV) rfl E.mOV rfl) pa_nil))) (pa_cons (pe_callB (DLR.call_isD kn.ex hz hf) (by rfl) T.isinstance (by decide +kernel) (pa_cons (pv 1) (pa_cons (pe_glob (v := .ref E.BT) rfl E.mBT rfl) pa_nil))) pa_nil)))))))
      (pss_cons (ps_if (PW.pt (pw_or (pt_cmpR op_ne (pe_bm PySem.F.plainAttrs_list PySem.F.slot_list_count PySem.F.type_list_count mt_countB (pv 2) (pa_cons pe_bl pa_nil)) pe_int (nomark _)) (pw_or1 (pt_not (pt_val (pe_callB (DLR.call_isD kn.ex hz hf) (by rfl) T.isinstance (by decide +kernel) (pa_cons (pv 1) (pa_cons (pe_bltn (v := .ty "ValueError") (by rfl) E.VE (by decide +kernel) rfl) pa_nil))))))))
          (pss_one ps_never)
          pss_nil)
      (pss_cons (ps_set (i := 3) scTold.nd rfl (Or.inl rfl) (pe_ix ix_list (pe_lst (pa_cons pe_str (pa_cons pe_str (pa_cons pe_str (pa_cons pe_str (pa_cons pe_str (pa_cons pe_str (pa_cons pe_str (pa_cons pe_str pa_nil))))))))) (pe_bm PySem.F.plainAttrs_list PySem.F.slot_list_index PySem.F.type_list_index mt_index (pv 2) (pa_cons pe_bl pa_nil)) (fun _ _ => rfl)))
      (pss_cons (ps_if (pt_cmpR op_eq (pv 3) pe_str (nomark _))
          (pss_one (ps_ret (pe_tup (pa_cons (pv 3) (pa_cons (L2.pe_xf kn.xf kn.nrow hz hf (pv 1)) (pa_cons (L2.pe_xf kn.xf kn.nwhy hz hf (pv 1)) pa_nil))))))
          pss_nil)
      (pss_cons (ps_if (pt_cmpR op_eq (pv 3) pe_str (nomark _))
          (pss_one (ps_ret (pe_tup (pa_cons (pv 3) (pa_cons (L2.pe_xf kn.xf kn.nwhy hz hf (pv 1)) (pa_cons (L2.pe_xf kn.xf kn.nat hz hf (pv 1)) pa_nil))))))
          pss_nil)
      (pss_cons (ps_if (pt_cmpR op_eq (pv 3) pe_str (nomark _))
          (pss_one (ps_ret (pe_tup (pa_cons (pv 3) (pa_cons (L2.pe_xf kn.xf kn.nat hz hf (pv 1)) pa_nil)))))
          pss_nil)
      (pss_one (ps_ret (pe_ifExp (pt_cmpR op_eq (pv 3) pe_str (nomark _)) (pe_tup (pa_cons (pv 3) (pa_cons (L2.pe_xf kn.xf kn.nline hz hf (pv 1)) pa_nil))) (pe_tup (pa_cons (pv 3) pa_nil)))))))))))), ?_⟩
  intro D' σ H fs vs hl h1 hdd hfs hq
  obtain ⟨x0, x1, x2, x3, rfl⟩ : ∃ x0 x1 x2 x3, σ = [x0, x1, x2, x3] := by
    match σ, hl with
    | [x0, x1, x2, x3], _ => exact ⟨x0, x1, x2, x3, rfl⟩
  have h1 : x1 = some (.ref a) := Option.some.inj h1
  subst h1
  obtain ⟨q1, q2, q3, q4, q5, q6, q7, q8⟩ := at_kindsF kn.j
  refine ⟨_, rfl, fs, .ref E.BP, .ref E.BP, _, hdd, rfl, relRef, kn.k0, _, rfl, fs, .ref E.BL, .ref E.BL, _, hdd, rfl, relRef, kn.k1, _, rfl, fs, .ref E.BF, .ref E.BF, _, hdd, rfl, relRef, kn.k2, _, rfl, fs, .ref E.BG, .ref E.BG, _, hdd, rfl, relRef, kn.k3, (by show 4 ≤ sizeLine; decide), fun l1 hl1 => ?_⟩
  refine alloc hl1 fun H1 s1 e1 => ?_
  have d1 := s1 _ _ hdd
  refine ⟨_, rfl, _, rfl, fs, .ref E.BE, .ref E.BE, _, d1, rfl, relRef, kn.k4, _, rfl, fs, .ref E.TM, .ref E.TM, _, d1, rfl, relRef, kn.k5, _, rfl, fs, .ref E.OV, .ref E.OV, _, d1, rfl, relRef, kn.k6, _, rfl, fs, .ref E.BT, .ref E.BT, _, d1, rfl, relRef, kn.k7, (by show 4 ≤ sizeLine; decide), fun l2 hl2 => ?_⟩
  refine alloc hl2 fun H2 s2 e2 => ?_
  refine ⟨l1, l2, _, _, rfl, rfl, s2 _ _ e1, e2, (by show 8 ≤ sizeLine; decide), fun l3 hl3 => ?_⟩
  refine alloc hl3 fun H3 s3 e3 => ?_
  have d3 := s3 _ _ (s2 _ _ d1)
  have e3 : H3 l3 = some (.lst (([decide (0 = j), decide (1 = j), decide (2 = j), decide (3 = j)] ++ [decide (4 = j), decide (5 = j), decide (6 = j), decide (7 = j)] : List Bool).map V.bl)) := e3
  generalize hk : ([decide (0 = j), decide (1 = j), decide (2 = j), decide (3 = j)] ++ [decide (4 = j), decide (5 = j), decide (6 = j), decide (7 = j)] : List Bool) = ks at q1 q3 q4 e3
  refine ⟨_, rfl, .inl ⟨rfl, _, SqL.of e3⟩, l3, ks, true, rfl, rfl, SqL.of e3, ?_⟩
  rw [q1]
  refine ⟨rfl, _, rfl, ?_⟩
  rw [show (!decide (V.int ((1 : Nat) : Int) = V.int 1)) = false by decide +kernel]
  refine iteF ⟨_, rfl, fs, .ty "ValueError", .type "ValueError", true, d3, rfl, relTy, kn.ve, _, rfl, ?_⟩
  refine iteF ?_
  refine ⟨(by show 8 ≤ sizeLine; decide), fun l4 hl4 => ?_⟩
  refine alloc hl4 fun H4 s4 e4 => ?_
  have d4 := s4 _ _ d3
  have S4 := ((s1.trans s2).trans s3).trans s4
  refine ⟨_, rfl, .inl ⟨rfl, _, SqL.of (s4 _ _ e3)⟩, l3, _, _, j, _, rfl, rfl, SqL.of (s4 _ _ e3), rfl, flat_bl ks, q3, rfl, q4, ?_⟩
  refine ⟨l4, _, _, _, rfl, rfl, SqL.of e4, q2, ?_⟩
  refine ⟨_, rfl, rfl, _, rfl, ?_⟩
  rw [q5]
  rcases hfs with ⟨rfl, x, y, f1, f2, rfl⟩ | ⟨rfl, x, y, f1, f2, rfl⟩ | ⟨rfl, x, f1, rfl⟩ | ⟨rfl, x, f1, rfl⟩
  · refine iteT ⟨_, rfl, _, rfl, rfl, rfl, dd, fs, x, rfl, d4, f1, _, rfl, rfl, rfl, dd, fs, y, rfl, d4, f2, (by show 3 ≤ sizeLine; decide), fun t ht => ?_⟩
    refine alloc ht fun H5 s5 e5 => ?_
    exact hq t H5 (S4.trans s5) e5
  · refine iteF ⟨_, rfl, rfl, _, rfl, ?_⟩
    rw [q6]
    refine iteT ⟨_, rfl, _, rfl, rfl, rfl, dd, fs, x, rfl, d4, f1, _, rfl, rfl, rfl, dd, fs, y, rfl, d4, f2, (by show 3 ≤ sizeLine; decide), fun t ht => ?_⟩
    refine alloc ht fun H5 s5 e5 => ?_
    exact hq t H5 (S4.trans s5) e5
  · refine iteF ⟨_, rfl, rfl, _, rfl, ?_⟩
    rw [q6]
    refine iteF ⟨_, rfl, rfl, _, rfl, ?_⟩
    rw [q7]
    refine iteT ⟨_, rfl, _, rfl, rfl, rfl, dd, fs, x, rfl, d4, f1, (by show 2 ≤ sizeLine; decide), fun t ht => ?_⟩
    refine alloc ht fun H5 s5 e5 => ?_
    exact hq t H5 (S4.trans s5) e5
  · refine iteF ⟨_, rfl, rfl, _, rfl, ?_⟩
    rw [q6]
    refine iteF ⟨_, rfl, rfl, _, rfl, ?_⟩
    rw [q7]
    refine iteF ⟨_, rfl, rfl, _, rfl, ?_⟩
    rw [q8]
    refine iteT ⟨_, rfl, _, rfl, rfl, rfl, dd, fs, x, rfl, d4, f1, (by show 2 ≤ sizeLine; decide), fun t ht => ?_⟩
    refine alloc ht fun H5 s5 e5 => ?_
    exact hq t H5 (S4.trans s5) e5
def ToldX (K : Frg) {mg : Str → Option Value} (E : Er mg) (cls : Value) (d : Option Addr) (H : Hp) (R : V → Hp → Prop) : Prop :=
  (∃ (D : Addr) (j : Nat), Knd K E D j ∧ cls = .ref D ∧ d = none ∧ ∀ t H'', Same1 H H'' → H'' t = some (.tup [.str (wordJ j)]) → R (.ref t) H'') ∨
  (∃ (D dd : Addr) (j : Nat) (fs : List (Str × V)) (vs : List V), KnF K E D j ∧ cls = .ref D ∧ d = some dd ∧ H dd = some (.xd fs) ∧ FieldsJ j fs vs ∧ ∀ t H'', Same1 H H'' → H'' t = some (.tup (.str (wordJ j) :: vs)) → R (.ref t) H'')
def TTe (K : Frg) {mg : Str → Option Value} (E : Er mg) : (XK → Hp → VK → Prop) → Hp → VK → Prop := fun tl H Q => tl (fun cls d H' => ToldX K E cls d H' Q) H Q
def tsToldE (K : Frg) {mg : Str → Option Value} (E : Er mg) : Addr → Value → Option Addr → TS := fun a cls d D σ H => σ.length = 4 → σ[1]? = some (some (.ref a)) ∧ ToldX K E cls d H D.rt
theorem told_okE (E : Er X.mg) (T : Bt X.mg) {g : Addr} {cdg : Value} {q : Str} : GivesTo X nTold "_law_told" (defScope sTold) g cdg (defBody sTold) "_law_work" q (TTe X.K E) := by
  intro f c' s H Q tl act hc h
  refine ⟨_, pss_one (ps_try_as (X := (cxOf C8.CX0 X.prog X.w X.K X.mg X.base nTold "_law_told" (defScope sTold) g cdg X.A X.stack s H C8.E0).nox) (c := .ref E.DE) (i := 1)
      (tb := fun W D σ H => ∃ Ech : XK, (∀ cls d σ' H', Ech cls d H' → W cls d σ' H') ∧ σ[0]? = some (some (.ref f)) ∧ H c' = some (CodeO c' q) ∧ tl Ech H D.rt)
      (ts := tsToldE X.K E) rfl rfl scTold.nd rfl rfl ⟨by rfl, by decide, .inl E.mDE⟩ LamX.takes0 (fun W pn xe tk _ => ?_) (fun a oe cls d pn hz hf => ?_)), ?_⟩
  · refine ⟨fun pins s' σ H' D I h' => ?_⟩
    obtain ⟨Ech, hW, h1, h2, h3⟩ := h'
    exact (pss_one (ps_ret (act W pn xe Ech _ _ tk hW))).run pins s' σ H' D I ⟨h1, h2, h3⟩
  · refine ⟨fun pins s' σ H' D I h' => ?_⟩
    have hl : σ.length = 4 := I.len
    obtain ⟨h1, ⟨D0, j, kn, rfl, rfl, hq⟩ | ⟨D0, dd, j, fs, vs, kn, rfl, rfl, hdd, hfs, hq⟩⟩ := h' hl
    · obtain ⟨t, ht, hr⟩ := told_suite (X := X) (g := g) (cdg := cdg) (s := s) (H0 := H) (CX := C8.CX0) (E0 := C8.E0) (a := a) (pn := pn) E T kn hz hf
      exact ht.run pins s' σ H' D I (hr D σ H' hl h1 hq)
    · obtain ⟨t, ht, hr⟩ := told_suiteF (X := X) (g := g) (cdg := cdg) (s := s) (H0 := H) (CX := C8.CX0) (E0 := C8.E0) (a := a) (pn := pn) E T kn hz hf
      exact ht.run pins s' σ H' D I (hr D σ H' fs vs hl h1 hdd hfs hq)
  · refine ⟨fun cls d H' => ToldX X.K E cls d H' Q, ?_, rfl, hc, h⟩
    rintro cls d σ' H' hx
    have one : ∃ D0, cls = .ref D0 ∧ PySem.W.exmOne X.K (.ref D0) (.ref E.DE) = some true := by
      rcases hx with ⟨D0, j, kn, e, _⟩ | ⟨D0, dd, j, fs, vs, kn, e, _⟩
      · exact ⟨D0, e, kn.one⟩
      · exact ⟨D0, e, kn.one⟩
    obtain ⟨D0, rfl, ho⟩ := one
    refine ⟨true, ho, fun _ a ha => ?_, fun z => by cases z⟩
    intro hl
    rw [List.length_set] at hl
    refine ⟨?_, hx⟩
    rw [List.getElem?_set_self (by omega)]
end
end DL
namespace DL
open PySem L2 DLR
/-! ### data that is let by is a program -/
def argsD : Row → List D
  | .load w n => [.int (w : Nat), .int (n : Nat)]
  | .add w n => [.int (w : Nat), .int (n : Nat)]
  | .take w n => [.int (w : Nat), .int (n : Nat)]
  | .store w n => [.int (w : Nat), .int (n : Nat)]
  | .say n => [.int (n : Nat)]
  | .test a b => [.int (a : Nat), .int (b : Nat)]
  | .stop => []
def rowDD (r : Row) : D := .tup (.str r.word :: argsD r)
def progDD (p : Prog) : D := .tup [.tup (p.ws.map .int), .tup (p.rows.map rowDD)]
theorem partsOf_row (r : Row) : partsOf r.word = some r.parts := by cases r <;> (dsimp only [Row.word, Row.parts]; decide +kernel)
theorem args_in {n : Str} {ns : List Str} {d : D} {ds : List D} {W N : Nat} (hd : d.num = true) (h : argsF W N (n :: ns) (d :: ds) = none) : ∃ i : Nat, d = .int (i : Nat) ∧ (n = "worth" → i < W) ∧ (n ≠ "worth" → i < N) ∧ argsF W N ns ds = none := by
  cases d with
  | int i =>
    have h : (if 0 ≤ i ∧ i < (if n = "worth" then (W : Int) else (N : Int)) then argsF W N ns ds else some n) = none := h
    by_cases c : 0 ≤ i ∧ i < (if n = "worth" then (W : Int) else (N : Int))
    · rw [if_pos c] at h
      obtain ⟨c1, c2⟩ := c
      refine ⟨i.toNat, by rw [Int.toNat_of_nonneg c1], fun e => ?_, fun e => ?_, h⟩
      · rw [if_pos e] at c2
        omega
      · rw [if_neg e] at c2
        omega
    · rw [if_neg c] at h
      cases h
  | _ => cases hd
theorem row_of_none {W N : Nat} {d : D} (h : rowF W N d = none) : ∃ r : Row, d = rowDD r ∧ r.ok W N := by
  unfold rowF at h
  by_cases hs : shapeF d = true
  · rw [if_pos hs] at h
    obtain ⟨x, r, rfl⟩ : ∃ x r, d = .tup (.str x :: r) := by
      cases d with
      | tup ds =>
        cases ds with
        | nil => cases hs
        | cons y r =>
          cases y with
          | str x => exact ⟨x, r, rfl⟩
          | _ => cases hs
      | _ => cases hs
    have hs : (match partsOf x with | some ps => decide (r.length = ps.length) && r.all D.num | none => false) = true := hs
    cases hp : partsOf x with
    | none => rw [hp] at hs; cases hs
    | some ps =>
      rw [hp] at hs
      have hs : (decide (r.length = ps.length) && r.all D.num) = true := hs
      obtain ⟨q1, q2⟩ := Bool.and_eq_true_iff.mp hs
      have q1 := of_decide_eq_true q1
      have h : argsF W N ((partsOf x).getD []) r = none := h
      rw [hp] at h
      have h : argsF W N ps r = none := h
      have wn : ("next" : Str) ≠ "worth" := by decide +kernel
      obtain ⟨r0, rfl, rfl⟩ := parts_row hp
      have two : ∀ {n m : Str}, r0.parts = [n, m] → ∃ i j : Nat, r = [.int (i : Nat), .int (j : Nat)] ∧ (n = "worth" → i < W) ∧ (n ≠ "worth" → i < N) ∧ (m ≠ "worth" → j < N) := by
        intro n m e
        rw [e] at q1 h
        match r, q1, q2, h with
        | [d1, d2], _, q2, h =>
          have q2 : (d1.num && (d2.num && true)) = true := q2
          obtain ⟨n1, n2⟩ := Bool.and_eq_true_iff.mp q2
          obtain ⟨n2, _⟩ := Bool.and_eq_true_iff.mp n2
          obtain ⟨i, rfl, i1, i2, h⟩ := args_in n1 h
          obtain ⟨j, rfl, j1, j2, h⟩ := args_in n2 h
          exact ⟨i, j, rfl, i1, i2, j2⟩
      cases r0 with
      | load _ _ => obtain ⟨i, j, rfl, i1, _, j2⟩ := two rfl; exact ⟨.load i j, rfl, i1 rfl, j2 wn⟩
      | add _ _ => obtain ⟨i, j, rfl, i1, _, j2⟩ := two rfl; exact ⟨.add i j, rfl, i1 rfl, j2 wn⟩
      | take _ _ => obtain ⟨i, j, rfl, i1, _, j2⟩ := two rfl; exact ⟨.take i j, rfl, i1 rfl, j2 wn⟩
      | store _ _ => obtain ⟨i, j, rfl, i1, _, j2⟩ := two rfl; exact ⟨.store i j, rfl, i1 rfl, j2 wn⟩
      | test _ _ => obtain ⟨i, j, rfl, _, i2, j2⟩ := two rfl; exact ⟨.test i j, rfl, i2 wn, j2 wn⟩
      | say _ =>
        match r, q1, q2, h with
        | [d1], _, q2, h =>
          have q2 : (d1.num && true) = true := q2
          obtain ⟨n1, _⟩ := Bool.and_eq_true_iff.mp q2
          obtain ⟨i, rfl, _, i2, _⟩ := args_in n1 h
          exact ⟨.say i, rfl, i2 wn⟩
      | stop =>
        match r, q1 with
        | [], _ => exact ⟨.stop, rfl, trivial⟩
  · rw [if_neg hs] at h
    cases h
theorem rows_of_none {W N : Nat} : ∀ {rs : List D} {i : Nat}, rowsF W N i rs = none → ∃ rows : List Row, rs = rows.map rowDD ∧ ∀ r ∈ rows, r.ok W N
  | [], _, _ => ⟨[], rfl, fun _ h => by cases h⟩
  | d :: ds, i, h => by
    have h' : (match rowF W N d with | some y => some (i, y) | none => rowsF W N (i + 1) ds) = none := h
    cases hr : rowF W N d with
    | some y => rw [hr] at h'; cases h'
    | none =>
      rw [hr] at h'
      obtain ⟨rows, rfl, oks⟩ := rows_of_none (rs := ds) (i := i + 1) h'
      obtain ⟨r, rfl, ok⟩ := row_of_none hr
      exact ⟨r :: rows, rfl, fun x hx => by
        rcases List.mem_cons.mp hx with rfl | hx
        · exact ok
        · exact oks x hx⟩
theorem ints_of : ∀ {ds : List D}, ds.all (D.betw (-1000000) 1000000) = true → ∃ ws : List Int, ds = ws.map .int ∧ ∀ x ∈ ws, -1000000 ≤ x ∧ x ≤ 1000000
  | [], _ => ⟨[], rfl, fun _ h => by cases h⟩
  | d :: ds, h => by
    have h : (d.betw (-1000000) 1000000 && ds.all (D.betw (-1000000) 1000000)) = true := h
    obtain ⟨h1, h2⟩ := Bool.and_eq_true_iff.mp h
    obtain ⟨ws, rfl, hw⟩ := ints_of h2
    cases d with
    | int i =>
      have h1 : (decide (-1000000 ≤ i) && decide (i ≤ 1000000)) = true := h1
      obtain ⟨a, b⟩ := Bool.and_eq_true_iff.mp h1
      exact ⟨i :: ws, rfl, fun x hx => by
        rcases List.mem_cons.mp hx with rfl | hx
        · exact ⟨of_decide_eq_true a, of_decide_eq_true b⟩
        · exact hw x hx⟩
    | _ => cases h1
theorem prog_of_none {d : D} (h : progF d = none) : ∃ p : Prog, d = progDD p ∧ Good p := by
  unfold progF at h
  cases hw : worthsF (partD d 0) with
  | some y => rw [hw] at h; cases h
  | none =>
    rw [hw] at h
    dsimp only at h
    obtain ⟨wd, hwd⟩ : ∃ wd, partD d 0 = .tup wd := by
      cases hp : partD d 0 with
      | tup wd => exact ⟨wd, rfl⟩
      | _ => rw [hp] at hw; cases hw
    rw [hwd] at hw
    have hw : (if wd.length ≤ 8 then (if wd.all (D.betw (-1000000) 1000000) = true then none else some ("number" : Str)) else some "worths") = none := hw
    by_cases h8 : wd.length ≤ 8
    · rw [if_pos h8] at hw
      by_cases ha : wd.all (D.betw (-1000000) 1000000) = true
      · obtain ⟨ws, rfl, hws⟩ := ints_of ha
        cases e1 : partD d 1 with
        | tup rs =>
          rw [e1, hwd] at h
          dsimp only at h
          by_cases c : lenD d = 2 ∧ 1 ≤ rs.length ∧ rs.length ≤ 40
          · rw [if_pos c] at h
            obtain ⟨c1, c2, c3⟩ := c
            have h : rowsF (lenD (.tup (ws.map D.int))) rs.length 0 rs = none := by
              cases q : rowsF (lenD (.tup (ws.map D.int))) rs.length 0 rs with
              | none => rfl
              | some z => rw [q] at h; cases h
            have h : rowsF (ws.map D.int).length rs.length 0 rs = none := h
            rw [List.length_map] at h
            obtain ⟨rows, rfl, hr⟩ := rows_of_none h
            rw [List.length_map] at c2 c3 hr h8
            refine ⟨⟨ws, rows⟩, ?_, c2, c3, h8, hws, hr⟩
            cases d with
            | tup ds =>
              match ds, c1, hwd, e1 with
              | [a, b], _, hwd, e1 =>
                have ea : a = .tup (ws.map .int) := hwd
                have eb : b = .tup (rows.map rowDD) := e1
                rw [ea, eb]
                rfl
            | _ => cases hwd
          · rw [if_neg c] at h
            cases h
        | _ => rw [e1] at h; cases h
      · rw [if_neg ha] at hw
        cases hw
    · rw [if_neg h8] at hw
      cases hw
theorem ats_ints {H : Hp} : ∀ {ws : List Int} {vs : List V}, Ats H vs (ws.map D.int) → vs = ws.map V.int
  | [], [], _ => rfl
  | [], _ :: _, h => by simp [Ats] at h
  | _ :: _, [], h => by simp [Ats] at h
  | x :: ws, v :: vs, h => by
    have h : At H v (.int x) ∧ Ats H vs (ws.map D.int) := by simpa [Ats] using h
    have e : v = .int x := by simpa [At] using h.1
    rw [e, ats_ints h.2]
    rfl
theorem args_at {H : Hp} {r : Row} {vs : List V} (h : Ats H vs (.str r.word :: argsD r)) : vs = rowVs r := by
  cases vs with
  | nil => simp [Ats] at h
  | cons v vs =>
    have h : At H v (.str r.word) ∧ Ats H vs (argsD r) := by simpa [Ats] using h
    have e : v = .str r.word := by simpa [At] using h.1
    have ei : ∃ ws : List Int, argsD r = ws.map D.int ∧ rowVs r = .str r.word :: ws.map V.int := by
      cases r with
      | load a b => exact ⟨[(a : Int), (b : Int)], rfl, rfl⟩
      | add a b => exact ⟨[(a : Int), (b : Int)], rfl, rfl⟩
      | take a b => exact ⟨[(a : Int), (b : Int)], rfl, rfl⟩
      | store a b => exact ⟨[(a : Int), (b : Int)], rfl, rfl⟩
      | say b => exact ⟨[(b : Int)], rfl, rfl⟩
      | test a b => exact ⟨[(a : Int), (b : Int)], rfl, rfl⟩
      | stop => exact ⟨[], rfl, rfl⟩
    obtain ⟨ws, e1, e2⟩ := ei
    rw [e1] at h
    rw [e, ats_ints h.2, e2]
theorem rows_at {H : Hp} : ∀ {rows : List Row} {vs : List V}, Ats H vs (rows.map rowDD) → ∃ bs : List Addr, vs = bs.map V.ref ∧ RowsAt H bs rows
  | [], [], _ => ⟨[], rfl, .nil⟩
  | [], _ :: _, h => by simp [Ats] at h
  | _ :: _, [], h => by simp [Ats] at h
  | r :: rows, v :: vs, h => by
    have h : At H v (rowDD r) ∧ Ats H vs (rows.map rowDD) := by simpa [Ats] using h
    obtain ⟨b, us, rfl, hb, hu⟩ : ∃ a us, v = .ref a ∧ H a = some (.tup us) ∧ Ats H us (.str r.word :: argsD r) := by
      have z := h.1
      unfold rowDD at z
      simpa [At] using z
    obtain ⟨bs, rfl, hR⟩ := rows_at h.2
    rw [args_at hu] at hb
    exact ⟨b :: bs, rfl, .cons hb hR⟩
theorem prog_at {H : Hp} {v : V} {p : Prog} (h : At H v (progDD p)) : ∃ a, v = .ref a ∧ ProgAt H a p := by
  obtain ⟨a, vs, rfl, ha, hs⟩ : ∃ a vs, v = .ref a ∧ H a = some (.tup vs) ∧ Ats H vs [.tup (p.ws.map .int), .tup (p.rows.map rowDD)] := by
    unfold progDD at h
    simpa [At] using h
  match vs, hs with
  | [v0, v1], hs =>
    have hs : At H v0 (.tup (p.ws.map .int)) ∧ At H v1 (.tup (p.rows.map rowDD)) := by simpa [Ats] using hs
    obtain ⟨wa, us, rfl, hwa, hus⟩ : ∃ a us, v0 = .ref a ∧ H a = some (.tup us) ∧ Ats H us (p.ws.map .int) := by simpa [At] using hs.1
    obtain ⟨ra, rs, rfl, hra, hrs⟩ : ∃ a us, v1 = .ref a ∧ H a = some (.tup us) ∧ Ats H us (p.rows.map rowDD) := by simpa [At] using hs.2
    rw [ats_ints hus] at hwa
    obtain ⟨bs, rfl, hR⟩ := rows_at hrs
    exact ⟨a, rfl, wa, ra, bs, ha, hwa, hra, hR⟩
end DL
namespace DL
open PySem PySem.Spec L2 DLR
/-! ### what is no laying: by data of any shape -/
abbrev IBL (K : Frg) (mg : Str → Option Value) (C : Addr) := ErI K mg "BadLaying" "BadLaying.__init__" C sBLInit ["self", "why", "at"]
abbrev BadY (BL : Addr) (H : Hp) (E : XK) (y : Str) (r : Int) : Prop := ∀ d H', H d = none → Same1 H H' → H' d = some (.xd (fsBL y r)) → E (.ref BL) (some d) H'
theorem BadY.to {BL : Addr} {H H1 : Hp} {E : XK} {y : Str} {r : Int} (h : BadY BL H E y r) (s : Same1 H H1) : BadY BL H1 E y r := fun d H' hd s' e => h d H' (s.free hd) (s.trans s') e
def upB : List D → Bool
  | .int a :: .int b :: r => decide (a < b) && upB (.int b :: r)
  | _ => true
def firstBad (f : D → Bool) : Nat → List D → Option Nat
  | _, [] => none
  | i, d :: ds => if f d = true then firstBad f (i + 1) ds else some i
def wideF (d : D) : Option (Str × Int) := if d.betw 2 24 = true then none else some ("wide", 0)
def placesF (n W : Nat) : D → Option (Str × Int)
  | .tup ds => if ds.length = n then (firstBad (D.betw 0 ((W : Int) - 1)) 0 ds).map fun i => ("places", ((i : Nat) : Int)) else some ("places", -1)
  | _ => some ("places", -1)
def homeB (W : Nat) : D → Bool
  | .tup hs => decide (1 ≤ hs.length) && decide (hs.length ≤ 3) && hs.all (D.betw 0 ((W : Int) - 1)) && upB hs
  | _ => false
def homesF (n W : Nat) : D → Option (Str × Int)
  | .tup ds => if ds.length = n then (firstBad (homeB W) 0 ds).map fun i => ("homes", ((i : Nat) : Int)) else some ("homes", -1)
  | _ => some ("homes", -1)
def wideN : D → Nat
  | .int i => i.toNat
  | _ => 0
def orE {α : Type} : Option α → Option α → Option α
  | some x, _ => some x
  | none, y => y
def layF (p : Prog) (d : D) : Option (Str × Int) := orE (wideF (partD d 0)) (orE (placesF p.rows.length (wideN (partD d 0)) (partD d 1)) (orE (homesF p.ws.length (wideN (partD d 0)) (partD d 2)) (if lenD d = 3 then none else some ("homes", -1))))
def spCheckWideD (BL : Addr) : Sp := fun vs H Q E => ∃ (v : V) (d : D), vs = [v] ∧ At H v d ∧ (∀ y r, wideF d = some (y, r) → BadY BL H E y r) ∧ (wideF d = none → Q .non H)
def spCheckPlacesD (BL : Addr) : Sp := fun vs H Q E => ∃ (v : V) (d : D) (n W : Nat), vs = [v, .int (n : Int), .int (W : Int)] ∧ At H v d ∧ d.fit ∧ (∀ y r, placesF n W d = some (y, r) → BadY BL H E y r) ∧ (placesF n W d = none → ∀ H', Same1 H H' → Q .non H')
def spAreHomesD : Sp := fun vs H Q _ => ∃ (v : V) (d : D) (W : Nat), vs = [v, .int (W : Int)] ∧ At H v d ∧ d.fit ∧ ∀ H', Same1 H H' → Q (.bl (homeB W d)) H'
def spCheckHomesD (BL : Addr) : Sp := fun vs H Q E => ∃ (v : V) (d : D) (n W : Nat), vs = [v, .int (n : Int), .int (W : Int)] ∧ At H v d ∧ d.fit ∧ (∀ y r, homesF n W d = some (y, r) → BadY BL H E y r) ∧ (homesF n W d = none → ∀ H', Same1 H H' → Q .non H')
def spCheckLayingD (BL : Addr) : Sp := fun vs H Q E => ∃ (a : Addr) (v : V) (p : Prog) (d : D), vs = [.ref a, v] ∧ ProgAt H a p ∧ Good p ∧ At H v d ∧ d.fit ∧ (∀ y r, layF p d = some (y, r) → BadY BL H E y r) ∧ (layF p d = none → ∀ H', Same1 H H' → Q .non H')
section
variable {P : Program} {w : World} {K : PySem.W.Frag} {mg : Str → Option Value} {base : Heap} {CB : Addr}
theorem ok_checkWideD (BL : IBL K mg CB) (GBL : FnOk P w K mg base CX0 1 BL.f BL.fd ["self", "why", "at"] (spBL CB)) (c : FCheckWide K mg) (cIsBetween : FIsBetween K mg) (cIsNumber : FIsNumber K mg) (T : Bt mg) (L : Cl mg) : FnOk P w K mg base (L2.CX P w) 3 c.f c.fd ["wide"] (spCheckWideD CB) := by
  have GIsBetween : FnOk P w K mg base CX0 2 cIsBetween.f cIsBetween.fd ["thing", "low", "high"] spBetweenD := ok_isBetweenD cIsBetween cIsNumber T
  refine c.F.okX scCheckWide (fun vs H Q E h => ?_) (fun cdv A outer s H vs Q E hr h => ?_)
  · obtain ⟨v, d, rfl, _⟩ := h
    rfl
  · obtain ⟨v, d, rfl, hv, ke, k⟩ := h
    refine ⟨_, (pss_one (ps_if (pt_not (pt_val (pe_call GIsBetween (hr.mono (by first | omega | decide)) (by rfl) cIsBetween.m cIsBetween.F.kp cIsBetween.b .nil pass0 (pa_cons (pv 0) (pa_cons (pe_glob rfl L.m2 relI) (pa_cons (pe_glob rfl L.m24 relI) pa_nil))))))
          (pss_one (ps_raise rfl (takes_of rfl rfl rfl rfl) (L2.pmk_oex BL.T BL.iC BL.tI GBL (hr.mono (by first | omega | decide)) BL.b .nil pass0 (by rfl) BL.m (pa_cons pe_str (pa_cons pe_int pa_nil)))))
          pss_nil)), ?_⟩
    refine ⟨_, rfl, v, d, _, _, rfl, hv, _, rfl, ?_⟩
    unfold wideF at ke k
    cases hb : d.betw 2 24 with
    | true =>
      rw [hb, if_pos rfl] at k
      exact iteF (k rfl)
    | false =>
      rw [hb, if_neg (by decide)] at ke
      exact iteT (toldBL ⟨by decide +kernel, by unfold Sm; decide⟩ (ke _ _ rfl))
theorem first_step {f : D → Bool} {ds : List D} {i : Nat} {z : D} (h : ds[i]? = some z) : firstBad f i (ds.drop i) = if f z = true then firstBad f (i + 1) (ds.drop (i + 1)) else some i := by
  obtain ⟨hi, e⟩ := List.getElem?_eq_some_iff.mp h
  rw [List.drop_eq_getElem_cons hi, e]
  rfl
theorem ok_checkPlacesD (BL : IBL K mg CB) (GBL : FnOk P w K mg base CX0 1 BL.f BL.fd ["self", "why", "at"] (spBL CB)) (c : FCheckPlaces K mg) (cIsBetween : FIsBetween K mg) (cIsNumber : FIsNumber K mg) (T : Bt mg) : FnOk P w K mg base (L2.CX P w) 3 c.f c.fd ["places", "count", "wide"] (spCheckPlacesD CB) := by
  have GIsBetween : FnOk P w K mg base CX0 2 cIsBetween.f cIsBetween.fd ["thing", "low", "high"] spBetweenD := ok_isBetweenD cIsBetween cIsNumber T
  refine c.F.okX scCheckPlaces (fun vs H Q E h => ?_) (fun cdv A outer s H vs Q E hr h => ?_)
  · obtain ⟨v, d, n, W, rfl, _⟩ := h
    rfl
  · obtain ⟨v, d, n, W, rfl, hv, hfit, ke, k⟩ := h
    refine ⟨_, (pss_cons (ps_if (PW.pt (pw_or (pt_not (pt_val (pe_callB call_isi (by rfl) T.isinstance (by decide +kernel) (pa_cons (pv 0) (pa_cons (pe_bltn (v := .ty "tuple") (by rfl) T.tuple (by decide +kernel) rfl) pa_nil))))) (pw_or1 (pt_cmpR op_ne (pe_callB call_len_seq (by rfl) T.len PySem.boot_len (pa_cons (pv 0) pa_nil)) (pv 1) (nomark _)))))
          (pss_one (ps_raise rfl (takes_of rfl rfl rfl rfl) (L2.pmk_oex BL.T BL.iC BL.tI GBL (hr.mono (by first | omega | decide)) BL.b .nil pass0 (by rfl) BL.m (pa_cons pe_str (pa_cons (pe_un un_neg pe_int) pa_nil)))))
          pss_nil)
      (pss_one (ps_for (L2.passes_of rfl) rfl (pi_enumT (by rfl) T.enumerate (pa_cons (pv 0) pa_nil)) (pg_tup rfl (pgs_cons (pg_name (i := 3) scCheckPlaces.nd rfl (Or.inl rfl)) (pgs_cons (pg_name (i := 4) scCheckPlaces.nd rfl (Or.inl rfl)) pgs_nil)))
          (pss_one (ps_if (pt_not (pt_val (pe_call GIsBetween (hr.mono (by first | omega | decide)) (by rfl) cIsBetween.m cIsBetween.F.kp cIsBetween.b .nil pass0 (pa_cons (pv 4) (pa_cons pe_int (pa_cons (pe_op op_sub (pv 2) pe_int) pa_nil))))))
              (pss_one (ps_raise rfl (takes_of rfl rfl rfl rfl) (L2.pmk_oex BL.T BL.iC BL.tI GBL (hr.mono (by first | omega | decide)) BL.b .nil pass0 (by rfl) BL.m (pa_cons pe_str (pa_cons (pv 3) pa_nil)))))
              pss_nil))))), ?_⟩
    have m1 : ("places" : Str).length ≤ 1000 ∧ Sm (-1) := ⟨by decide +kernel, by unfold Sm; decide⟩
    cases d with
    | tup ds =>
      obtain ⟨a, xs, rfl, h1, h2⟩ : ∃ a vs, v = .ref a ∧ H a = some (.tup vs) ∧ Ats H vs ds := by simpa [At] using hv
      have hl := h2.len
      have hbig := (D.fit_of (.inr rfl) hfit).1
      refine ⟨_, rfl, _, _, _, _, true, rfl, .ty _, .base (.tup h1), kit_ty (by decide +kernel), _, rfl, ?_⟩
      refine ⟨_, rfl, a, _, rfl, .inr (SqT.of h1), _, rfl, rfl, _, rfl, ?_⟩
      have ke : ∀ y r, (if ds.length = n then (firstBad (D.betw 0 ((W : Int) - 1)) 0 ds).map fun i => (("places" : Str), ((i : Nat) : Int)) else some (("places" : Str), (-1 : Int))) = some (y, r) → BadY CB H E y r := ke
      have k : (if ds.length = n then (firstBad (D.betw 0 ((W : Int) - 1)) 0 ds).map fun i => (("places" : Str), ((i : Nat) : Int)) else some (("places" : Str), (-1 : Int))) = none → ∀ H', Same1 H H' → Q .non H' := k
      by_cases hn : ds.length = n
      · rw [if_pos hn] at ke k
        rw [decide_eq_true (show V.int ((xs.length : Nat) : Int) = V.int (n : Int) by rw [hl, hn])]
        refine iteF ⟨_, rfl, a, _, rfl, SqT.of h1, for_enumT (K := K) (a := a) (xs := xs) (fun i σ H' => ∃ x3 x4 : Option V, σ = [some (.ref a), some (.int (n : Int)), some (.int (W : Int)), x3, x4] ∧ Same1 H H' ∧ firstBad (D.betw 0 ((W : Int) - 1)) 0 ds = firstBad (D.betw 0 ((W : Int) - 1)) i (ds.drop i)) ⟨none, none, rfl, Same.refl _, rfl⟩
          (fun i σ H' ⟨_, _, _, q, _⟩ => SqT.of (q _ _ h1)) ?_ ?_⟩
        · rintro i x T' σ H1 hi ⟨x3, x4, rfl, s1, eF⟩ hT'
          have hil := (List.getElem?_eq_some_iff.mp hi).1
          obtain ⟨u, z, g1, g2, g3⟩ := h2.get i (by omega)
          rw [hi] at g1
          have e := Option.some.inj g1
          subst e
          rw [first_step g2] at eF
          refine alloc hT' fun H2 s2 e2 => ?_
          refine ⟨T', _, rfl, SqT.of e2, rfl, _, _, rfl, _, _, rfl, rfl, ?_⟩
          refine ⟨_, rfl, _, rfl, _, _, rfl, rfl, x, z, _, _, rfl, At.sm0 (s1.trans s2) z x g3, _, rfl, ?_⟩
          cases hb : z.betw 0 ((W : Int) - 1) with
          | true =>
            rw [hb, if_pos rfl] at eF
            exact iteF ⟨_, _, rfl, s1.trans s2, eF⟩
          | false =>
            rw [hb, if_neg (by decide)] at eF
            exact iteT ⟨_, rfl, toldBL ⟨by decide +kernel, small_nat (by omega)⟩ ((ke _ _ (by rw [eF]; rfl)).to (s1.trans s2))⟩
        · rintro σ H1 ⟨x3, x4, rfl, s1, eF⟩
          refine k ?_ _ s1
          rw [eF, List.drop_eq_nil_of_le (by omega)]
          rfl
      · rw [if_neg hn] at ke
        rw [decide_eq_false (show ¬ V.int ((xs.length : Nat) : Int) = V.int (n : Int) from fun z => by injection z with z; omega)]
        exact iteT ⟨_, rfl, toldBL m1 (ke _ _ rfl)⟩
    | non => exact ⟨_, rfl, _, _, _, _, false, rfl, .ty _, hv.ty, kit_ty (by dsimp only [DL.D.ty]; decide +kernel), _, rfl, iteT ⟨_, rfl, toldBL m1 (ke _ _ rfl)⟩⟩
    | bl b => exact ⟨_, rfl, _, _, _, _, false, rfl, .ty _, hv.ty, kit_ty (by dsimp only [DL.D.ty]; decide +kernel), _, rfl, iteT ⟨_, rfl, toldBL m1 (ke _ _ rfl)⟩⟩
    | int i => exact ⟨_, rfl, _, _, _, _, false, rfl, .ty _, hv.ty, kit_ty (by dsimp only [DL.D.ty]; decide +kernel), _, rfl, iteT ⟨_, rfl, toldBL m1 (ke _ _ rfl)⟩⟩
    | str x => exact ⟨_, rfl, _, _, _, _, false, rfl, .ty _, hv.ty, kit_ty (by dsimp only [DL.D.ty]; decide +kernel), _, rfl, iteT ⟨_, rfl, toldBL m1 (ke _ _ rfl)⟩⟩
    | lst l => exact ⟨_, rfl, _, _, _, _, false, rfl, .ty _, hv.ty, kit_ty (by dsimp only [DL.D.ty]; decide +kernel), _, rfl, iteT ⟨_, rfl, toldBL m1 (ke _ _ rfl)⟩⟩
theorem eqvA_ints : ∀ l m : List Int, PyData.eqvAll (l.map PyData.int) (m.map PyData.int) = decide (l = m)
  | [], [] => by simp [PyData.eqvAll]
  | [], _ :: _ => by simp [PyData.eqvAll]
  | _ :: _, [] => by simp [PyData.eqvAll]
  | x :: l, y :: m => by
    show PyData.eqvAll (PyData.int x :: l.map PyData.int) (PyData.int y :: m.map PyData.int) = _
    rw [PyData.eqvAll, eqvA_ints l m, PyData.eqv]
    by_cases h : x = y
    · subst h
      simp
    · simp [h]
theorem eq_intsB {H : Hp} {a b : Addr} {l m : List Int} {Q : VK} (h1 : H a = some (.lst (l.map V.int))) (h2 : H b = some (.lst (m.map V.int))) (q : Q (.bl (decide (l = m))) H) : rEqD K (.ref a) (.ref b) H Q := by
  refine ⟨intsD l, intsD m, .lst (SqL.of h1) (intsD_at l), .lst (SqL.of h2) (intsD_at m), intsD_shaped l, intsD_shaped m, ?_⟩
  have e : PyData.eqv (intsD l) (intsD m) = decide (l = m) := by
    unfold intsD
    rw [PyData.eqv, eqvA_ints]
  rw [e]
  exact q
theorem up_iff : ∀ ns : List Int, upB (ns.map DL.D.int) = true ↔ ns.Pairwise (· < ·)
  | [] => ⟨fun _ => .nil, fun _ => rfl⟩
  | [a] => ⟨fun _ => List.pairwise_singleton _ _, fun _ => rfl⟩
  | a :: b :: r => by
    have ih := up_iff (b :: r)
    show (decide (a < b) && upB ((b :: r).map DL.D.int)) = true ↔ _
    rw [Bool.and_eq_true_iff, ih, decide_eq_true_iff]
    constructor
    · rintro ⟨h1, h2⟩
      refine List.pairwise_cons.mpr ⟨fun x hx => ?_, h2⟩
      rcases List.mem_cons.mp hx with rfl | hx
      · exact h1
      · exact Int.lt_trans h1 ((List.pairwise_cons.mp h2).1 x hx)
    · intro h
      obtain ⟨h1, h2⟩ := List.pairwise_cons.mp h
      exact ⟨h1 b List.mem_cons_self, h2⟩
theorem ints_of2 {lo hi : Int} : ∀ {ds : List D}, ds.all (D.betw lo hi) = true → ∃ ws : List Int, ds = ws.map .int
  | [], _ => ⟨[], rfl⟩
  | d :: ds, h => by
    have h : (d.betw lo hi && ds.all (D.betw lo hi)) = true := h
    obtain ⟨h1, h2⟩ := Bool.and_eq_true_iff.mp h
    obtain ⟨ws, rfl⟩ := ints_of2 h2
    cases d with
    | int i => exact ⟨i :: ws, rfl⟩
    | _ => cases h1
theorem ok_areHomesD (c : FAreHomes K mg) (cIsBetween : FIsBetween K mg) (cIsNumber : FIsNumber K mg) (T : Bt mg) (TS : Bs mg) (LH : Ch mg) : FnOk P w K mg base CX0 3 c.f c.fd ["places", "wide"] spAreHomesD := by
  have GIsBetween : FnOk P w K mg base CX0 2 cIsBetween.f cIsBetween.fd ["thing", "low", "high"] spBetweenD := ok_isBetweenD cIsBetween cIsNumber T
  refine c.F.ok scAreHomes (fun vs H Q E h => ?_) (fun cdv A outer s H vs Q E hr h => ?_)
  · obtain ⟨v, d, W, rfl, _⟩ := h
    rfl
  · obtain ⟨v, d, W, rfl, hv, hfit, k⟩ := h
    refine ⟨_, (pss_cons (ps_if (PW.pt (pw_or (pt_not (pt_val (pe_callB call_isi (by rfl) T.isinstance (by decide +kernel) (pa_cons (pv 0) (pa_cons (pe_bltn (v := .ty "tuple") (by rfl) T.tuple (by decide +kernel) rfl) pa_nil))))) (pw_or1 (pt_not (pt_chain op_le op_le pe_int (pe_callB call_len_seq (by rfl) T.len PySem.boot_len (pa_cons (pv 0) pa_nil)) (pe_glob rfl LH.m3 relI))))))
          (pss_one (ps_ret pe_bl))
          pss_nil)
      (pss_cons (ps_if (pt_not (pt_val (pe_callB (cr_all rfl) (by rfl) T.all (by decide +kernel) (pa_cons (pe_lc (own := [("place", 2)]) (g := gName 2) (tt := tYes) rfl scAreHomes.nd (pi_tup (pv 0)) (blkOk_by (N := nAreHomes) (sc := defScope sAreHomes) (by decide +kernel)) (fun _ _ _ _ _ => (pg_name (i := 2) scAreHomes.nd rfl (Or.inl rfl))) (fun _ _ _ _ _ => pts_nil) (fun _ _ _ _ _ => (pe_call GIsBetween (hr.mono (by first | omega | decide)) (by rfl) cIsBetween.m cIsBetween.F.kp cIsBetween.b .nil pass0 (pa_cons (pv 2) (pa_cons pe_int (pa_cons (pe_op op_sub (pv 1) pe_int) pa_nil)))))) pa_nil))))
          (pss_one (ps_ret pe_bl))
          pss_nil)
      (pss_one (ps_ret (pe_cmpR (op_eqD hr.units) (pe_callTy call_list_of (by rfl) T.list (by decide +kernel) (pa_cons (pv 0) pa_nil)) (pe_callB (cr_sortedSet rfl) (by rfl) T.sorted (by decide +kernel) (pa_cons (pe_callTy (cr_setT rfl) (by rfl) TS.set (by decide +kernel) (pa_cons (pv 0) pa_nil)) pa_nil)) (nomark _)))))), ?_⟩
    cases d with
    | tup ds =>
      obtain ⟨a, xs, rfl, h1, h2⟩ : ∃ a vs, v = .ref a ∧ H a = some (.tup vs) ∧ Ats H vs ds := by simpa [At] using hv
      have hl := h2.len
      have hbig := (D.fit_of (.inr rfl) hfit).1
      have k : ∀ H', Same1 H H' → Q (.bl (decide (1 ≤ ds.length) && decide (ds.length ≤ 3) && ds.all (D.betw 0 ((W : Int) - 1)) && upB ds)) H' := k
      refine ⟨_, rfl, _, _, _, _, true, rfl, .ty _, .base (.tup h1), kit_ty (by decide +kernel), _, rfl, ?_⟩
      refine ⟨_, rfl, a, _, rfl, .inr (SqT.of h1), _, _, rfl, rfl, _, rfl, ?_⟩
      by_cases l1 : 1 ≤ ds.length
      · rw [hl, decide_eq_true (show (1 : Int) ≤ (ds.length : Int) by omega)]
        refine iteT ⟨_, _, rfl, rfl, _, rfl, ?_⟩
        by_cases l3 : ds.length ≤ 3
        · rw [decide_eq_true (show (ds.length : Int) ≤ 3 by omega)]
          rw [decide_eq_true l1, decide_eq_true l3, Bool.true_and, Bool.true_and] at k
          refine iteF ⟨_, rfl, a, rfl, ⟨_, SqT.of h1⟩, fun D hD => ?_⟩
          refine lc_tup (K := K) (a := a) (xs := xs) (fun i H' => H' D = some (.lst (((ds.take i).map (DL.D.betw 0 ((W : Int) - 1))).map V.bl)) ∧ Same1 H H') ⟨upd_same, Same.new hD⟩ (fun i H' _ ⟨_, q⟩ => SqT.of (q _ _ h1)) ?_ ?_
          · rintro i x H3 hi ⟨hd, s3⟩
            have hil := (List.getElem?_eq_some_iff.mp hi).1
            obtain ⟨u, z, g1, g2, g3⟩ := h2.get i (by omega)
            rw [hi] at g1
            have e := Option.some.inj g1
            subst e
            refine ⟨rfl, _, rfl, _, rfl, _, _, rfl, rfl, x, z, _, _, rfl, At.sm0 s3 z x g3, _, hd, szl (by rw [List.length_map, List.length_map, List.length_take]; omega), ?_, Same.mut s3 hD⟩
            rw [upd_same, List.take_add_one, g2, List.map_append, List.map_append]
            rfl
          · rintro H3 ⟨hd, s3⟩
            rw [hl, List.take_length] at hd
            refine ⟨D, _, rfl, SqL.of hd, ?_⟩
            have ea : (ds.map (DL.D.betw 0 ((W : Int) - 1))).all id = ds.all (DL.D.betw 0 ((W : Int) - 1)) := by
              rw [List.all_map]
              rfl
            rw [ea]
            cases hall : ds.all (DL.D.betw 0 ((W : Int) - 1)) with
            | false =>
              rw [hall] at k
              exact ⟨_, rfl, iteT (k _ s3)⟩
            | true =>
              rw [hall, Bool.true_and] at k
              obtain ⟨ns, rfl⟩ := ints_of2 hall
              rw [List.length_map] at hl l1 l3
              have exs := ats_ints h2
              subst exs
              refine ⟨_, rfl, iteF ?_⟩
              have h3 := s3 _ _ h1
              refine ⟨_, rfl, a, _, rfl, .inr (SqT.of h3), fun q1 hq1 => ?_⟩
              refine alloc hq1 fun H4 s4 e4 => ?_
              have h4 := s4 _ _ h3
              refine ⟨_, rfl, a, _, rfl, SqT.of h4, by omega, fun sp c hc hsp => ?_⟩
              refine alloc hsp fun H5 s5 e5 => ?_
              refine ⟨sp, _, c, rfl, e5, by omega, fun ms q up mem len hq => ?_⟩
              refine alloc hq fun H6 s6 e6 => ?_
              refine eq_intsB ((s5.trans s6) _ _ e4) e6 ?_
              have ed : decide (ns = ms) = upB (ns.map DL.D.int) := by
                rw [Bool.eq_iff_iff, decide_eq_true_iff, up_iff]
                constructor
                · rintro rfl
                  exact up
                · intro hp
                  exact (rise_uniq up hp fun x => (mem x).trans decide_eq_true_iff).symm
              rw [ed]
              exact k _ (((s3.trans s4).trans s5).trans s6)
        · rw [decide_eq_false (show ¬ (ds.length : Int) ≤ 3 by omega)]
          rw [decide_eq_false l3, Bool.and_false, Bool.false_and, Bool.false_and] at k
          exact iteT (k _ (Same.refl _))
      · rw [hl, decide_eq_false (show ¬ (1 : Int) ≤ (ds.length : Int) by omega)]
        rw [decide_eq_false l1, Bool.false_and, Bool.false_and, Bool.false_and] at k
        refine iteF ⟨_, rfl, iteT (k _ (Same.refl _))⟩
    | non => exact ⟨_, rfl, _, _, _, _, false, rfl, .ty _, hv.ty, kit_ty (by dsimp only [DL.D.ty]; decide +kernel), _, rfl, iteT (k _ (Same.refl _))⟩
    | bl b => exact ⟨_, rfl, _, _, _, _, false, rfl, .ty _, hv.ty, kit_ty (by dsimp only [DL.D.ty]; decide +kernel), _, rfl, iteT (k _ (Same.refl _))⟩
    | int i => exact ⟨_, rfl, _, _, _, _, false, rfl, .ty _, hv.ty, kit_ty (by dsimp only [DL.D.ty]; decide +kernel), _, rfl, iteT (k _ (Same.refl _))⟩
    | str x => exact ⟨_, rfl, _, _, _, _, false, rfl, .ty _, hv.ty, kit_ty (by dsimp only [DL.D.ty]; decide +kernel), _, rfl, iteT (k _ (Same.refl _))⟩
    | lst l => exact ⟨_, rfl, _, _, _, _, false, rfl, .ty _, hv.ty, kit_ty (by dsimp only [DL.D.ty]; decide +kernel), _, rfl, iteT (k _ (Same.refl _))⟩
theorem ok_checkHomesD (BL : IBL K mg CB) (GBL : FnOk P w K mg base CX0 1 BL.f BL.fd ["self", "why", "at"] (spBL CB)) (c : FCheckHomes K mg) (cAreHomes : FAreHomes K mg) (cIsBetween : FIsBetween K mg) (cIsNumber : FIsNumber K mg) (T : Bt mg) (TS : Bs mg) (LH : Ch mg) : FnOk P w K mg base (L2.CX P w) 4 c.f c.fd ["homes", "count", "wide"] (spCheckHomesD CB) := by
  have GAreHomes : FnOk P w K mg base CX0 3 cAreHomes.f cAreHomes.fd ["places", "wide"] spAreHomesD := ok_areHomesD cAreHomes cIsBetween cIsNumber T TS LH
  refine c.F.okX scCheckHomes (fun vs H Q E h => ?_) (fun cdv A outer s H vs Q E hr h => ?_)
  · obtain ⟨v, d, n, W, rfl, _⟩ := h
    rfl
  · obtain ⟨v, d, n, W, rfl, hv, hfit, ke, k⟩ := h
    refine ⟨_, (pss_cons (ps_if (PW.pt (pw_or (pt_not (pt_val (pe_callB call_isi (by rfl) T.isinstance (by decide +kernel) (pa_cons (pv 0) (pa_cons (pe_bltn (v := .ty "tuple") (by rfl) T.tuple (by decide +kernel) rfl) pa_nil))))) (pw_or1 (pt_cmpR op_ne (pe_callB call_len_seq (by rfl) T.len PySem.boot_len (pa_cons (pv 0) pa_nil)) (pv 1) (nomark _)))))
          (pss_one (ps_raise rfl (takes_of rfl rfl rfl rfl) (L2.pmk_oex BL.T BL.iC BL.tI GBL (hr.mono (by first | omega | decide)) BL.b .nil pass0 (by rfl) BL.m (pa_cons pe_str (pa_cons (pe_un un_neg pe_int) pa_nil)))))
          pss_nil)
      (pss_one (ps_for (L2.passes_of rfl) rfl (pi_enumT (by rfl) T.enumerate (pa_cons (pv 0) pa_nil)) (pg_tup rfl (pgs_cons (pg_name (i := 3) scCheckHomes.nd rfl (Or.inl rfl)) (pgs_cons (pg_name (i := 4) scCheckHomes.nd rfl (Or.inl rfl)) pgs_nil)))
          (pss_one (ps_if (pt_not (pt_val (pe_call GAreHomes (hr.mono (by first | omega | decide)) (by rfl) cAreHomes.m cAreHomes.F.kp cAreHomes.b .nil pass0 (pa_cons (pv 4) (pa_cons (pv 2) pa_nil)))))
              (pss_one (ps_raise rfl (takes_of rfl rfl rfl rfl) (L2.pmk_oex BL.T BL.iC BL.tI GBL (hr.mono (by first | omega | decide)) BL.b .nil pass0 (by rfl) BL.m (pa_cons pe_str (pa_cons (pv 3) pa_nil)))))
              pss_nil))))), ?_⟩
    have m1 : ("homes" : Str).length ≤ 1000 ∧ Sm (-1) := ⟨by decide +kernel, by unfold Sm; decide⟩
    cases d with
    | tup ds =>
      obtain ⟨a, xs, rfl, h1, h2⟩ : ∃ a vs, v = .ref a ∧ H a = some (.tup vs) ∧ Ats H vs ds := by simpa [At] using hv
      have hl := h2.len
      have hbig := (D.fit_of (.inr rfl) hfit).1
      have hfs := fitL_iff.mp (D.fit_of (.inr rfl) hfit).2
      refine ⟨_, rfl, _, _, _, _, true, rfl, .ty _, .base (.tup h1), kit_ty (by decide +kernel), _, rfl, ?_⟩
      refine ⟨_, rfl, a, _, rfl, .inr (SqT.of h1), _, rfl, rfl, _, rfl, ?_⟩
      have ke : ∀ y r, (if ds.length = n then (firstBad (homeB W) 0 ds).map fun i => (("homes" : Str), ((i : Nat) : Int)) else some (("homes" : Str), (-1 : Int))) = some (y, r) → BadY CB H E y r := ke
      have k : (if ds.length = n then (firstBad (homeB W) 0 ds).map fun i => (("homes" : Str), ((i : Nat) : Int)) else some (("homes" : Str), (-1 : Int))) = none → ∀ H', Same1 H H' → Q .non H' := k
      by_cases hn : ds.length = n
      · rw [if_pos hn] at ke k
        rw [decide_eq_true (show V.int ((xs.length : Nat) : Int) = V.int (n : Int) by rw [hl, hn])]
        refine iteF ⟨_, rfl, a, _, rfl, SqT.of h1, for_enumT (K := K) (a := a) (xs := xs) (fun i σ H' => ∃ x3 x4 : Option V, σ = [some (.ref a), some (.int (n : Int)), some (.int (W : Int)), x3, x4] ∧ Same1 H H' ∧ firstBad (homeB W) 0 ds = firstBad (homeB W) i (ds.drop i)) ⟨none, none, rfl, Same.refl _, rfl⟩
          (fun i σ H' ⟨_, _, _, q, _⟩ => SqT.of (q _ _ h1)) ?_ ?_⟩
        · rintro i x T' σ H1 hi ⟨x3, x4, rfl, s1, eF⟩ hT'
          have hil := (List.getElem?_eq_some_iff.mp hi).1
          obtain ⟨u, z, g1, g2, g3⟩ := h2.get i (by omega)
          rw [hi] at g1
          have e := Option.some.inj g1
          subst e
          rw [first_step g2] at eF
          refine alloc hT' fun H2 s2 e2 => ?_
          refine ⟨T', _, rfl, SqT.of e2, rfl, _, _, rfl, _, _, rfl, rfl, ?_⟩
          refine ⟨_, rfl, _, rfl, x, z, W, rfl, At.sm0 (s1.trans s2) z x g3, hfs z (List.mem_of_getElem? g2), fun H3 s3 => ⟨_, rfl, ?_⟩⟩
          have S3 := (s1.trans s2).trans s3
          cases hb : homeB W z with
          | true =>
            rw [hb, if_pos rfl] at eF
            exact iteF ⟨_, _, rfl, S3, eF⟩
          | false =>
            rw [hb, if_neg (by decide)] at eF
            exact iteT ⟨_, rfl, toldBL ⟨by decide +kernel, small_nat (by omega)⟩ ((ke _ _ (by rw [eF]; rfl)).to S3)⟩
        · rintro σ H1 ⟨x3, x4, rfl, s1, eF⟩
          refine k ?_ _ s1
          rw [eF, List.drop_eq_nil_of_le (by omega)]
          rfl
      · rw [if_neg hn] at ke
        rw [decide_eq_false (show ¬ V.int ((xs.length : Nat) : Int) = V.int (n : Int) from fun z => by injection z with z; omega)]
        exact iteT ⟨_, rfl, toldBL m1 (ke _ _ rfl)⟩
    | non => exact ⟨_, rfl, _, _, _, _, false, rfl, .ty _, hv.ty, kit_ty (by dsimp only [DL.D.ty]; decide +kernel), _, rfl, iteT ⟨_, rfl, toldBL m1 (ke _ _ rfl)⟩⟩
    | bl b => exact ⟨_, rfl, _, _, _, _, false, rfl, .ty _, hv.ty, kit_ty (by dsimp only [DL.D.ty]; decide +kernel), _, rfl, iteT ⟨_, rfl, toldBL m1 (ke _ _ rfl)⟩⟩
    | int i => exact ⟨_, rfl, _, _, _, _, false, rfl, .ty _, hv.ty, kit_ty (by dsimp only [DL.D.ty]; decide +kernel), _, rfl, iteT ⟨_, rfl, toldBL m1 (ke _ _ rfl)⟩⟩
    | str x => exact ⟨_, rfl, _, _, _, _, false, rfl, .ty _, hv.ty, kit_ty (by dsimp only [DL.D.ty]; decide +kernel), _, rfl, iteT ⟨_, rfl, toldBL m1 (ke _ _ rfl)⟩⟩
    | lst l => exact ⟨_, rfl, _, _, _, _, false, rfl, .ty _, hv.ty, kit_ty (by dsimp only [DL.D.ty]; decide +kernel), _, rfl, iteT ⟨_, rfl, toldBL m1 (ke _ _ rfl)⟩⟩
theorem ok_checkLayingD (BL : IBL K mg CB) (GBL : FnOk P w K mg base CX0 1 BL.f BL.fd ["self", "why", "at"] (spBL CB)) (c : FCheckLaying K mg) (cCheckWide : FCheckWide K mg) (cCheckPlaces : FCheckPlaces K mg) (cCheckHomes : FCheckHomes K mg) (cAreHomes : FAreHomes K mg) (cPart : FPart K mg) (cIsBetween : FIsBetween K mg) (cIsNumber : FIsNumber K mg) (T : Bt mg) (TS : Bs mg) (L : Cl mg) (LH : Ch mg) : FnOk P w K mg base (L2.CX P w) 5 c.f c.fd ["program", "laying"] (spCheckLayingD CB) := by
  have GPart : FnOk P w K mg base CX0 1 cPart.f cPart.fd ["whole", "at"] spPartD := ok_partD cPart T
  have GCheckWide : FnOk P w K mg base (L2.CX P w) 3 cCheckWide.f cCheckWide.fd ["wide"] (spCheckWideD CB) := ok_checkWideD BL GBL cCheckWide cIsBetween cIsNumber T L
  have GCheckPlaces : FnOk P w K mg base (L2.CX P w) 3 cCheckPlaces.f cCheckPlaces.fd ["places", "count", "wide"] (spCheckPlacesD CB) := ok_checkPlacesD BL GBL cCheckPlaces cIsBetween cIsNumber T
  have GCheckHomes : FnOk P w K mg base (L2.CX P w) 4 cCheckHomes.f cCheckHomes.fd ["homes", "count", "wide"] (spCheckHomesD CB) := ok_checkHomesD BL GBL cCheckHomes cAreHomes cIsBetween cIsNumber T TS LH
  refine c.F.okX scCheckLaying (fun vs H Q E h => ?_) (fun cdv A outer s H vs Q E hr h => ?_)
  · obtain ⟨a, v, p, d, rfl, _⟩ := h
    rfl
  · obtain ⟨a, v, p, d, rfl, ⟨wa, ra, bs, hpa, hwa, hra, hR⟩, g, hv, hfit, ke, k⟩ := h
    have hbr := Paired.length hR
    refine ⟨_, (pss_cons (ps_asg (pv 0) (pg_tup rfl (pgs_cons (pg_name (i := 2) scCheckLaying.nd rfl (Or.inl rfl)) (pgs_cons (pg_name (i := 3) scCheckLaying.nd rfl (Or.inl rfl)) pgs_nil))))
      (pss_cons (ps_set (i := 4) scCheckLaying.nd rfl (Or.inl rfl) (pe_call GPart (hr.mono (by first | omega | decide)) (by rfl) cPart.m cPart.F.kp cPart.b .nil pass0 (pa_cons (pv 1) (pa_cons pe_int pa_nil))))
      (pss_cons (ps_expr (pe_call GCheckWide (hr.mono (by first | omega | decide)) (by rfl) cCheckWide.m cCheckWide.F.kp cCheckWide.b .nil (L2.passes_call (takes_of rfl rfl rfl rfl) (fun _ _ _ _ h => h)) (pa_cons (pv 4) pa_nil)))
      (pss_cons (ps_expr (pe_call GCheckPlaces (hr.mono (by first | omega | decide)) (by rfl) cCheckPlaces.m cCheckPlaces.F.kp cCheckPlaces.b .nil (L2.passes_call (takes_of rfl rfl rfl rfl) (fun _ _ _ _ h => h)) (pa_cons (pe_call GPart (hr.mono (by first | omega | decide)) (by rfl) cPart.m cPart.F.kp cPart.b .nil pass0 (pa_cons (pv 1) (pa_cons pe_int pa_nil))) (pa_cons (pe_callB call_len_seq (by rfl) T.len PySem.boot_len (pa_cons (pv 3) pa_nil)) (pa_cons (pv 4) pa_nil)))))
      (pss_cons (ps_expr (pe_call GCheckHomes (hr.mono (by first | omega | decide)) (by rfl) cCheckHomes.m cCheckHomes.F.kp cCheckHomes.b .nil (L2.passes_call (takes_of rfl rfl rfl rfl) (fun _ _ _ _ h => h)) (pa_cons (pe_call GPart (hr.mono (by first | omega | decide)) (by rfl) cPart.m cPart.F.kp cPart.b .nil pass0 (pa_cons (pv 1) (pa_cons pe_int pa_nil))) (pa_cons (pe_callB call_len_seq (by rfl) T.len PySem.boot_len (pa_cons (pv 2) pa_nil)) (pa_cons (pv 4) pa_nil)))))
      (pss_one (ps_if (pt_cmpR op_ne (pe_callB call_len_seq (by rfl) T.len PySem.boot_len (pa_cons (pv 1) pa_nil)) pe_int (nomark _))
          (pss_one (ps_raise rfl (takes_of rfl rfl rfl rfl) (L2.pmk_oex BL.T BL.iC BL.tI GBL (hr.mono (by first | omega | decide)) BL.b .nil pass0 (by rfl) BL.m (pa_cons pe_str (pa_cons (pe_un un_neg pe_int) pa_nil)))))
          pss_nil))))))), ?_⟩
    refine ⟨_, rfl, a, _, rfl, SqT.of hpa, rfl, _, _, rfl, _, _, rfl, rfl, ?_⟩
    refine ⟨_, rfl, v, d, 0, rfl, hv, fun u0 hu0 => ?_⟩
    unfold layF at ke k
    refine ⟨_, rfl, u0, partD d 0, rfl, hu0, fun y r hy => ?_, fun h0 => ?_⟩
    · rw [hy] at ke
      exact ke _ _ rfl
    rw [h0] at ke k
    obtain ⟨W, e0, w2, w24⟩ : ∃ W : Nat, partD d 0 = .int (W : Int) ∧ 2 ≤ W ∧ W ≤ 24 := by
      unfold wideF at h0
      cases hp : partD d 0 with
      | int i =>
        rw [hp] at h0
        by_cases hb : D.betw 2 24 (.int i) = true
        · have hb : (decide (2 ≤ i) && decide (i ≤ 24)) = true := hb
          obtain ⟨b1, b2⟩ := Bool.and_eq_true_iff.mp hb
          have b1 := of_decide_eq_true b1
          have b2 := of_decide_eq_true b2
          exact ⟨i.toNat, by rw [Int.toNat_of_nonneg (by omega)], by omega, by omega⟩
        · rw [if_neg hb] at h0
          cases h0
      | _ => rw [hp] at h0; cases h0
    rw [e0] at hu0 ke k
    have eW : wideN (.int (W : Int)) = W := Int.toNat_natCast W
    rw [eW] at ke k
    have eu : u0 = .int (W : Int) := by simpa [At] using hu0
    subst eu
    have ke : ∀ y r, orE (placesF p.rows.length W (partD d 1)) (orE (homesF p.ws.length W (partD d 2)) (if lenD d = 3 then none else some (("homes" : Str), (-1 : Int)))) = some (y, r) → BadY CB H E y r := ke
    have k : orE (placesF p.rows.length W (partD d 1)) (orE (homesF p.ws.length W (partD d 2)) (if lenD d = 3 then none else some (("homes" : Str), (-1 : Int)))) = none → ∀ H', Same1 H H' → Q .non H' := k
    refine ⟨_, rfl, v, d, 1, rfl, hv, fun u1 hu1 => ?_⟩
    refine ⟨_, rfl, ra, _, rfl, .inr (SqT.of hra), _, rfl, u1, partD d 1, p.rows.length, W, ?_, hu1, part_fit hfit 1, fun y r hy => ?_, fun h1 H1 s1 => ?_⟩
    · rw [List.length_map, hbr]
      rfl
    · rw [hy] at ke
      exact ke _ _ rfl
    rw [h1] at ke k
    have ke : ∀ y r, orE (homesF p.ws.length W (partD d 2)) (if lenD d = 3 then none else some (("homes" : Str), (-1 : Int))) = some (y, r) → BadY CB H E y r := ke
    have k : orE (homesF p.ws.length W (partD d 2)) (if lenD d = 3 then none else some (("homes" : Str), (-1 : Int))) = none → ∀ H', Same1 H H' → Q .non H' := k
    refine ⟨_, rfl, v, d, 2, rfl, At.sm0 s1 d v hv, fun u2 hu2 => ?_⟩
    refine ⟨_, rfl, wa, _, rfl, .inr (SqT.of (s1 _ _ hwa)), _, rfl, u2, partD d 2, p.ws.length, W, ?_, hu2, part_fit hfit 2, fun y r hy => ?_, fun h2 H2 s2 => ?_⟩
    · rw [List.length_map]
      rfl
    · rw [hy] at ke
      exact (ke _ _ rfl).to s1
    rw [h2] at ke k
    have ke : ∀ y r, (if lenD d = 3 then none else some (("homes" : Str), (-1 : Int))) = some (y, r) → BadY CB H E y r := ke
    have k : (if lenD d = 3 then none else some (("homes" : Str), (-1 : Int))) = none → ∀ H', Same1 H H' → Q .non H' := k
    obtain ⟨hs, e2⟩ : ∃ hs, partD d 2 = .tup hs := by
      cases hp : partD d 2 with
      | tup hs => exact ⟨hs, rfl⟩
      | _ => rw [hp] at h2; cases h2
    obtain ⟨ds, rfl⟩ : ∃ ds, d = .tup ds := by
      cases d with
      | tup ds => exact ⟨ds, rfl⟩
      | _ => cases e2
    obtain ⟨b, xs, rfl, hb, hds⟩ : ∃ a vs, v = .ref a ∧ H a = some (.tup vs) ∧ Ats H vs ds := by simpa [At] using hv
    have hl := hds.len
    have S2 := s1.trans s2
    refine ⟨_, rfl, b, _, rfl, .inr (SqT.of (S2 _ _ hb)), rfl, _, rfl, ?_⟩
    by_cases h3 : ds.length = 3
    · rw [decide_eq_true (show V.int ((xs.length : Nat) : Int) = V.int 3 by rw [hl, h3]; rfl)]
      exact iteF (k (if_pos h3) _ S2)
    · rw [decide_eq_false (show ¬ V.int ((xs.length : Nat) : Int) = V.int 3 from fun z => by injection z with z; omega)]
      exact iteT ⟨_, rfl, toldBL ⟨by decide +kernel, by unfold Sm; decide⟩ ((ke _ _ (if_neg h3)).to S2)⟩
end
end DL
namespace DLR
open PySem PySem.Spec PyProof.Rows L2
theorem tupM0 (l : Addr) (items : Array Value) (n : Nat) (dd : Option Addr) (sl : Array (Option Value)) (x : Int) (u : Tok) (c1 : items.isEmpty = false) (c0 : (decide (x < -(2 ^ 63)) || decide (x ≥ 2 ^ 63)) = false) (c2 : (items.isEmpty || x == 1) = false) (c3 : (decide (x ≤ 0) || items.isEmpty) = true) :
    Meets (Builtin.«tuple.__mul__» ⟨[.ref l, .int x u], []⟩) (fun _ R s => s.heap.get? l = some { cls := .type "tuple", dict := dd, data := .seq items n, slots := sl } ∧
      R (.ok (.ret (Value.ref s.heap.objs.size))) { s with heap := s.heap.push { cls := Value.type "tuple", data := Data.seq #[] } }) :=
  .of_wp fun prog w A R s h => by
    obtain ⟨hp, g, d, tk, os⟩ := s
    obtain ⟨hl, h⟩ := h
    have f1 := AutoSeq1.idx_int
    wp_walk using wpAny_loadPart' hl
    repeat (first
      | (refine wpAny_ite_false (decide_eq_false (by rw [c0]; exact Bool.false_ne_true)) ?_; wp_walk using wpAny_loadPart' hl)
      | (refine wpAny_ite_false (decide_eq_false (by rw [c2]; exact Bool.false_ne_true)) ?_; wp_walk using wpAny_loadPart' hl)
      | (refine wpAny_ite_true (decide_eq_true c3) ?_; wp_walk using wpAny_loadPart' hl))
    exact ⟨_, rfl, h⟩
theorem tupM1 (l : Addr) (items : Array Value) (n : Nat) (dd : Option Addr) (sl : Array (Option Value)) (u : Tok) (c1 : items.isEmpty = false) :
    Meets (Builtin.«tuple.__mul__» ⟨[.ref l, .int 1 u], []⟩) (fun _ R s => s.heap.get? l = some { cls := .type "tuple", dict := dd, data := .seq items n, slots := sl } ∧ R (.ok (.ret (Value.ref l))) s) :=
  .of_wp fun prog w A R s h => by
    obtain ⟨hp, g, d, tk, os⟩ := s
    obtain ⟨hl, h⟩ := h
    have f1 := AutoSeq1.idx_int
    wp_walk using wpAny_loadPart' hl
    repeat (first
      | (refine wpAny_ite_false (by rw [c1]; decide) ?_; wp_walk using wpAny_loadPart' hl)
      | (refine wpAny_ite_false (by decide) ?_; wp_walk using wpAny_loadPart' hl)
      | (refine wpAny_ite_true (by decide) ?_; wp_walk using wpAny_loadPart' hl)
      | (refine wpAny_ite_true (by rw [c1]; decide) ?_; wp_walk using wpAny_loadPart' hl))
    exact ⟨_, rfl, h⟩
def rRepN (K : PySem.W.Frag) : R2 := fun x y H Q => ∃ l k xs, x = .ref l ∧ y = .int k ∧ H l = some (.tup xs) ∧ xs ≠ [] ∧ -1000 ≤ k ∧ k ≤ 1000 ∧ xs.length ≤ 1000 ∧ ∀ p H', DL.Same1 H H' → H' p = some (.tup (List.replicate k.toNat xs).flatten) → Q (.ref p) H'
theorem op_repN {X : Cx} : OpR X (binaryOp .Mult) (rRepN X.K) := by
  intro pins s σ H x y v u Q I rx ry h
  obtain ⟨l, k, xs, rfl, rfl, ha, hne, h0, h2, hz, q⟩ := h
  by_cases h1 : 2 ≤ k
  · exact op_repT pins s σ H _ _ v u Q I rx ry ⟨l, k, xs, rfl, rfl, SqT.of ha, hne, h1, h2, hz, fun p hp => q p _ (DL.Same.new hp) upd_same⟩
  · cases rx
    obtain ⟨t, rfl⟩ := ry
    obtain ⟨its, r, ⟨⟨cls, dd, data, sl⟩, ho, hc, n, hd⟩, hs⟩ := I.tuple (SqT.of ha)
    simp only at hc hd
    subst hc hd
    have hi : its.toArray.isEmpty = false := by
      cases its with
      | nil => exact absurd (List.eq_nil_of_length_eq_zero (by have := r.length; simpa using this)) hne
      | cons a b => rfl
    rcases (show k ≤ 0 ∨ k = 1 by omega) with hk | rfl
    · have c0 : (decide (k < -(2 ^ 63)) || decide (k ≥ 2 ^ 63)) = false := by rw [decide_eq_false (by omega), decide_eq_false (by omega)] <;> rfl
      have c2 : (its.toArray.isEmpty || k == 1) = false := by
        rw [hi, Bool.false_or]
        exact beq_eq_false_iff_ne.mpr (by omega)
      have c3 : (decide (k ≤ 0) || its.toArray.isEmpty) = true := by rw [decide_eq_true hk]; rfl
      have ek : k.toNat = 0 := by omega
      rw [ek] at q
      refine wpAny_binaryOp_repeat_ref (T := "tuple") (U := "int") (by decide) ⟨_, ho, rfl⟩ (fun s' => typeIs_int s' k t) noFill_tuple_mul F.fills_int_mul F.slot_int_rmul repeat_tuple F.slot_int_index.lookup
        (call_meets F.slot_int_rmul (typeIs_int s k t) F.entry_int_rmul (F.args_int_rmul_2 _ _) (int_rmul_tuple k t l its.toArray n dd sl)
          ⟨ho, rfl, ⟨_, ho, rfl⟩, call_meets F.slot_tuple_mul ⟨_, ho, rfl⟩ F.entry_tuple_mul (F.args_tuple_mul_2 _ _) (tupM0 l its.toArray n dd sl k t hi c0 c2 c3) ⟨ho, ?_⟩⟩)
      refine ⟨.ref s.heap.objs.size, _, I.laid (t' := s.toks) (o := .tup []) (fun b o e => Heap.get?_push_of_some _ e) (Nat.le_refl _) ⟨Nat.zero_le _, [], .nil, IsTup.new _ _⟩, rfl, q _ _ (DL.Same.new (I.hok.fresh (Nat.le_refl _))) upd_same⟩
    · refine wpAny_binaryOp_repeat_ref (T := "tuple") (U := "int") (by decide) ⟨_, ho, rfl⟩ (fun s' => typeIs_int s' 1 t) noFill_tuple_mul F.fills_int_mul F.slot_int_rmul repeat_tuple F.slot_int_index.lookup
        (call_meets F.slot_int_rmul (typeIs_int s 1 t) F.entry_int_rmul (F.args_int_rmul_2 _ _) (int_rmul_tuple 1 t l its.toArray n dd sl)
          ⟨ho, rfl, ⟨_, ho, rfl⟩, call_meets F.slot_tuple_mul ⟨_, ho, rfl⟩ F.entry_tuple_mul (F.args_tuple_mul_2 _ _) (tupM1 l its.toArray n dd sl t hi) ⟨ho, ?_⟩⟩)
      exact ⟨.ref l, H, I, rfl, q l H (Same.refl _) (by rw [ha]; simp)⟩
theorem op_repNK {X : Cx} (K0 : PySem.W.Frag) (hK : X.K = K0) : OpR X (binaryOp .Mult) (rRepN K0) := hK ▸ op_repN
end DLR
namespace DLR
open PySem PySem.Spec PyProof.Rows L2
def tCut (t : TS) : TS := fun D σ H => t { D with nx := fun _ _ => False } σ H
theorem pss_cut {X : Cx} {st : Stmt} {rest : List Stmt} {t : TS} (h1 : PS X st t) : PSs X (st :: rest) (tCut t) := by
  refine ⟨fun pins s σ H D I h => ?_⟩
  refine wpAny_execs_cons (thn (h1.run pins s σ H { D with nx := fun _ _ => False } I h) fun f s1 q => ?_)
  cases f with
  | next =>
    obtain ⟨σ', H', I', q⟩ := q
    exact (show False from q).elim
  | ret v => exact q
  | brk => exact q
  | cont => exact q
end DLR
namespace DL
open PySem PySem.Spec L2 DLR
theorem FnOk.or {P : Program} {w : World} {K : Frg} {mg : Str → Option Value} {base : Heap} {CX : CXT} {k : Nat} {f : Addr} {fd : FuncData} {ps : List Str} {sp sp' : Sp} (F : FnOk P w K mg base CX k f fd ps sp) (G : FnOk P w K mg base CX k f fd ps sp') :
    FnOk P w K mg base CX k f fd ps (fun vs H Q E => sp vs H Q E ∨ sp' vs H Q E) :=
  ⟨fun vs H Q E h => h.elim (F.len vs H Q E) (G.len vs H Q E), fun A outer s H args us vs Q E hr e0 hb hv h => h.elim (F.run A outer s H args us vs Q E hr e0 hb hv) (G.run A outer s H args us vs Q E hr e0 hb hv)⟩
theorem FnOk.up {P : Program} {w : World} {K : Frg} {mg : Str → Option Value} {base : Heap} {k : Nat} {f : Addr} {fd : FuncData} {ps : List Str} {sp : Sp} (F : FnOk P w K mg base CX0 k f fd ps sp) : FnOk P w K mg base (L2.CX P w) k f fd ps sp :=
  ⟨F.len, fun A outer s H args us vs Q E hr e0 hb hv h => codeAny_mono (F.run A outer s H args us vs Q E hr e0 hb hv h) fun r s' q => by
    cases r with
    | error e => exact (show False from q).elim
    | ok fl => cases fl with
      | ret u => exact q
      | next => exact q
      | brk => exact q
      | cont => exact q⟩
/-! ### a program, a laying as data -/
theorem at_ints {H : Hp} : ∀ ws : List Int, Ats H (ws.map V.int) (ws.map D.int)
  | [] => by simp [Ats]
  | x :: ws => by
    have q := at_ints (H := H) ws
    show Ats H (.int x :: ws.map V.int) (.int x :: ws.map D.int)
    simp only [Ats, At]
    first | exact ⟨rfl, q⟩ | exact ⟨trivial, q⟩
theorem at_args {H : Hp} (r : Row) : Ats H (rowVs r) (.str r.word :: argsD r) := by
  cases r <;> simp [Ats, At, rowVs, argsD, Row.word, nI]
theorem at_rows {H : Hp} {bs : List Addr} {rs : List Row} (h : RowsAt H bs rs) : Ats H (bs.map V.ref) (rs.map rowDD) := by
  induction h with
  | nil => simp [Ats]
  | @cons b r bs rs h t ih =>
    simp only [List.map_cons, Ats]
    refine ⟨?_, ih⟩
    unfold rowDD
    simp only [At]
    exact ⟨b, _, rfl, h, at_args r⟩
theorem prog_dd {H : Hp} {a : Addr} {p : Prog} (h : ProgAt H a p) : At H (.ref a) (progDD p) := by
  obtain ⟨wa, ra, bs, h1, h2, h3, h4⟩ := h
  unfold progDD
  simp only [At]
  refine ⟨a, _, rfl, h1, ?_⟩
  simp only [Ats, At]
  exact ⟨⟨wa, _, rfl, h2, at_ints _⟩, ⟨ra, _, rfl, h3, at_rows h4⟩, trivial⟩
theorem rowF_dd {W N : Nat} {r : Row} (h : r.ok W N) : rowF W N (rowDD r) = none := by
  have hs : shapeF (rowDD r) = true := by
    show (match partsOf r.word with
      | some ps => decide ((argsD r).length = ps.length) && (argsD r).all D.num
      | none => false) = true
    rw [partsOf_row r]
    cases r <;> rfl
  unfold rowF
  rw [if_pos hs]
  show argsF W N ((partsOf r.word).getD []) (argsD r) = none
  rw [partsOf_row r]
  have nw : ¬ (("next" : Str) = "worth") := by decide +kernel
  have w1 : ∀ {x : Nat} {ns : List Str} {ds : List D}, x < W → argsF W N ("worth" :: ns) (.int (x : Int) :: ds) = argsF W N ns ds := fun {x ns ds} hx => by
    show (if 0 ≤ (x : Int) ∧ (x : Int) < (if ("worth" : Str) = "worth" then (W : Int) else (N : Int)) then argsF W N ns ds else _) = _
    rw [if_pos rfl, if_pos ⟨by omega, by omega⟩]
  have n1 : ∀ {x : Nat} {ns : List Str} {ds : List D}, x < N → argsF W N ("next" :: ns) (.int (x : Int) :: ds) = argsF W N ns ds := fun {x ns ds} hx => by
    show (if 0 ≤ (x : Int) ∧ (x : Int) < (if ("next" : Str) = "worth" then (W : Int) else (N : Int)) then argsF W N ns ds else _) = _
    rw [if_neg nw, if_pos ⟨by omega, by omega⟩]
  have z : ∀ ns, argsF W N ns [] = none := fun ns => by cases ns <;> rfl
  cases r with
  | load a b => obtain ⟨h1, h2⟩ : a < W ∧ b < N := h; exact (w1 h1).trans ((n1 h2).trans (z _))
  | add a b => obtain ⟨h1, h2⟩ : a < W ∧ b < N := h; exact (w1 h1).trans ((n1 h2).trans (z _))
  | take a b => obtain ⟨h1, h2⟩ : a < W ∧ b < N := h; exact (w1 h1).trans ((n1 h2).trans (z _))
  | store a b => obtain ⟨h1, h2⟩ : a < W ∧ b < N := h; exact (w1 h1).trans ((n1 h2).trans (z _))
  | say b => have h2 : b < N := h; exact (n1 h2).trans (z _)
  | test a b => obtain ⟨h1, h2⟩ : a < N ∧ b < N := h; exact (n1 h1).trans ((n1 h2).trans (z _))
  | stop => exact z _
theorem rowsF_dd {W N : Nat} : ∀ {rs : List Row} {i : Nat}, (∀ r ∈ rs, r.ok W N) → rowsF W N i (rs.map rowDD) = none
  | [], _, _ => rfl
  | r :: rs, i, h => by
    show (match rowF W N (rowDD r) with | some y => some (i, y) | none => rowsF W N (i + 1) (rs.map rowDD)) = none
    rw [rowF_dd (h r List.mem_cons_self)]
    exact rowsF_dd fun x hx => h x (List.mem_cons_of_mem _ hx)
theorem betw_all {lo hi : Int} {ws : List Int} (h : ∀ x ∈ ws, lo ≤ x ∧ x ≤ hi) : (ws.map D.int).all (D.betw lo hi) = true := by
  refine List.all_eq_true.mpr fun d hd => ?_
  obtain ⟨x, hx, rfl⟩ := List.mem_map.mp hd
  obtain ⟨a, b⟩ := h x hx
  exact Bool.and_eq_true_iff.mpr ⟨decide_eq_true a, decide_eq_true b⟩
theorem progF_dd {p : Prog} (g : Good p) : progF (progDD p) = none := by
  have hw : worthsF (.tup (p.ws.map D.int)) = none := by
    show (if (p.ws.map D.int).length ≤ 8 then (if (p.ws.map D.int).all (D.betw (-1000000) 1000000) = true then none else some ("number" : Str)) else some "worths") = none
    rw [List.length_map, if_pos g.w8, if_pos (betw_all g.num)]
  show (match worthsF (.tup (p.ws.map D.int)) with
    | some y => some ((-1 : Int), y)
    | none => if lenD (progDD p) = 2 ∧ 1 ≤ (p.rows.map rowDD).length ∧ (p.rows.map rowDD).length ≤ 40 then (rowsF (p.ws.map D.int).length (p.rows.map rowDD).length 0 (p.rows.map rowDD)).map fun q => ((q.1 : Int), q.2) else some (-1, "rows")) = none
  rw [hw]
  have e : (p.rows.map rowDD).length = p.rows.length := List.length_map _
  show (if lenD (progDD p) = 2 ∧ 1 ≤ (p.rows.map rowDD).length ∧ (p.rows.map rowDD).length ≤ 40 then (rowsF (p.ws.map D.int).length (p.rows.map rowDD).length 0 (p.rows.map rowDD)).map fun q => ((q.1 : Int), q.2) else some ((-1 : Int), ("rows" : Str))) = none
  rw [if_pos ⟨rfl, by rw [e]; exact g.r1, by rw [e]; exact g.r40⟩, e, List.length_map, rowsF_dd g.ok]
  rfl
theorem fit_ints {ns : List Int} (h : ns.length ≤ 100000) : (DL.D.tup (ns.map .int)).fit := by
  simp only [D.fit]
  refine ⟨by rw [List.length_map]; exact h, fitL_iff.mpr fun x hx => ?_⟩
  obtain ⟨i, _, rfl⟩ := List.mem_map.mp hx
  simp [D.fit]
theorem fit_row (r : Row) : (rowDD r).fit := by
  unfold rowDD
  cases r <;> simp [D.fit, fitL, argsD]
theorem progDD_fit {p : Prog} (g : Good p) : (progDD p).fit := by
  have r40 := g.r40
  have w8 := g.w8
  unfold progDD
  simp only [D.fit, fitL]
  refine ⟨by show 2 ≤ 100000; decide, ?_, ?_, trivial⟩
  · have := fit_ints (ns := p.ws) (by omega)
    simpa only [D.fit] using this
  · refine ⟨by rw [List.length_map]; omega, fitL_iff.mpr fun x hx => ?_⟩
    obtain ⟨r, _, rfl⟩ := List.mem_map.mp hx
    exact fit_row r
end DL
namespace DL
open PySem PySem.Spec L2 DLR
/-! ### the doors: what is handed a program, a laying or a width refuses what is none -/
abbrev sBeatsX : Stmt := top 58
abbrev sCostsX : Stmt := top 51
abbrev sSpunX : Stmt := top 73
abbrev sTracksX : Stmt := top 75
abbrev sImageX : Stmt := top 76
abbrev sLoopBeatsX : Stmt := top 99
abbrev sLoopsX : Stmt := top 98
abbrev sRunX : Stmt := top 35
abbrev sWrittenX : Stmt := top 101
abbrev sCheckWGX : Stmt := top 53
abbrev sBestX : Stmt := top 62
abbrev sBoundX : Stmt := top 81
abbrev sPaperX : Stmt := top 91
abbrev sUInitX : Stmt := inClass (top 72) 0
abbrev FBeatsX (K : Frg) (mg : Str → Option Value) := Fd K mg "beats" sBeatsX ["program", "laying", "goes"]
abbrev FCostsX (K : Frg) (mg : Str → Option Value) := Fd K mg "costs" sCostsX ["program", "laying"]
abbrev FSpunX (K : Frg) (mg : Str → Option Value) := Fd K mg "spun" sSpunX ["program", "laying", "fuel"]
abbrev FTracksX (K : Frg) (mg : Str → Option Value) := Fd K mg "tracks" sTracksX ["program", "laying"]
abbrev FImageX (K : Frg) (mg : Str → Option Value) := Fd K mg "image" sImageX ["program", "laying"]
abbrev FLoopBeatsX (K : Frg) (mg : Str → Option Value) := Fd K mg "loop_beats" sLoopBeatsX ["program", "laying"]
abbrev FLoopsX (K : Frg) (mg : Str → Option Value) := Fd K mg "loops" sLoopsX ["program"]
abbrev FRunX (K : Frg) (mg : Str → Option Value) := Fd K mg "run" sRunX ["program", "fuel"]
abbrev FWrittenX (K : Frg) (mg : Str → Option Value) := Fd K mg "written" sWrittenX ["program"]
abbrev FCheckWGX (K : Frg) (mg : Str → Option Value) := Fd K mg "check_wide_and_goes" sCheckWGX ["program", "wide", "goes"]
abbrev FBestX (K : Frg) (mg : Str → Option Value) := Fd K mg "best" sBestX ["program", "wide", "goes"]
abbrev FBoundX (K : Frg) (mg : Str → Option Value) := Fd K mg "bound" sBoundX ["program", "wide", "goes", "told"]
abbrev FPaperX (K : Frg) (mg : Str → Option Value) := Fd K mg "paper" sPaperX ["program", "wide", "goes"]
def spDoor1 (BP : Addr) (n : Nat) : Sp := fun vs H Q E => ∃ (v : V) (us : List V) (d : D) (r : Int) (y : Str), vs = v :: us ∧ us.length = n ∧ At H v d ∧ d.fit ∧ progF d = some (r, y) ∧ BadP BP H E r y
def spDoor2 (BP BL : Addr) (n : Nat) : Sp := fun vs H Q E => ∃ (v u : V) (us : List V) (d : D), vs = v :: u :: us ∧ us.length = n ∧ At H v d ∧ d.fit ∧ (∀ r y, progF d = some (r, y) → BadP BP H E r y) ∧
  (progF d = none → ∃ (e : D) (p : Prog) (y : Str) (r : Int), d = progDD p ∧ Good p ∧ At H u e ∧ e.fit ∧ layF p e = some (y, r) ∧ BadY BL H E y r)
def spDoorW (BP BL : Addr) (n : Nat) : Sp := fun vs H Q E => ∃ (v u : V) (us : List V) (d : D), vs = v :: u :: us ∧ us.length = n ∧ At H v d ∧ d.fit ∧ (∀ r y, progF d = some (r, y) → BadP BP H E r y) ∧
  (progF d = none → ∃ (e : D) (y : Str) (r : Int), At H u e ∧ wideF e = some (y, r) ∧ BadY BL H E y r)
def spDoor2T (BP BL : Addr) : Sp := fun vs H Q E => ∃ (z : V) (ws : List V), vs = z :: ws ∧ spDoor2 BP BL 0 ws H Q E
def spFuelX (BF : Addr) : Sp := fun vs H Q E => ∃ n : Int, vs = [.int n] ∧ ¬ (0 ≤ n ∧ n ≤ 5000) ∧ E (.ref BF) none H
def spReeledX (BF : Addr) : Sp := fun vs H Q E => ∃ (v : V) (n : Int), vs = [v, .int n] ∧ ¬ (0 ≤ n ∧ n ≤ 5000) ∧ E (.ref BF) none H
theorem scBeatsX : FnScope ["program", "laying", "goes"] ["program", "laying", "goes"] (defScope sBeatsX) := ⟨rfl, rfl, rfl, by decide +kernel, rfl, by decide +kernel, by decide +kernel⟩
theorem scCostsX : FnScope ["program", "laying"] ["program", "laying"] (defScope sCostsX) := ⟨rfl, rfl, rfl, by decide +kernel, rfl, by decide +kernel, by decide +kernel⟩
theorem scSpunX : FnScope ["program", "laying", "fuel", "drum"] ["program", "laying", "fuel"] (defScope sSpunX) := ⟨rfl, rfl, rfl, by decide +kernel, rfl, by decide +kernel, by decide +kernel⟩
theorem scTracksX : FnScope ["program", "laying"] ["program", "laying"] (defScope sTracksX) := ⟨rfl, rfl, rfl, by decide +kernel, rfl, by decide +kernel, by decide +kernel⟩
theorem scImageX : FnScope ["program", "laying"] ["program", "laying"] (defScope sImageX) := ⟨rfl, rfl, rfl, by decide +kernel, rfl, by decide +kernel, by decide +kernel⟩
theorem scLoopBeatsX : FnScope ["program", "laying"] ["program", "laying"] (defScope sLoopBeatsX) := ⟨rfl, rfl, rfl, by decide +kernel, rfl, by decide +kernel, by decide +kernel⟩
theorem scLoopsX : FnScope ["program"] ["program"] (defScope sLoopsX) := ⟨rfl, rfl, rfl, by decide +kernel, rfl, by decide +kernel, by decide +kernel⟩
theorem scRunX : FnScope ["program", "fuel"] ["program", "fuel"] (defScope sRunX) := ⟨rfl, rfl, rfl, by decide +kernel, rfl, by decide +kernel, by decide +kernel⟩
theorem scWrittenX : FnScope ["program"] ["program"] (defScope sWrittenX) := ⟨rfl, rfl, rfl, by decide +kernel, rfl, by decide +kernel, by decide +kernel⟩
theorem scCheckWGX : FnScope ["program", "wide", "goes"] ["program", "wide", "goes"] (defScope sCheckWGX) := ⟨rfl, rfl, rfl, by decide +kernel, rfl, by decide +kernel, by decide +kernel⟩
theorem scBestX : FnScope ["program", "wide", "goes"] ["program", "wide", "goes"] (defScope sBestX) := ⟨rfl, rfl, rfl, by decide +kernel, rfl, by decide +kernel, by decide +kernel⟩
theorem scBoundX : FnScope ["program", "wide", "goes", "told"] ["program", "wide", "goes", "told"] (defScope sBoundX) := ⟨rfl, rfl, rfl, by decide +kernel, rfl, by decide +kernel, by decide +kernel⟩
theorem scPaperX : FnScope ["program", "wide", "goes"] ["program", "wide", "goes"] (defScope sPaperX) := ⟨rfl, rfl, rfl, by decide +kernel, rfl, by decide +kernel, by decide +kernel⟩
theorem scUInitX : FnScope ["self", "program", "laying"] ["self", "program", "laying"] (defScope sUInitX) := ⟨rfl, rfl, rfl, by decide +kernel, rfl, by decide +kernel, by decide +kernel⟩
section
variable {P : Program} {w : World} {K : PySem.W.Frag} {mg : Str → Option Value} {base : Heap} {CP CL : Addr}
theorem ok_doorBeats (c : FBeatsX K mg) (cCheckProgram : FCheckProgram K mg) (cCheckLaying : FCheckLaying K mg)
    (GCP : FnOk P w K mg base (L2.CX P w) 4 cCheckProgram.f cCheckProgram.fd ["program"] (spCheckProgramD CP))
    (GCL : FnOk P w K mg base (L2.CX P w) 5 cCheckLaying.f cCheckLaying.fd ["program", "laying"] (spCheckLayingD CL)) : FnOk P w K mg base (L2.CX P w) 6 c.f c.fd ["program", "laying", "goes"] (spDoor2 CP CL 1) := by
  refine c.F.okX scBeatsX (fun vs H Q E h => ?_) (fun cdv A outer s H vs Q E hr h => ?_)
  · obtain ⟨v, u, us, d, rfl, hl, _⟩ := h
    show us.length + 2 = _
    rw [hl]
    rfl
  · obtain ⟨v, u, us, d, rfl, hl, hv, hf, ke, k⟩ := h
    obtain ⟨x, rfl⟩ : ∃ x, us = [x] := List.length_eq_one_iff.mp hl
    refine ⟨_, pss_cons (ps_expr (pe_call GCP (hr.mono (by first | omega | decide)) (by rfl) cCheckProgram.m cCheckProgram.F.kp cCheckProgram.b .nil (L2.passes_call (takes_of rfl rfl rfl rfl) (fun _ _ _ _ h => h)) (pa_cons (pv 0) pa_nil))) (pss_cut (ps_expr (pe_call GCL (hr.mono (by first | omega | decide)) (by rfl) cCheckLaying.m cCheckLaying.F.kp cCheckLaying.b .nil (L2.passes_call (takes_of rfl rfl rfl rfl) (fun _ _ _ _ h => h)) (pa_cons (pv 0) (pa_cons (pv 1) pa_nil))))), ?_⟩
    refine ⟨_, rfl, v, d, rfl, hv, hf, ke, fun h H1 s1 => ?_⟩
    obtain ⟨e, p, y, r, rfl, g, hu, fe, hy, kb⟩ := k h
    obtain ⟨a, rfl, hP⟩ := prog_at hv
    refine ⟨_, rfl, _, rfl, a, u, p, e, rfl, hP.kp (Kp.same s1), g, At.sm0 s1 e u hu, fe, fun y' r' h' => ?_, fun h' => by rw [hy] at h'; cases h'⟩
    rw [hy] at h'
    cases h'
    exact kb.to s1
theorem ok_doorCosts (c : FCostsX K mg) (cCheckProgram : FCheckProgram K mg) (cCheckLaying : FCheckLaying K mg)
    (GCP : FnOk P w K mg base (L2.CX P w) 4 cCheckProgram.f cCheckProgram.fd ["program"] (spCheckProgramD CP))
    (GCL : FnOk P w K mg base (L2.CX P w) 5 cCheckLaying.f cCheckLaying.fd ["program", "laying"] (spCheckLayingD CL)) : FnOk P w K mg base (L2.CX P w) 6 c.f c.fd ["program", "laying"] (spDoor2 CP CL 0) := by
  refine c.F.okX scCostsX (fun vs H Q E h => ?_) (fun cdv A outer s H vs Q E hr h => ?_)
  · obtain ⟨v, u, us, d, rfl, hl, _⟩ := h
    show us.length + 2 = _
    rw [hl]
    rfl
  · obtain ⟨v, u, us, d, rfl, hl, hv, hf, ke, k⟩ := h
    obtain rfl : us = [] := List.eq_nil_of_length_eq_zero hl
    refine ⟨_, pss_cons (ps_expr (pe_call GCP (hr.mono (by first | omega | decide)) (by rfl) cCheckProgram.m cCheckProgram.F.kp cCheckProgram.b .nil (L2.passes_call (takes_of rfl rfl rfl rfl) (fun _ _ _ _ h => h)) (pa_cons (pv 0) pa_nil))) (pss_cut (ps_expr (pe_call GCL (hr.mono (by first | omega | decide)) (by rfl) cCheckLaying.m cCheckLaying.F.kp cCheckLaying.b .nil (L2.passes_call (takes_of rfl rfl rfl rfl) (fun _ _ _ _ h => h)) (pa_cons (pv 0) (pa_cons (pv 1) pa_nil))))), ?_⟩
    refine ⟨_, rfl, v, d, rfl, hv, hf, ke, fun h H1 s1 => ?_⟩
    obtain ⟨e, p, y, r, rfl, g, hu, fe, hy, kb⟩ := k h
    obtain ⟨a, rfl, hP⟩ := prog_at hv
    refine ⟨_, rfl, _, rfl, a, u, p, e, rfl, hP.kp (Kp.same s1), g, At.sm0 s1 e u hu, fe, fun y' r' h' => ?_, fun h' => by rw [hy] at h'; cases h'⟩
    rw [hy] at h'
    cases h'
    exact kb.to s1
theorem ok_doorTracks (c : FTracksX K mg) (cCheckProgram : FCheckProgram K mg) (cCheckLaying : FCheckLaying K mg)
    (GCP : FnOk P w K mg base (L2.CX P w) 4 cCheckProgram.f cCheckProgram.fd ["program"] (spCheckProgramD CP))
    (GCL : FnOk P w K mg base (L2.CX P w) 5 cCheckLaying.f cCheckLaying.fd ["program", "laying"] (spCheckLayingD CL)) : FnOk P w K mg base (L2.CX P w) 6 c.f c.fd ["program", "laying"] (spDoor2 CP CL 0) := by
  refine c.F.okX scTracksX (fun vs H Q E h => ?_) (fun cdv A outer s H vs Q E hr h => ?_)
  · obtain ⟨v, u, us, d, rfl, hl, _⟩ := h
    show us.length + 2 = _
    rw [hl]
    rfl
  · obtain ⟨v, u, us, d, rfl, hl, hv, hf, ke, k⟩ := h
    obtain rfl : us = [] := List.eq_nil_of_length_eq_zero hl
    refine ⟨_, pss_cons (ps_expr (pe_call GCP (hr.mono (by first | omega | decide)) (by rfl) cCheckProgram.m cCheckProgram.F.kp cCheckProgram.b .nil (L2.passes_call (takes_of rfl rfl rfl rfl) (fun _ _ _ _ h => h)) (pa_cons (pv 0) pa_nil))) (pss_cut (ps_expr (pe_call GCL (hr.mono (by first | omega | decide)) (by rfl) cCheckLaying.m cCheckLaying.F.kp cCheckLaying.b .nil (L2.passes_call (takes_of rfl rfl rfl rfl) (fun _ _ _ _ h => h)) (pa_cons (pv 0) (pa_cons (pv 1) pa_nil))))), ?_⟩
    refine ⟨_, rfl, v, d, rfl, hv, hf, ke, fun h H1 s1 => ?_⟩
    obtain ⟨e, p, y, r, rfl, g, hu, fe, hy, kb⟩ := k h
    obtain ⟨a, rfl, hP⟩ := prog_at hv
    refine ⟨_, rfl, _, rfl, a, u, p, e, rfl, hP.kp (Kp.same s1), g, At.sm0 s1 e u hu, fe, fun y' r' h' => ?_, fun h' => by rw [hy] at h'; cases h'⟩
    rw [hy] at h'
    cases h'
    exact kb.to s1
theorem ok_doorImage (c : FImageX K mg) (cCheckProgram : FCheckProgram K mg) (cCheckLaying : FCheckLaying K mg)
    (GCP : FnOk P w K mg base (L2.CX P w) 4 cCheckProgram.f cCheckProgram.fd ["program"] (spCheckProgramD CP))
    (GCL : FnOk P w K mg base (L2.CX P w) 5 cCheckLaying.f cCheckLaying.fd ["program", "laying"] (spCheckLayingD CL)) : FnOk P w K mg base (L2.CX P w) 6 c.f c.fd ["program", "laying"] (spDoor2 CP CL 0) := by
  refine c.F.okX scImageX (fun vs H Q E h => ?_) (fun cdv A outer s H vs Q E hr h => ?_)
  · obtain ⟨v, u, us, d, rfl, hl, _⟩ := h
    show us.length + 2 = _
    rw [hl]
    rfl
  · obtain ⟨v, u, us, d, rfl, hl, hv, hf, ke, k⟩ := h
    obtain rfl : us = [] := List.eq_nil_of_length_eq_zero hl
    refine ⟨_, pss_cons (ps_expr (pe_call GCP (hr.mono (by first | omega | decide)) (by rfl) cCheckProgram.m cCheckProgram.F.kp cCheckProgram.b .nil (L2.passes_call (takes_of rfl rfl rfl rfl) (fun _ _ _ _ h => h)) (pa_cons (pv 0) pa_nil))) (pss_cut (ps_expr (pe_call GCL (hr.mono (by first | omega | decide)) (by rfl) cCheckLaying.m cCheckLaying.F.kp cCheckLaying.b .nil (L2.passes_call (takes_of rfl rfl rfl rfl) (fun _ _ _ _ h => h)) (pa_cons (pv 0) (pa_cons (pv 1) pa_nil))))), ?_⟩
    refine ⟨_, rfl, v, d, rfl, hv, hf, ke, fun h H1 s1 => ?_⟩
    obtain ⟨e, p, y, r, rfl, g, hu, fe, hy, kb⟩ := k h
    obtain ⟨a, rfl, hP⟩ := prog_at hv
    refine ⟨_, rfl, _, rfl, a, u, p, e, rfl, hP.kp (Kp.same s1), g, At.sm0 s1 e u hu, fe, fun y' r' h' => ?_, fun h' => by rw [hy] at h'; cases h'⟩
    rw [hy] at h'
    cases h'
    exact kb.to s1
theorem ok_doorLoopBeats (c : FLoopBeatsX K mg) (cCheckProgram : FCheckProgram K mg) (cCheckLaying : FCheckLaying K mg)
    (GCP : FnOk P w K mg base (L2.CX P w) 4 cCheckProgram.f cCheckProgram.fd ["program"] (spCheckProgramD CP))
    (GCL : FnOk P w K mg base (L2.CX P w) 5 cCheckLaying.f cCheckLaying.fd ["program", "laying"] (spCheckLayingD CL)) : FnOk P w K mg base (L2.CX P w) 6 c.f c.fd ["program", "laying"] (spDoor2 CP CL 0) := by
  refine c.F.okX scLoopBeatsX (fun vs H Q E h => ?_) (fun cdv A outer s H vs Q E hr h => ?_)
  · obtain ⟨v, u, us, d, rfl, hl, _⟩ := h
    show us.length + 2 = _
    rw [hl]
    rfl
  · obtain ⟨v, u, us, d, rfl, hl, hv, hf, ke, k⟩ := h
    obtain rfl : us = [] := List.eq_nil_of_length_eq_zero hl
    refine ⟨_, pss_cons (ps_expr (pe_call GCP (hr.mono (by first | omega | decide)) (by rfl) cCheckProgram.m cCheckProgram.F.kp cCheckProgram.b .nil (L2.passes_call (takes_of rfl rfl rfl rfl) (fun _ _ _ _ h => h)) (pa_cons (pv 0) pa_nil))) (pss_cut (ps_expr (pe_call GCL (hr.mono (by first | omega | decide)) (by rfl) cCheckLaying.m cCheckLaying.F.kp cCheckLaying.b .nil (L2.passes_call (takes_of rfl rfl rfl rfl) (fun _ _ _ _ h => h)) (pa_cons (pv 0) (pa_cons (pv 1) pa_nil))))), ?_⟩
    refine ⟨_, rfl, v, d, rfl, hv, hf, ke, fun h H1 s1 => ?_⟩
    obtain ⟨e, p, y, r, rfl, g, hu, fe, hy, kb⟩ := k h
    obtain ⟨a, rfl, hP⟩ := prog_at hv
    refine ⟨_, rfl, _, rfl, a, u, p, e, rfl, hP.kp (Kp.same s1), g, At.sm0 s1 e u hu, fe, fun y' r' h' => ?_, fun h' => by rw [hy] at h'; cases h'⟩
    rw [hy] at h'
    cases h'
    exact kb.to s1
theorem ok_doorUInit {f : Addr} {fd : FuncData} (F : Fun K "__init__" "Drum.__init__" sUInitX f fd) (cCheckProgram : FCheckProgram K mg) (cCheckLaying : FCheckLaying K mg)
    (GCP : FnOk P w K mg base (L2.CX P w) 4 cCheckProgram.f cCheckProgram.fd ["program"] (spCheckProgramD CP))
    (GCL : FnOk P w K mg base (L2.CX P w) 5 cCheckLaying.f cCheckLaying.fd ["program", "laying"] (spCheckLayingD CL)) : FnOk P w K mg base (L2.CX P w) 6 f fd ["self", "program", "laying"] (spDoor2T CP CL) := by
  refine F.okX scUInitX (fun vs H Q E h => ?_) (fun cdv A outer s H vs Q E hr h => ?_)
  · obtain ⟨z, ws, rfl, v, u, us, d, rfl, hl, _⟩ := h
    show us.length + 3 = _
    rw [hl]
    rfl
  · obtain ⟨z, ws, rfl, v, u, us, d, rfl, hl, hv, hf, ke, k⟩ := h
    obtain rfl : us = [] := List.eq_nil_of_length_eq_zero hl
    refine ⟨_, pss_cons (ps_expr (pe_call GCP (hr.mono (by first | omega | decide)) (by rfl) cCheckProgram.m cCheckProgram.F.kp cCheckProgram.b .nil (L2.passes_call (takes_of rfl rfl rfl rfl) (fun _ _ _ _ h => h)) (pa_cons (pv 1) pa_nil))) (pss_cut (ps_expr (pe_call GCL (hr.mono (by first | omega | decide)) (by rfl) cCheckLaying.m cCheckLaying.F.kp cCheckLaying.b .nil (L2.passes_call (takes_of rfl rfl rfl rfl) (fun _ _ _ _ h => h)) (pa_cons (pv 1) (pa_cons (pv 2) pa_nil))))), ?_⟩
    refine ⟨_, rfl, v, d, rfl, hv, hf, ke, fun h H1 s1 => ?_⟩
    obtain ⟨e, p, y, r, rfl, g, hu, fe, hy, kb⟩ := k h
    obtain ⟨a, rfl, hP⟩ := prog_at hv
    refine ⟨_, rfl, _, rfl, a, u, p, e, rfl, hP.kp (Kp.same s1), g, At.sm0 s1 e u hu, fe, fun y' r' h' => ?_, fun h' => by rw [hy] at h'; cases h'⟩
    rw [hy] at h'
    cases h'
    exact kb.to s1
theorem door_made {CP CL C q dx : Addr} {H : Hp} {Q : VK} {E : XK} (hq : H q = none) (hdx : H dx = none) (v u : V) (d : D) (hv : At H v d) (hf : d.fit) (ke : ∀ r y, progF d = some (r, y) → BadP CP H E r y)
    (k : progF d = none → ∃ (e : D) (p : Prog) (y : Str) (r : Int), d = progDD p ∧ Good p ∧ At H u e ∧ e.fit ∧ layF p e = some (y, r) ∧ BadY CL H E y r) : spDoor2T CP CL [.ref q, v, u] (upd (upd H dx (.own q)) q (.ins C dx [])) Q E := by
  have s1 : Same1 H (upd (upd H dx (.own q)) q (.ins C dx [])) := fun x o e => by rw [upd_ne (ne_of_none e hq), upd_ne (ne_of_none e hdx)]; exact e
  refine ⟨.ref q, _, rfl, v, u, [], d, rfl, rfl, At.sm0 s1 d v hv, hf, fun r y h => (ke r y h).to s1, fun h => ?_⟩
  obtain ⟨e, p, y, r, e1, g, hu, fe, hy, kb⟩ := k h
  exact ⟨e, p, y, r, e1, g, At.sm0 s1 e u hu, fe, hy, kb.to s1⟩
theorem ok_doorSpun (c : FSpunX K mg) {U : Addr} {fi : Addr} {fdi : FuncData} (MKU : Mk K U fi) (bIU : Binds K fdi ["self", "program", "laying"] []) (mU : mg "Drum" = some (.ref U)) (GIU : FnOk P w K mg base (L2.CX P w) 6 fi fdi ["self", "program", "laying"] (spDoor2T CP CL)) : FnOk P w K mg base (L2.CX P w) 8 c.f c.fd ["program", "laying", "fuel"] (spDoor2 CP CL 1) := by
  refine c.F.okX scSpunX (fun vs H Q E h => ?_) (fun cdv A outer s H vs Q E hr h => ?_)
  · obtain ⟨v, u, us, d, rfl, hl, _⟩ := h
    show us.length + 2 = _
    rw [hl]
    rfl
  · obtain ⟨v, u, us, d, rfl, hl, hv, hf, ke, k⟩ := h
    obtain ⟨x, rfl⟩ : ∃ x, us = [x] := List.length_eq_one_iff.mp hl
    refine ⟨_, pss_cut (ps_set (i := 3) scSpunX.nd rfl (Or.inl rfl) (pe_make MKU GIU (hr.mono (by first | omega | decide)) (by rfl) mU bIU .nil (L2.passes_call (takes_of rfl rfl rfl rfl) (fun _ _ _ _ h => h)) (pa_cons (pv 0) (pa_cons (pv 1) pa_nil)))), ?_⟩
    refine ⟨_, rfl, _, rfl, fun q dx hq hdx hne => ?_⟩
    exact door_made hq hdx v u d hv hf ke k
theorem ok_doorLoops (c : FLoopsX K mg) (cCheckProgram : FCheckProgram K mg)
    (GCP : FnOk P w K mg base (L2.CX P w) 4 cCheckProgram.f cCheckProgram.fd ["program"] (spCheckProgramD CP)) : FnOk P w K mg base (L2.CX P w) 5 c.f c.fd ["program"] (spDoor1 CP 0) := by
  refine c.F.okX scLoopsX (fun vs H Q E h => ?_) (fun cdv A outer s H vs Q E hr h => ?_)
  · obtain ⟨v, us, d, r, y, rfl, hl, _⟩ := h
    show us.length + 1 = _
    rw [hl]
    rfl
  · obtain ⟨v, us, d, r, y, rfl, hl, hv, hf, hy, kb⟩ := h
    obtain rfl : us = [] := List.eq_nil_of_length_eq_zero hl
    refine ⟨_, pss_cut (ps_expr (pe_call GCP (hr.mono (by first | omega | decide)) (by rfl) cCheckProgram.m cCheckProgram.F.kp cCheckProgram.b .nil (L2.passes_call (takes_of rfl rfl rfl rfl) (fun _ _ _ _ h => h)) (pa_cons (pv 0) pa_nil))), ?_⟩
    refine ⟨_, rfl, v, d, rfl, hv, hf, fun r' y' h' => ?_, fun h' => by rw [hy] at h'; cases h'⟩
    rw [hy] at h'
    cases h'
    exact kb
theorem ok_doorRun (c : FRunX K mg) (cCheckProgram : FCheckProgram K mg)
    (GCP : FnOk P w K mg base (L2.CX P w) 4 cCheckProgram.f cCheckProgram.fd ["program"] (spCheckProgramD CP)) : FnOk P w K mg base (L2.CX P w) 5 c.f c.fd ["program", "fuel"] (spDoor1 CP 1) := by
  refine c.F.okX scRunX (fun vs H Q E h => ?_) (fun cdv A outer s H vs Q E hr h => ?_)
  · obtain ⟨v, us, d, r, y, rfl, hl, _⟩ := h
    show us.length + 1 = _
    rw [hl]
    rfl
  · obtain ⟨v, us, d, r, y, rfl, hl, hv, hf, hy, kb⟩ := h
    obtain ⟨x, rfl⟩ : ∃ x, us = [x] := List.length_eq_one_iff.mp hl
    refine ⟨_, pss_cut (ps_expr (pe_call GCP (hr.mono (by first | omega | decide)) (by rfl) cCheckProgram.m cCheckProgram.F.kp cCheckProgram.b .nil (L2.passes_call (takes_of rfl rfl rfl rfl) (fun _ _ _ _ h => h)) (pa_cons (pv 0) pa_nil))), ?_⟩
    refine ⟨_, rfl, v, d, rfl, hv, hf, fun r' y' h' => ?_, fun h' => by rw [hy] at h'; cases h'⟩
    rw [hy] at h'
    cases h'
    exact kb
theorem ok_doorWritten (c : FWrittenX K mg) (cCheckProgram : FCheckProgram K mg)
    (GCP : FnOk P w K mg base (L2.CX P w) 4 cCheckProgram.f cCheckProgram.fd ["program"] (spCheckProgramD CP)) : FnOk P w K mg base (L2.CX P w) 5 c.f c.fd ["program"] (spDoor1 CP 0) := by
  refine c.F.okX scWrittenX (fun vs H Q E h => ?_) (fun cdv A outer s H vs Q E hr h => ?_)
  · obtain ⟨v, us, d, r, y, rfl, hl, _⟩ := h
    show us.length + 1 = _
    rw [hl]
    rfl
  · obtain ⟨v, us, d, r, y, rfl, hl, hv, hf, hy, kb⟩ := h
    obtain rfl : us = [] := List.eq_nil_of_length_eq_zero hl
    refine ⟨_, pss_cut (ps_expr (pe_call GCP (hr.mono (by first | omega | decide)) (by rfl) cCheckProgram.m cCheckProgram.F.kp cCheckProgram.b .nil (L2.passes_call (takes_of rfl rfl rfl rfl) (fun _ _ _ _ h => h)) (pa_cons (pv 0) pa_nil))), ?_⟩
    refine ⟨_, rfl, v, d, rfl, hv, hf, fun r' y' h' => ?_, fun h' => by rw [hy] at h'; cases h'⟩
    rw [hy] at h'
    cases h'
    exact kb
theorem ok_doorCheckWG (c : FCheckWGX K mg) (cCheckProgram : FCheckProgram K mg) (cCheckWide : FCheckWide K mg)
    (GCP : FnOk P w K mg base (L2.CX P w) 4 cCheckProgram.f cCheckProgram.fd ["program"] (spCheckProgramD CP))
    (GCW : FnOk P w K mg base (L2.CX P w) 3 cCheckWide.f cCheckWide.fd ["wide"] (spCheckWideD CL)) : FnOk P w K mg base (L2.CX P w) 5 c.f c.fd ["program", "wide", "goes"] (spDoorW CP CL 1) := by
  refine c.F.okX scCheckWGX (fun vs H Q E h => ?_) (fun cdv A outer s H vs Q E hr h => ?_)
  · obtain ⟨v, u, us, d, rfl, hl, _⟩ := h
    show us.length + 2 = _
    rw [hl]
    rfl
  · obtain ⟨v, u, us, d, rfl, hl, hv, hf, ke, k⟩ := h
    obtain ⟨x, rfl⟩ : ∃ x, us = [x] := List.length_eq_one_iff.mp hl
    refine ⟨_, pss_cons (ps_expr (pe_call GCP (hr.mono (by first | omega | decide)) (by rfl) cCheckProgram.m cCheckProgram.F.kp cCheckProgram.b .nil (L2.passes_call (takes_of rfl rfl rfl rfl) (fun _ _ _ _ h => h)) (pa_cons (pv 0) pa_nil))) (pss_cut (ps_expr (pe_call GCW (hr.mono (by first | omega | decide)) (by rfl) cCheckWide.m cCheckWide.F.kp cCheckWide.b .nil (L2.passes_call (takes_of rfl rfl rfl rfl) (fun _ _ _ _ h => h)) (pa_cons (pv 1) pa_nil)))), ?_⟩
    refine ⟨_, rfl, v, d, rfl, hv, hf, ke, fun h H1 s1 => ?_⟩
    obtain ⟨e, y, r, hu, hy, kb⟩ := k h
    refine ⟨_, rfl, u, e, rfl, At.sm0 s1 e u hu, fun y' r' h' => ?_, fun h' => by rw [hy] at h'; cases h'⟩
    rw [hy] at h'
    cases h'
    exact kb.to s1
theorem ok_doorBest (c : FBestX K mg) (cCheckWG : FCheckWGX K mg) (GWG : FnOk P w K mg base (L2.CX P w) 5 cCheckWG.f cCheckWG.fd ["program", "wide", "goes"] (spDoorW CP CL 1)) : FnOk P w K mg base (L2.CX P w) 6 c.f c.fd ["program", "wide", "goes"] (spDoorW CP CL 1) := by
  refine c.F.okX scBestX (fun vs H Q E h => ?_) (fun cdv A outer s H vs Q E hr h => ?_)
  · obtain ⟨v, u, us, d, rfl, hl, _⟩ := h
    show us.length + 2 = _
    rw [hl]
    rfl
  · obtain ⟨v, u, us, d, rfl, hl, hv, hf, ke, k⟩ := h
    obtain ⟨x, rfl⟩ : ∃ x, us = [x] := List.length_eq_one_iff.mp hl
    refine ⟨_, pss_cut (ps_expr (pe_call GWG (hr.mono (by first | omega | decide)) (by rfl) cCheckWG.m cCheckWG.F.kp cCheckWG.b .nil (L2.passes_call (takes_of rfl rfl rfl rfl) (fun _ _ _ _ h => h)) (pa_cons (pv 0) (pa_cons (pv 1) (pa_cons (pv 2) pa_nil))))), ?_⟩
    exact ⟨_, rfl, _, rfl, _, rfl, v, u, _, d, rfl, rfl, hv, hf, ke, k⟩
theorem ok_doorBound (c : FBoundX K mg) (cCheckWG : FCheckWGX K mg) (GWG : FnOk P w K mg base (L2.CX P w) 5 cCheckWG.f cCheckWG.fd ["program", "wide", "goes"] (spDoorW CP CL 1)) : FnOk P w K mg base (L2.CX P w) 6 c.f c.fd ["program", "wide", "goes", "told"] (spDoorW CP CL 2) := by
  refine c.F.okX scBoundX (fun vs H Q E h => ?_) (fun cdv A outer s H vs Q E hr h => ?_)
  · obtain ⟨v, u, us, d, rfl, hl, _⟩ := h
    show us.length + 2 = _
    rw [hl]
    rfl
  · obtain ⟨v, u, us, d, rfl, hl, hv, hf, ke, k⟩ := h
    obtain ⟨x, x2, rfl⟩ : ∃ x x2, us = [x, x2] := by match us, hl with | [x, x2], _ => exact ⟨x, x2, rfl⟩
    refine ⟨_, pss_cut (ps_expr (pe_call GWG (hr.mono (by first | omega | decide)) (by rfl) cCheckWG.m cCheckWG.F.kp cCheckWG.b .nil (L2.passes_call (takes_of rfl rfl rfl rfl) (fun _ _ _ _ h => h)) (pa_cons (pv 0) (pa_cons (pv 1) (pa_cons (pv 2) pa_nil))))), ?_⟩
    exact ⟨_, rfl, _, rfl, _, rfl, v, u, _, d, rfl, rfl, hv, hf, ke, k⟩
theorem ok_doorPaper (c : FPaperX K mg) (cCheckWG : FCheckWGX K mg) (GWG : FnOk P w K mg base (L2.CX P w) 5 cCheckWG.f cCheckWG.fd ["program", "wide", "goes"] (spDoorW CP CL 1)) : FnOk P w K mg base (L2.CX P w) 6 c.f c.fd ["program", "wide", "goes"] (spDoorW CP CL 1) := by
  refine c.F.okX scPaperX (fun vs H Q E h => ?_) (fun cdv A outer s H vs Q E hr h => ?_)
  · obtain ⟨v, u, us, d, rfl, hl, _⟩ := h
    show us.length + 2 = _
    rw [hl]
    rfl
  · obtain ⟨v, u, us, d, rfl, hl, hv, hf, ke, k⟩ := h
    obtain ⟨x, rfl⟩ : ∃ x, us = [x] := List.length_eq_one_iff.mp hl
    refine ⟨_, pss_cut (ps_expr (pe_call GWG (hr.mono (by first | omega | decide)) (by rfl) cCheckWG.m cCheckWG.F.kp cCheckWG.b .nil (L2.passes_call (takes_of rfl rfl rfl rfl) (fun _ _ _ _ h => h)) (pa_cons (pv 0) (pa_cons (pv 1) (pa_cons (pv 2) pa_nil))))), ?_⟩
    exact ⟨_, rfl, _, rfl, _, rfl, v, u, _, d, rfl, rfl, hv, hf, ke, k⟩
theorem ok_fuelX {BF : Addr} (ov : OvK K BF) (mBF : mg "BadFuel" = some (.ref BF)) (c : FCheckFuel K mg) (cIsBetween : FIsBetween K mg) (cIsNumber : FIsNumber K mg) (T : Bt mg) (CF : Cf mg) : FnOk P w K mg base (L2.CX P w) 3 c.f c.fd ["fuel"] (spFuelX BF) := by
  have GIsBetween : FnOk P w K mg base CX0 2 cIsBetween.f cIsBetween.fd ["thing", "low", "high"] spBetweenD := ok_isBetweenD cIsBetween cIsNumber T
  refine c.F.okX scCheckFuel (fun vs H Q E h => ?_) (fun cdv A outer s H vs Q E hr h => ?_)
  · obtain ⟨n, rfl, _⟩ := h
    rfl
  · obtain ⟨n, rfl, hn, k⟩ := h
    refine ⟨_, (pss_one (ps_if (pt_not (pt_val (pe_call GIsBetween (hr.mono (by first | omega | decide)) (by rfl) cIsBetween.m cIsBetween.F.kp cIsBetween.b .nil pass0 (pa_cons (pv 0) (pa_cons pe_int (pa_cons (pe_glob rfl CF.mF relI) pa_nil))))))
          (pss_one (ps_raise rfl (takes_of rfl rfl rfl rfl) (pmk_own PySem.F.excBase_ValueError ov.x mBF ov.k (raises_own ov.b ov.t) rfl)))
          pss_nil)), ?_⟩
    refine ⟨_, rfl, .int n, .int n, 0, 5000, rfl, by simp [At], _, rfl, ?_⟩
    rw [show (DL.D.int n).betw 0 5000 = false by
      show (decide (0 ≤ n) && decide (n ≤ 5000)) = false
      by_cases a : 0 ≤ n
      · by_cases b : n ≤ 5000
        · exact absurd ⟨a, b⟩ hn
        · rw [decide_eq_false b, Bool.and_false]
      · rw [decide_eq_false a, Bool.false_and]]
    refine iteT ?_
    exact k
def spSpunF (BF : Addr) : Sp := fun vs H Q E => ∃ (pa ya : Addr) (p : Prog) (y : Lay) (n : Int), vs = [.ref pa, .ref ya, .int n] ∧ ProgAt H pa p ∧ Good p ∧ LayAt H ya y ∧ LayOk p y ∧ ¬ (0 ≤ n ∧ n ≤ 5000) ∧ ∀ H', Same1 H H' → E (.ref BF) none H'
theorem ok_spunF {BF : Addr} {C0 : Addr} (c : FSpunX K mg) (cCheckFuel : FCheckFuel K mg) {U : Addr} {fi : Addr} {fdi : FuncData} (MKU : Mk K U fi) (bIU : Binds K fdi ["self", "program", "laying"] []) (mU : mg "Drum" = some (.ref U)) (GIU : FnOk P w K mg base CX0 6 fi fdi ["self", "program", "laying"] (spUInit U C0))
    (GF : FnOk P w K mg base (L2.CX P w) 3 cCheckFuel.f cCheckFuel.fd ["fuel"] (spFuelX BF)) : FnOk P w K mg base (L2.CX P w) 8 c.f c.fd ["program", "laying", "fuel"] (spSpunF BF) := by
  refine c.F.okX scSpunX (fun vs H Q E h => ?_) (fun cdv A outer s H vs Q E hr h => ?_)
  · obtain ⟨pa, ya, p, y, n, rfl, _⟩ := h
    rfl
  · obtain ⟨pa, ya, p, y, n, rfl, hP, g, hY, yk, hn, k⟩ := h
    refine ⟨_, pss_cons (ps_set (i := 3) scSpunX.nd rfl (Or.inl rfl) (pe_make MKU GIU (hr.mono (by first | omega | decide)) (by rfl) mU bIU .nil pass0 (pa_cons (pv 0) (pa_cons (pv 1) pa_nil)))) (pss_cut (ps_expr (pe_call GF (hr.mono (by first | omega | decide)) (by rfl) cCheckFuel.m cCheckFuel.F.kp cCheckFuel.b .nil (L2.passes_call (takes_of rfl rfl rfl rfl) (fun _ _ _ _ h => h)) (pa_cons (pv 2) pa_nil)))), ?_⟩
    refine ⟨_, rfl, _, rfl, fun q dx hq hdx hne => ?_⟩
    have nD : ∀ {x o}, H x = some o → (upd (upd H dx (.own q)) q (.ins U dx [])) x = some o := fun e => by rw [upd_ne (ne_of_none e hq), upd_ne (ne_of_none e hdx)]; exact e
    refine ⟨q, dx, pa, ya, p, y, rfl, upd_same, hP.kp (fun x o e => nD e), g, hY.kp (fun x o e => nD e), yk, fun ad aw as_ H1 b1 had haw has D1 => ⟨rfl, ?_⟩⟩
    exact ⟨_, rfl, n, rfl, hn, k H1 fun x o e => b1 x o (ne_of_none e hq) (nD e)⟩
end
end DL
namespace DLR
open PySem PySem.Spec PyProof.Rows L2 LamX
/-! ### lambdas that are called inside a comprehension of the frame that made them -/
section
variable {X : Cx}
theorem pe_lcI {elt tg iter : Expr} {ifs : List Expr} {scope : Scope} {own : List (Str × Nat)} {pos : Pos} {wi : TI} {g : TG} {tt : L2.St → TT} {te : TE} (calm : X.calm = true) (nd : X.N.Nodup) (src : PI X tg iter wi) (blk : BlkOk X.N X.env.scope scope own)
    (Gt : ∀ (s : Shared) (H : Hp) (C : Addr) (cl : List (Str × Addr)) (fp : List Addr), PG (X.blk s H scope (compEnvC scope cl C X.env) fp) tg g)
    (Tt : ∀ (pins : List (Addr × Obj)) (σ : L2.St) (s : Shared) (H : Hp) (C : Addr) (cl : List (Str × Addr)) (fp : List Addr), Inv X pins σ H s → (∀ b ∈ fp, FpOk X pins H b) → PTs (X.blk s H scope (compEnvC scope cl C X.env) fp) ifs (tt σ))
    (Et : ∀ (s : Shared) (H : Hp) (C : Addr) (cl : List (Str × Addr)) (fp : List Addr), PE (X.blk s H scope (compEnvC scope cl C X.env) fp) elt te) (fold : ∀ x, foldedSetIterable iter X.env x = pure x := by intro _; rfl) :
    PE X (.ListComp elt [⟨tg, iter, ifs, 0⟩] scope pos) (fun σ H Q => tLc wi g (tt σ) te (own.map (·.2)) σ H Q) := by
  refine ⟨fun pins s σ H Q I0 rd => ?_⟩
  rw [eval_ListComp]
  have caps : ∀ y ∈ scope.names, y.2 = .free → ∃ c, X.env.cells.lookup y.1 = some c := fun y hy e => (blk.free y hy e).elim (fun k => I0.ok.has _ (.inl k)) fun k => I0.ok.has _ (.inr k)
  refine wpAny_comprehension_free (use := none) rfl fold (closure_ok caps) blk.kind (fun y hy e => by rw [blk.uniq y hy, e]) (thn (src.run pins s σ H _ I0 rd) fun _ _ got => thn got fun _ sI start => ?_)
  obtain ⟨it, fp, tn, J, HI, rfl, II, T, stI, fpI, q⟩ := start
  refine wpAny_newObj_type (newEnv_comp ?_) (Nat.zero_le _)
  have nD : HI sI.heap.objs.size = none := II.hok.fresh (Nat.le_refl _)
  obtain ⟨W, ⟨m0, w0⟩, turn⟩ := q _ nD
  obtain ⟨sL, eL⟩ : ∃ sL : Shared, sL = { sI with heap := sI.heap.push { cls := .type "list", data := .seq ([] : List Value).toArray } } := ⟨_, rfl⟩
  obtain ⟨HL, eH⟩ : ∃ HL : Hp, HL = upd HI sI.heap.objs.size (.lst []) := ⟨_, rfl⟩
  have IL : Inv X pins σ HL sL := by
    rw [eL, eH]
    exact II.laid (t' := sI.toks) (fun b o e => Heap.get?_push_of_some _ e) (Nat.le_refl _) ⟨Nat.zero_le _, [], 0, .nil, Heap.get?_push_size _ rfl⟩
  have keepL : ∀ b o, sI.heap.get? b = some o → sL.heap.get? b = some o := fun b o e => by rw [eL]; exact Heap.get?_push_of_some _ e
  have fpL : ∀ b ∈ fp, FpOk X pins HL b ∧ b < sL.heap.objs.size := fun b hb => by
    obtain ⟨o, e, _⟩ := T.obj _ _ stI b hb
    refine ⟨⟨?_, (fpI b hb).2⟩, Heap.lt_size (keepL b o e)⟩
    rw [eH, upd_ne (Nat.ne_of_lt (Heap.lt_size e))]
    exact (fpI b hb).1
  have IB := block_start IL blk nd fpL
  obtain ⟨cl, ecl⟩ : ∃ cl, cl = cellsFrom (sL.heap.objs.size + 1) scope.names (cloFrom X.env.cells scope.names []) := ⟨_, rfl⟩
  have PGb := Gt sL HL sL.heap.objs.size cl fp
  have PTb := Tt pins σ sL HL sL.heap.objs.size cl fp IL fun b hb => (fpL b hb).1
  have PEb := Et sL HL sL.heap.objs.size cl fp
  rw [ecl] at PGb PTb PEb
  rw [← eL]
  rw [← eH] at w0
  show codeAny _ _ (.compStart _ 0 (.ref it) (.ref sI.heap.objs.size) (compEnvC scope (cellsFrom (sL.heap.objs.size + 1) scope.names (cloFrom X.env.cells scope.names [])) sL.heap.objs.size X.env)) (compPost (model X.prog X.w) X.A X.xe none _ (.ref sI.heap.objs.size) sL.heap.objs.size) { sL with heap := pushCells (sL.heap.push { cls := .type "dict", data := .dict #[] }) scope.names }
  obtain ⟨ce, ece⟩ : ∃ ce, ce = compEnvC scope (cellsFrom (sL.heap.objs.size + 1) scope.names (cloFrom X.env.cells scope.names [])) sL.heap.objs.size X.env := ⟨_, rfl⟩
  have eloc : ce.locals = sL.heap.objs.size := by rw [ece]; rfl
  rw [← ece] at IB PGb PTb PEb ⊢
  obtain ⟨sB, eB⟩ : ∃ sB : Shared, sB = { sL with heap := pushCells (sL.heap.push { cls := .type "dict", data := .dict #[] }) scope.names } := ⟨_, rfl⟩
  rw [← eB] at IB ⊢
  have stB : tn 0 sB.heap := T.keep _ _ _ stI fun b _ o e => by rw [eB]; exact pushCells_keeps _ _ _ _ (Heap.get?_push_of_some _ (keepL b o e))
  have fpB : ∀ {σ' : L2.St} {H' : Hp} {s' : Shared}, Inv (X.blk sL HL scope ce fp) [] σ' H' s' → (∀ b ∈ fp, H' b = none) → ∀ b ∈ fp, FpOk (X.blk sL HL scope ce fp) [] H' b := fun I' n b hb =>
    ⟨n b hb, (I'.ok.exf b hb).1, I'.ok.exfs b hb, .inl hb, fun x c e => (I'.ok.exf b hb).2 x c e, fun p hp => absurd (show p ∈ ([] : List (Addr × Obj)) ++ [] from hp) (by simp)⟩
  refine codeAny_compStart_list ?_ (T.self X.A 0 _ _ _ stB ?_)
  all_goals
    refine compLoop_any (fun n s' => ∃ i H', Inv (X.blk sL HL scope ce fp) [] (wipe σ (own.map (·.2))) H' s' ∧ tn i s'.heap ∧ (∀ b ∈ fp, H' b = none) ∧ W i n H') ?_ m0 ⟨0, HL, IB, stB, fun b hb => (fpL b hb).1.1, w0⟩
    rintro n s1 ⟨i, H1, I1, st1, n1, w1⟩
    rcases turn i n H1 w1 with ⟨stop, fin⟩ | ⟨go, Nx, hNx, step⟩
    · refine thnF (T.done (X.blk sL HL scope ce fp) rfl rfl rfl calm i [] s1 _ H1 (fun _ _ => False) I1 (fpB I1 n1) st1 stop) fun r s2 ⟨hr, I2⟩ => ?_
      subst hr
      have I3 : Inv X pins σ H1 s2 := IL.call' (ch := fp) I2.os I2.base I2.hok I2.bare fun b hb => ⟨(fpL b hb).1.2.2.2.1, (fpL b hb).1.2.1, (fpL b hb).1.2.2.2.2.1, (fpL b hb).1.2.2.2.2.2⟩
      obtain ⟨m, ns, _⟩ := I2.loc
      have free := I2.free
      rw [show (X.blk sL HL scope ce fp).env.locals = sL.heap.objs.size from eloc] at ns free
      obtain ⟨g0, g1, g2, g3, g4, g5⟩ := IL.fpOk (Nat.le_refl _) free
      exact ⟨m, ns, fun h'' sb => ⟨.ref sI.heap.objs.size, H1, I3.turned (t' := s2.toks) (fun b o hb e => (sb.2 b hb).trans e) g0 g1 g3 g4 g5, rfl, fin⟩⟩
    · refine thnF (T.item (X.blk sL HL scope ce fp) rfl rfl rfl calm i [] s1 _ H1 (fun _ _ => False) I1 (fpB I1 n1) st1 go) fun r s2 ⟨u, hr, more⟩ => ?_
      subst hr
      refine thnF more fun _ s3 ⟨x, H3, I3, r3, y3, st3, n3⟩ => ?_
      refine thnF (PGb.run _ s3 _ H3 x u _ (I3.pinned (fpB I3 n3) (T.obj _ _ st3)) r3 (step x H3 y3)) fun _ s4 ⟨σ4, H4, I4, wp4, q4⟩ => ?_
      refine thnF (PTb.run _ s4 σ4 H4 _ I4 q4) fun b s5 ⟨H5, I5, q5⟩ => ?_
      have on : ∀ {s' : Shared} {H' : Hp}, Inv (X.blk sL HL scope ce fp) ([] ++ pinsAt fp s3.heap) σ4 H' s' → Nx H' → ∃ m, m < n ∧ ∃ i H', Inv (X.blk sL HL scope ce fp) [] (wipe σ (own.map (·.2))) H' s' ∧ tn i s'.heap ∧ (∀ b ∈ fp, H' b = none) ∧ W i m H' := fun I' nx => by
        obtain ⟨m', lt, w'⟩ := hNx _ nx
        have pin : ∀ b ∈ fp, ∀ o, s3.heap.get? b = some o → _ := fun b hb o e => I'.pin (b, o) (List.mem_append_right _ (List.mem_append_right _ (mem_pinsAt hb e)))
        refine ⟨m', lt, i + 1, _, (I'.unpinned (pins := [])).weak (by rw [← wp4, wipe_length]) (fun j v e => ?_), T.keep _ _ _ st3 fun b hb o e => (pin b hb o e).1, fun b hb => ?_, w'⟩
        · rw [← wp4] at e
          exact (wipe_some e).1
        · obtain ⟨o, e, _⟩ := T.obj _ _ st3 b hb
          exact (pin b hb o e).2.1
      by_cases hb : b = true
      · subst hb
        rw [if_pos rfl] at q5 ⊢
        refine thnF (PEb.run _ s5 σ4 H5 _ I5 q5) fun z s6 ⟨v6, H6, I6, r6, acc, hD, hz, nx⟩ => ?_
        exact app_ok (X := X.blk sL HL scope ce fp) I6 hD hz r6 fun s7 I7 => on I7 nx
      · dsimp only at q5 ⊢
        rw [if_neg hb] at q5 ⊢
        exact on I5 q5
end
end DLR
namespace DLR
open PySem PySem.Spec PyProof.Rows L2 LamX
theorem CloAt.unX {N : List Str} {cl : List (Str × Addr)} {scope : Scope} {σ : L2.St} {H H' : Hp} {h h' : Heap} {fs ex : List Addr} (C : CloAt N cl scope σ H h) (u : Un fs ex H H' h h') (ne : ∀ y c, cl.lookup y = some c → c ∉ ex) : CloAt N cl scope σ H' h' := by
  have ck : ∀ {y : Str} {c : Addr} {v : Option Value}, cl.lookup y = some c → h.IsCell c v → h'.IsCell c v := fun {y c v} e ⟨o, ho, hd⟩ => by
    obtain ⟨sl, q⟩ := u.any ho (C.cell y c e).1 (ne y c e)
    exact ⟨_, q, hd⟩
  refine ⟨C.len, C.own, C.kind, C.inj, C.has, fun y c e => ?_, fun i y v e1 e2 k => ?_⟩
  · obtain ⟨n, v, o, ho, hd⟩ := C.cell y c e
    exact ⟨u.free c o ho n (ne y c e), v, ck e ⟨o, ho, hd⟩⟩
  · obtain ⟨c, x, h1, h2, r⟩ := C.val i y v e1 e2 k
    exact ⟨c, x, h1, ck h1 h2, r⟩
theorem clo_cells {cells : List (Str × Addr)} {names : List (Str × NameKind)} {y : Str} {c : Addr} (has : ∀ z ∈ names, z.2 = .free → ∃ c, cells.lookup z.1 = some c) (e : (cloFrom cells names []).lookup y = some c) : cells.lookup y = some c := by
  rcases cloFrom_mem (PySem.mem_of_lookup e) with hm | ⟨h1, h2⟩
  · cases hm
  · obtain ⟨c1, hc⟩ := has _ h1 rfl
    have hc : cells.lookup y = some c1 := hc
    rw [h2, hc]
    rfl
section
variable {X : Cx}
def tToldB (X : Cx) (k : Nat) (TT : (XK → Hp → VK → Prop) → Hp → VK → Prop) (te : TE) (σ0 : L2.St) : TE := fun σ H Q => te σ H fun v H1 => ∃ (f c' : Addr) (o : Obj) (scope : Scope) (dT : Option Addr) (t : XK → TE), v = .ref f ∧ H1 c' = some (CodeO c' (X.env.qual ++ "<lambda>")) ∧ LamN X.N X.env.scope scope ∧
  LamP X.prog X.w X.K X.mg X.base X.N (X.env.qual ++ "<lambda>") (cloFrom X.env.cells scope.names []) scope o c' dT k t ∧ TT (fun E H' Q' => H' f = some (LamO f o) ∧ DvAt H' dT ∧ t E σ0 H' Q') H1 Q
theorem pe_toldB {TT : (XK → Hp → VK → Prop) → Hp → VK → Prop} {sb : Shared} {Hb : Hp} {bs : Scope} {ce : Env} {fp : List Addr} {pins0 : List (Addr × Obj)} {σ0 : L2.St} {x a : Str} {g : Addr} {k : Nat} {pg : Arguments} {bg : List Stmt} {sg : Scope} {dV kV doc pm cdv ct oc : Value} {an od : Option Addr} {osl : Array (Option Value)} {Ng : List Str} {e : Expr} {te : TE} {p pos : Pos}
    (I0 : Inv X pins0 σ0 Hb sb) (hfp : ∀ b ∈ fp, FpOk X pins0 Hb b)
    (hg : Gl (X.blk sb Hb bs ce fp) x) (hm : X.mg x = some (.ref g)) (hk : PySem.W.keepIn X.K (.ref g) = true) (lk : X.K.lookup g = some ⟨oc, od, .func (PySem.W.fnOf x x pg bg sg dV kV doc pm an cdv ct), osl⟩) (hcg : PySem.W.codeIn X.K cdv x = true)
    (hb : L2.Binds X.K (PySem.W.fnOf x x pg bg sg dV kV doc pm an cdv ct) [a] []) (Sg : FnScope Ng [a] sg) (hNg : Ng[0]? = some a) (hva : Vis sg a) (hG : GivesTo (X.blk sb Hb bs ce fp) Ng x sg g cdv bg a (X.env.qual ++ "<lambda>") TT) (hr : Room (k + 2) X.A) (he : PE (X.blk sb Hb bs ce fp) e te)
    (hdb : (x == ("__debug__" : Str)) = false := by decide) (hd : (a == ("__debug__" : Str)) = false := by decide) (hcd : (a == ("__classdict__" : Str)) = false := by decide)
    (hs : starEach [e] ce = (false, eval e ce) :: starEach [] ce := by rfl) (hpl : (backTo pos (starEach [] ce)).any (·.1) = false := by rfl) :
    PE (X.blk sb Hb bs ce fp) (.Call (.Name x p) [e] [] pos) (tToldB X k TT te σ0) := by
  refine ⟨fun pins s σ H Q I h => ?_⟩
  refine wpAny_Call_Name_kw (ld_glob I hg hm ?_ hdb)
  have arg := (pa_cons he pa_nil hs).run pos pins s σ H (fun vs H1 => match vs with
    | [v] => ∃ (f c' : Addr) (o : Obj) (scope : Scope) (dT : Option Addr) (t : XK → TE), v = .ref f ∧ H1 c' = some (CodeO c' (X.env.qual ++ "<lambda>")) ∧ LamN X.N X.env.scope scope ∧
      LamP X.prog X.w X.K X.mg X.base X.N (X.env.qual ++ "<lambda>") (cloFrom X.env.cells scope.names []) scope o c' dT k t ∧ TT (fun E H' Q' => H' f = some (LamO f o) ∧ DvAt H' dT ∧ t E σ0 H' Q') H1 Q
    | _ => False) I h
  refine PySem.W.callWith_K (h₀ := X.base) I.ok.mod.kin hk (thn arg fun us s1 ⟨vs, H1, I1, r, q0⟩ => ⟨I1.kIn, ?_⟩) hs hpl
  match vs, r, q0 with
  | [v], r, q0 =>
    obtain ⟨f, c', o, scope, dT, t, rfl, hc, L, LP, q⟩ := q0
    obtain ⟨u, rfl, ru⟩ := r.one
    cases ru
    have C1 : CloAt X.N (cloFrom X.env.cells scope.names []) scope σ0 H1 s1.heap := (CloAt.here I0 L).unX I1.base fun y c e m => (hfp c m).2.2.2.2.1 y c (clo_cells (L.has I0.ok) e) rfl
    have rc : codeAny (model X.prog X.w) X.A (.call (.ref g) ⟨[.ref f], []⟩) (CR C8.CX0 (X.blk sb Hb bs ce fp).stack X.prog X.w H1 s1 Q C8.E0) s1 := by
      refine run_ofS (N := Ng) (ps := [a]) (us := [.ref f]) (vs := [.ref f]) lk hcg Sg hr I1.env0 (hb s1 [.ref f] I1.kIn rfl) (.cons rfl .nil) rfl fun hr' => ?_
      obtain ⟨t', ht', hq'⟩ := hG f c' s1 H1 Q (fun E H' Q' => H' f = some (LamO f o) ∧ DvAt H' dT ∧ t E σ0 H' Q') (fun W pn xe E p1 p2 tk hW => lam_act (X := X.blk sb Hb bs ce fp) (i := 0) C1 LP tk hW hr' hNg hva hd hcd) hc q
      exact ⟨t', ht'.nox, hq'⟩
    refine wpAny_call (codeAny_mono rc fun r s2 hq => ?_)
    cases r with
    | error e => exact (show False from hq).elim
    | ok fl =>
      cases fl with
      | ret u => exact I1.after hq
      | next => exact hq.elim
      | brk => exact hq.elim
      | cont => exact hq.elim
end
end DLR
namespace DLR
open PySem PySem.Spec PyProof.Rows L2 LamX
/-! ### lambdas of a frame that is gone: its cells stand in the heap -/
def CellO (c : Addr) (u : Value) : HO := .ext fun h => h.IsCell c (some u)
theorem cellO_tbl {c : Addr} {u : Value} (ps : Array Value) : CellO c u ≠ .tbl ps := fun z => by unfold CellO at z; cases z
theorem cellO_tup {c : Addr} {u : Value} (ps : List V) : CellO c u ≠ .tup ps := fun z => by unfold CellO at z; cases z
theorem cellO_frz {c : Addr} {u : Value} (o : Obj) (x : HO) : CellO c u ≠ .frz o x := fun z => by unfold CellO at z; cases z
theorem cellO_own {c : Addr} {u : Value} (x : Addr) : CellO c u ≠ .own x := fun z => by unfold CellO at z; cases z
theorem cellO_ok {P : Program} {w : World} {H : Hp} {h : Heap} {c : Addr} {u : Value} (x : h.IsCell c (some u)) : ObjOk P w H h c (CellO c u) := by
  obtain ⟨o, ho, hd⟩ := id x
  exact ⟨x, ⟨o, ho⟩, fun h1 h2 ⟨o, a, b⟩ st => ⟨o, st _ a, b⟩⟩
def wo (CL : List Addr) (H : Hp) : Hp := fun a => if a ∈ CL then none else H a
def wi (CL : List Addr) (H Hc : Hp) : Hp := fun a => if a ∈ CL then Hc a else H a
section
variable {CL : List Addr} {H H' Hc : Hp} {a : Addr} {o : HO}
theorem wo_in (h : a ∈ CL) : wo CL H a = none := by unfold wo; rw [if_pos h]
theorem wo_out (h : a ∉ CL) : wo CL H a = H a := by unfold wo; rw [if_neg h]
theorem wi_in (h : a ∈ CL) : wi CL H Hc a = Hc a := by unfold wi; rw [if_pos h]
theorem wi_out (h : a ∉ CL) : wi CL H Hc a = H a := by unfold wi; rw [if_neg h]
theorem wo_some (h : wo CL H a = some o) : a ∉ CL ∧ H a = some o := by
  by_cases m : a ∈ CL
  · rw [wo_in m] at h; cases h
  · rw [wo_out m] at h; exact ⟨m, h⟩
theorem wo_none (h : H a = none) : wo CL H a = none := by
  by_cases m : a ∈ CL
  · exact wo_in m
  · rw [wo_out m]; exact h
def Cels (CL : List Addr) (H : Hp) : Prop := ∀ c ∈ CL, ∃ u, H c = some (CellO c u)
theorem Cels.out (C : Cels CL H) (h : H a = some o) (n : ∀ u, o ≠ CellO a u) : a ∉ CL := fun m => by
  obtain ⟨u, e⟩ := C a m
  rw [h] at e
  exact n u (Option.some.inj e)
theorem Cels.outN (C : Cels CL H) (h : H a = none) : a ∉ CL := fun m => by
  obtain ⟨u, e⟩ := C a m
  rw [h] at e
  cases e
theorem Cels.same (C : Cels CL H) (s : ∀ b o, H b = some o → (∀ ps, o ≠ .tbl ps) → H' b = some o) : Cels CL H' := fun c m => by
  obtain ⟨u, e⟩ := C c m
  exact ⟨u, s _ _ e cellO_tbl⟩
theorem Cels.wo_at (C : Cels CL H) (h : H a = some o) (n : ∀ u, o ≠ CellO a u) : wo CL H a = some o := by rw [wo_out (C.out h n)]; exact h
theorem Cels.hok {P : Program} {w : World} {h : Heap} (C : Cels CL H) (x : HOk P w H h) : HOk P w (wo CL H) h := fun a o e => by
  obtain ⟨m, e⟩ := wo_some e
  exact (x a o e).stay (fun _ _ _ q => q) (fun b q => C.wo_at q fun u z => cellO_own _ z.symm) fun b xs q => C.wo_at q fun u z => cellO_tup _ z.symm
theorem Cels.cell {P : Program} {w : World} {h : Heap} (C : Cels CL H) (x : HOk P w H h) {c : Addr} (m : c ∈ CL) : ∃ u, H c = some (CellO c u) ∧ h.IsCell c (some u) := by
  obtain ⟨u, e⟩ := C c m
  exact ⟨u, e, (x c _ e).1⟩
theorem Cels.env0 {P : Program} {w : World} {K : PySem.W.Frag} {mg : Str → Option Value} {base : Heap} {A : Around} {outer : List Env} {s : Shared} (C : Cels CL H) (e : Env0 P w K mg base A outer s H) : Env0 P w K mg base A outer s (wo CL H) :=
  ⟨e.frames, e.mod, fun b o h => ⟨(e.bs b o h).1, wo_none (e.bs b o h).2⟩, e.bsz, e.funs, fun b hb => wo_none (e.frf b hb), C.hok e.hok, e.bare⟩
def bQ (CL : List Addr) (Hc : Hp) (Q : VK) : VK := fun v H' => (∀ c ∈ CL, H' c = none) → Q v (wi CL H' Hc)
def bE (CL : List Addr) (Hc : Hp) (E : XK) : XK := fun cls d H' => (∀ c ∈ CL, H' c = none) → E cls d (wi CL H' Hc)
theorem Cels.kp (C : Cels CL H) : ∀ a xs, H a = some (.tup xs) → wo CL H a = some (.tup xs) := fun a xs h => C.wo_at h fun u z => cellO_tup _ z.symm
theorem wi_same (s : ∀ b o, wo CL H b = some o → H' b = some o) : ∀ b o, H b = some o → wi CL H' H b = some o := fun b o h => by
  by_cases m : b ∈ CL
  · rw [wi_in m]; exact h
  · rw [wi_out m]; exact s b o (by rw [wo_out m]; exact h)
theorem wi_at {a : Addr} {o : HO} (f : ∀ c ∈ CL, H' c = none) (h : H' a = some o) : wi CL H' H a = some o := by
  have n : a ∉ CL := fun m => by rw [f a m] at h; cases h
  rw [wi_out n]; exact h
theorem hok_wi {P : Program} {w : World} {h : Heap} {H' : Hp} (k : HOk P w H' h) (f : ∀ c ∈ CL, H' c = none) (g : ∀ c ∈ CL, ∃ u, H c = some (CellO c u) ∧ h.IsCell c (some u)) : HOk P w (wi CL H' H) h := fun a o e => by
  by_cases m : a ∈ CL
  · rw [wi_in m] at e
    obtain ⟨u, e', x⟩ := g a m
    rw [e'] at e
    cases e
    exact cellO_ok x
  · rw [wi_out m] at e
    have st : ∀ b o, H' b = some o → wi CL H' H b = some o := fun b o q => by
      have n : b ∉ CL := fun m => by rw [f b m] at q; cases q
      rw [wi_out n]; exact q
    exact (k a o e).stay (fun _ _ _ q => q) (fun b q => st b _ q) fun b xs q => st b _ q
theorem ce_wi {P : Program} {w : World} {outer : List Env} {s s' : Shared} {Q : VK} {u : Value} (C : Cels CL H) (hok : HOk P w H s.heap) (h : CE outer P w (wo CL H) s (bQ CL H Q) u s') : CE outer P w H s Q u s' := by
  obtain ⟨v, H', os, bare, un, hk, r, q⟩ := h
  have cl : ∀ c ∈ CL, ∃ u, H c = some (CellO c u) ∧ s'.heap.IsCell c (some u) ∧ H' c = none := fun c m => by
    obtain ⟨u, e, ob, ho, hd⟩ := C.cell hok m
    obtain ⟨sl, q⟩ := un.any ho (wo_in m) (by simp)
    exact ⟨u, e, ⟨_, q, hd⟩, un.free c ob ho (wo_in m) (by simp)⟩
  have f : ∀ c ∈ CL, H' c = none := fun c m => (cl c m).choose_spec.2.2
  have st : ∀ {b o}, H' b = some o → wi CL H' H b = some o := fun {b o} q => by
    have n : b ∉ CL := fun m => by rw [f b m] at q; cases q
    rw [wi_out n]; exact q
  refine ⟨v, wi CL H' H, os, bare, ⟨fun b o e n hb hx => un.keep b o e (wo_none n) hb hx, fun b o e n hb hx => un.slot b o e (wo_none n) hb hx, fun b o e n hx => ?_, fun b o e hx => un.there b o e hx,
    fun b xs e => st (un.tups b xs (C.wo_at e fun u z => cellO_tup _ z.symm)), fun b o x e => st (un.frzs b o x (C.wo_at e fun u z => cellO_frz _ _ z.symm)), fun b ps e => ?_⟩, hok_wi hk f fun c m => ?_, r, q f⟩
  · rw [wi_out (C.outN n)]
    exact un.free b o e (wo_none n) hx
  · obtain ⟨more, q⟩ := un.tbls b ps (C.wo_at e fun u z => cellO_tbl _ z.symm)
    exact ⟨more, st q⟩
  · obtain ⟨u, e, x, _⟩ := cl c m
    exact ⟨u, e, x⟩
theorem cx_wi {P : Program} {w : World} {outer : List Env} {s s' : Shared} {E : XK} {u : Value} (C : Cels CL H) (hok : HOk P w H s.heap) (frf : ∀ b ∈ frs outer, H b = none) (h : L2.CX P w outer (wo CL H) s (bE CL H E) u s') : L2.CX P w outer H s E u s' := by
  obtain ⟨a, B, H', cls, d, rfl, fl, hk, ub, na, os, ag, hE⟩ := h
  have cl : ∀ c ∈ CL, ∃ u, H c = some (CellO c u) ∧ B.IsCell c (some u) ∧ H' c = none := fun c m => by
    obtain ⟨u, e, ob, ho, hd⟩ := C.cell hok m
    have nf : c ∉ frs outer := fun z => by
      have q := frf c z
      rw [e] at q; cases q
    exact ⟨u, e, ⟨_, ub.keep c ob ho (wo_in m) nf, hd⟩, ub.free c ob ho (wo_in m)⟩
  have f : ∀ c ∈ CL, H' c = none := fun c m => (cl c m).choose_spec.2.2
  have st : ∀ {b o}, H' b = some o → wi CL H' H b = some o := fun {b o} q => by
    have n : b ∉ CL := fun m => by rw [f b m] at q; cases q
    rw [wi_out n]; exact q
  have na' : a ∉ CL := fun m => by
    obtain ⟨u, _, ⟨o, ho, _⟩, _⟩ := cl a m
    have q := fl.2.1
    rw [ho] at q; cases q
  refine ⟨a, B, wi CL H' H, cls, d, rfl, fl, hok_wi hk f fun c m => ?_, ⟨fun b o e n hb => ub.keep b o e (wo_none n) hb, ub.slot, fun b o e n => ?_, ub.there,
    fun b xs e => st (ub.tups b xs (C.wo_at e fun u z => cellO_tup _ z.symm)), fun b o x e => st (ub.frzs b o x (C.wo_at e fun u z => cellO_frz _ _ z.symm)), fun b ps e => ?_⟩, by rw [wi_out na']; exact na, os, ag, hE f⟩
  · obtain ⟨u, e, x, _⟩ := cl c m
    exact ⟨u, e, x⟩
  · rw [wi_out (C.outN n)]
    exact ub.free b o e (wo_none n)
  · obtain ⟨more, q⟩ := ub.tbls b ps (C.wo_at e fun u z => cellO_tbl _ z.symm)
    exact ⟨more, st q⟩
end
/-! ### what the frame leaves -/
def clA (N : List Str) (CM : List (Str × Addr)) : List Addr := N.filterMap fun y => CM.lookup y
theorem mem_clA {N : List Str} {CM : List (Str × Addr)} {c : Addr} : c ∈ clA N CM ↔ ∃ y ∈ N, CM.lookup y = some c := by
  unfold clA
  rw [List.mem_filterMap]
structure CloH (N : List Str) (CM : List (Str × Addr)) (σ : L2.St) (H : Hp) : Prop where
  len : σ.length = N.length
  nd : N.Nodup
  inj : ∀ x y c, CM.lookup x = some c → CM.lookup y = some c → x = y
  cell : ∀ y c, CM.lookup y = some c → ∃ (i : Nat) (v : V) (u : Value), N[i]? = some y ∧ σ[i]? = some (some v) ∧ L2.RelV v u ∧ H c = some (CellO c u)
theorem CloH.cels {N : List Str} {CM : List (Str × Addr)} {σ : L2.St} {H : Hp} (C : CloH N CM σ H) : Cels (clA N CM) H := fun c m => by
  obtain ⟨y, _, e⟩ := mem_clA.mp m
  obtain ⟨i, v, u, _, _, _, h⟩ := C.cell y c e
  exact ⟨u, h⟩
theorem CloH.keep {N : List Str} {CM : List (Str × Addr)} {σ : L2.St} {H H' : Hp} (C : CloH N CM σ H) (s : ∀ b o, H b = some o → (∀ ps, o ≠ .tbl ps) → (∀ xs, o ≠ .lst xs) → H' b = some o) : CloH N CM σ H' :=
  ⟨C.len, C.nd, C.inj, fun y c e => by
    obtain ⟨i, v, u, h1, h2, h3, h4⟩ := C.cell y c e
    exact ⟨i, v, u, h1, h2, h3, s _ _ h4 cellO_tbl fun xs z => by unfold CellO at z; cases z⟩⟩
structure LamK (N : List Str) (CM : List (Str × Addr)) (scope : Scope) (cl : List (Str × Addr)) : Prop where
  own : ∀ y ∈ scope.names, y.2 ≠ .cell ∧ (y.2 = .local → y.1 ∉ N)
  kind : scope.kind = .function
  has : ∀ y, scope.names.lookup y = some .free → ∃ c, cl.lookup y = some c
  sub : ∀ y c, cl.lookup y = some c → CM.lookup y = some c
theorem LamK.of {X : Cx} {scope : Scope} (ok : X.Ok) (L : LamN X.N X.env.scope scope) : LamK X.N X.env.cells scope (cloFrom X.env.cells scope.names []) := by
  have hfree := L.has ok
  exact ⟨L.own, L.kind, fun y hl => mem_lookup (cloFrom_has (cells := X.env.cells) (acc := []) (PySem.mem_of_lookup hl)), fun y c e => clo_cells hfree e⟩
theorem LamK.at {P : Program} {w : World} {N : List Str} {CM cl : List (Str × Addr)} {scope : Scope} {σ : L2.St} {H : Hp} {h : Heap} (L : LamK N CM scope cl) (C : CloH N CM σ H) (hok : HOk P w H h) : CloAt N cl scope σ (wo (clA N CM) H) h := by
  have mem : ∀ {y c}, CM.lookup y = some c → c ∈ clA N CM := fun {y c} e => by
    obtain ⟨i, v, u, h1, _⟩ := C.cell y c e
    exact mem_clA.mpr ⟨y, List.mem_of_getElem? h1, e⟩
  refine ⟨C.len, L.own, L.kind, fun x y c a b => C.inj x y c (L.sub _ _ a) (L.sub _ _ b), L.has, fun y c e => ?_, fun i y v e1 e2 k => ?_⟩
  · have e := L.sub _ _ e
    refine ⟨wo_in (mem e), ?_⟩
    obtain ⟨u, _, x⟩ := C.cels.cell hok (mem e)
    exact ⟨_, x⟩
  · obtain ⟨c, hc⟩ := L.has y k
    have e := L.sub _ _ hc
    obtain ⟨j, v', u, h1, h2, h3, h4⟩ := C.cell y c e
    have hij : i = j := L2.nodup_ix C.nd e1 h1
    subst hij
    rw [e2] at h2
    cases h2
    exact ⟨c, u, hc, (hok c _ h4).1, h3⟩
def LamW (P : Program) (w : World) (K : PySem.W.Frag) (mg : Str → Option Value) (base : Heap) (N : List Str) (q : Str) (CM : List (Str × Addr)) (k : Nat) (H : Hp) (v : V) (t : XK → TE) : Prop :=
  ∃ (f c' : Addr) (o : Obj) (scope : Scope) (cl : List (Str × Addr)) (dT : Option Addr), v = .ref f ∧ H f = some (LamO f o) ∧ H c' = some (CodeO c' q) ∧ DvAt H dT ∧ LamK N CM scope cl ∧ LamP P w K mg base N q cl scope o c' dT k t
theorem LamV.dead {X : Cx} {k : Nat} {H H' : Hp} {v : V} {t : XK → TE} (L : LamV X k H v t) (hK : ∀ scope, LamN X.N X.env.scope scope → LamK X.N X.env.cells scope (cloFrom X.env.cells scope.names [])) (s : ∀ b o, H b = some o → H' b = some o) :
    LamW X.prog X.w X.K X.mg X.base X.N (X.env.qual ++ "<lambda>") X.env.cells k H' v t := by
  obtain ⟨f, c', o, scope, dT, e1, e2, e3, e4, e5, e6⟩ := L
  refine ⟨f, c', o, scope, _, dT, e1, s _ _ e2, s _ _ e3, ?_, hK _ e5, e6⟩
  cases dT with
  | none => exact True.intro
  | some T => exact s _ _ e4
theorem LamV.deadQ {X : Cx} {k : Nat} {H H' : Hp} {v : V} {t : XK → TE} {q0 : Str} (hq : X.env.qual = q0) (L : LamV X k H v t) (hK : ∀ scope, LamN X.N X.env.scope scope → LamK X.N X.env.cells scope (cloFrom X.env.cells scope.names [])) (s : ExtN H H') :
    LamW X.prog X.w X.K X.mg X.base X.N (q0 ++ "<lambda>") X.env.cells k H' v t := hq ▸ (L.keep fun b o e n _ => s b o e n : LamV X k H' v t).dead hK fun _ _ e => e
theorem LamW.keep {P : Program} {w : World} {K : PySem.W.Frag} {mg : Str → Option Value} {base : Heap} {N : List Str} {q : Str} {CM : List (Str × Addr)} {k : Nat} {H H' : Hp} {v : V} {t : XK → TE} (L : LamW P w K mg base N q CM k H v t)
    (h : ∀ b o, H b = some o → (∀ ps, o ≠ .tbl ps) → (∀ xs, o ≠ .lst xs) → H' b = some o) : LamW P w K mg base N q CM k H' v t := by
  obtain ⟨f, c', o, scope, cl, dT, e1, e2, e3, e4, e5, e6⟩ := L
  refine ⟨f, c', o, scope, cl, dT, e1, h _ _ e2 lamO_ne lamO_lst, h _ _ e3 codeO_ne codeO_lst, ?_, e5, e6⟩
  cases dT with
  | none => exact True.intro
  | some T => exact h _ _ e4 (fun ps z => by cases z) (fun xs z => by cases z)
/-! ### a body that returns, the slots told -/
structure PSr (X : Cx) (st : List Stmt) (t : (L2.St → VK) → L2.St → Hp → Prop) : Prop where
  run : ∀ (pins : List (Addr × Obj)) (s : Shared) (σ : L2.St) (H : Hp) (R : L2.St → VK), Inv X pins σ H s → t R σ H → wpAny (model X.prog X.w) X.A (execs st X.env) (fun f s' => ∃ u v σ' H', f = .ret u ∧ Inv X pins σ' H' s' ∧ L2.RelV v u ∧ R σ' v H') X.xe s
theorem psr_ret {X : Cx} {e : Expr} {te : TE} {pos : Pos} (he : PE X e te) : PSr X [.Return (some e) pos] (fun R σ H => te σ H (R σ)) := by
  refine ⟨fun pins s σ H R I h => ?_⟩
  refine wpAny_execs_cons (wpAny_Return_some (thn (he.run pins s σ H _ I h) fun v s1 ⟨x, H1, I1, r1, q1⟩ => ?_))
  exact ⟨v, x, σ, H1, rfl, I1, r1, q1⟩
theorem psr_cons {X : Cx} {st : Stmt} {rest : List Stmt} {t : TS} {t2 : (L2.St → VK) → L2.St → Hp → Prop} (h1 : PS X st t) (h2 : PSr X rest t2) : PSr X (st :: rest) (fun R σ H => t { nx := fun σ H => t2 R σ H, rt := fun _ _ => False } σ H) := by
  refine ⟨fun pins s σ H R I h => ?_⟩
  refine wpAny_execs_cons (thn (h1.run pins s σ H { nx := fun σ H => t2 R σ H, rt := fun _ _ => False } I h) fun f s1 q => ?_)
  cases f with
  | next =>
    obtain ⟨σ', H', I', q⟩ := q
    exact h2.run pins s1 σ' H' R I' q
  | ret v =>
    obtain ⟨_, _, _, _, _, q⟩ := q
    exact False.elim q
  | brk =>
    obtain ⟨_, _, _, q⟩ := q
    exact False.elim q
  | cont =>
    obtain ⟨_, _, _, q⟩ := q
    exact False.elim q
open Classical in
noncomputable def cellsH (CL : List Addr) (h : Heap) (H : Hp) : Hp := fun a => if x : a ∈ CL ∧ ∃ u, h.IsCell a (some u) then some (CellO a x.2.choose) else H a
theorem isCell_one {h : Heap} {a : Addr} {u u' : Option Value} (x : h.IsCell a u) (y : h.IsCell a u') : u = u' := by
  obtain ⟨o, h1, h2⟩ := x
  obtain ⟨o', h3, h4⟩ := y
  rw [h1] at h3
  cases h3
  rw [h2] at h4
  cases h4
  rfl
theorem cellsH_in {CL : List Addr} {h : Heap} {H : Hp} {a : Addr} {u : Value} (m : a ∈ CL) (x : h.IsCell a (some u)) : cellsH CL h H a = some (CellO a u) := by
  unfold cellsH
  have y : a ∈ CL ∧ ∃ u, h.IsCell a (some u) := ⟨m, u, x⟩
  rw [dif_pos y]
  rw [Option.some.inj (isCell_one y.2.choose_spec x)]
theorem cellsH_out {CL : List Addr} {h : Heap} {H : Hp} {a : Addr} (m : a ∉ CL) : cellsH CL h H a = H a := by
  unfold cellsH
  rw [dif_neg fun z => m z.1]
theorem cellsH_some {CL : List Addr} {h : Heap} {H : Hp} {a : Addr} {o : HO} (e : cellsH CL h H a = some o) : (a ∈ CL ∧ ∃ u, h.IsCell a (some u) ∧ o = CellO a u) ∨ H a = some o := by
  unfold cellsH at e
  split at e
  · rename_i y
    exact .inl ⟨y.1, _, y.2.choose_spec, (Option.some.inj e).symm⟩
  · exact .inr e
def CloR (N : List Str) (scope : Scope) (CM : List (Str × Addr)) (Q : VK) : L2.St → VK := fun σ v H => (∀ y ∈ (cellsFrom 0 scope.names []).map (·.1), ∃ (i : Nat) (z : V), N[i]? = some y ∧ σ[i]? = some (some z)) ∧
  ∀ H' : Hp, (∀ b o, H b = some o → H' b = some o) → CloH N CM σ H' → (∀ sc, LamN N scope sc → LamK N CM sc (cloFrom CM sc.names [])) → Q v H'
theorem run_clo {CX : CXT} {P : Program} {w : World} {K : PySem.W.Frag} {mg : Str → Option Value} {base : Heap} {k : Nat} {f : Addr} {name qual : Str} {params : Arguments} {body : List Stmt} {scope : Scope} {dV kV doc pm cdv ct oc : Value} {an od : Option Addr}
    {osl : Array (Option Value)} {N ps : List Str} {sp : Sp} (lk : K.lookup f = some ⟨oc, od, .func (PySem.W.fnOf name qual params body scope dV kV doc pm an cdv ct), osl⟩) (hcd : PySem.W.codeIn K cdv qual = true) (S : FnScope N ps scope)
    (hk : ∀ y ∈ (cellsFrom 0 scope.names []).map (·.1), scope.names.lookup y = some .cell)
    (len : ∀ vs H Q E, sp vs H Q E → vs.length = ps.length)
    (hbody : ∀ (A : Around) (outer : List Env) (s : Shared) (H : Hp) (vs : List V) (Q : VK) (E : XK), Room k (A.deeper (envOfC qual scope s.heap.objs.size f cdv)) → sp vs H Q E →
      ∃ t, PSr (cxOf CX P w K mg base N qual scope f cdv A outer s H E) body t ∧ t (CloR N scope (cellsFrom (s.heap.objs.size + 1) scope.names []) Q) (L2.start N vs) H) :
    FnOk P w K mg base CX (k + 1) f (PySem.W.fnOf name qual params body scope dV kV doc pm an cdv ct) ps sp := by
  refine ⟨len, fun A outer s H args us vs Q E hr e0 hb r hsp => ?_⟩
  have hl := len _ _ _ _ hsp
  have KX : K.In s.heap := e0.mod.kin.keeps fun b o e => (e0.bs b o e).1
  have lim : s.heap.NoLimit := e0.mod.nolimit.keeps fun b o e => (e0.bs b o e).1
  have hkind : ∀ y ∈ ps.zip us, scope.names.lookup y.1 = some .local ∨ (scope.names.lookup y.1 = some .cell ∧ ((cellsFrom (s.heap.objs.size + 1) scope.names []).lookup y.1).isSome = true) := fun ⟨n, v⟩ hy => by
    rcases S.par n (List.of_mem_zip hy).1 with q | q
    · exact .inl q
    · exact .inr ⟨q, PySem.W.cellsFrom_some _ _ _ (.inl q)⟩
  refine codeAny_call_function hr.depth (KX _ _ lk) rfl S.co S.gen rfl (PySem.W.codeRec_of KX hcd) (hb _ _ _ _ ?_)
  refine wpAny_newFunctionEnv_cells S.kind hkind fun env he s1 x => ?_
  subst he
  refine ⟨lim.keeps x.toInCall.keep, codeAny_func ?_⟩
  obtain ⟨t, ht, hq⟩ := hbody A outer s H vs Q E (hr.deeper _) hsp
  have I : Inv (cxOf CX P w K mg base N qual scope f cdv A outer s H E) [] (L2.start N vs) H s1 := inv_start S hr.hd e0 hl r x
  refine wpAny_mono (ht.run [] s1 (L2.start N vs) H _ I hq) (fun fl s' hs => ?_) fun e s' hs => hs
  obtain ⟨u, v, σ', H', rfl, J, rv, hc, q⟩ := hs
  have eCM : ∀ {y c}, (cellsFrom (s.heap.objs.size + 1) scope.names []).lookup y = some c → y ∈ (cellsFrom 0 scope.names []).map (·.1) := fun {y c} e => by
    rw [PyProof.Rows.cellsFrom_names scope.names 0 (s.heap.objs.size + 1) [] [] rfl]
    exact List.mem_map.mpr ⟨(y, c), PySem.mem_of_lookup e, rfl⟩
  have cellAt : ∀ {y c}, (cellsFrom (s.heap.objs.size + 1) scope.names []).lookup y = some c → ∃ i z u, N[i]? = some y ∧ σ'[i]? = some (some z) ∧ L2.RelV z u ∧ s'.heap.IsCell c (some u) := fun {y c} e => by
    obtain ⟨i, z, h1, h2⟩ := hc y (eCM e)
    have hky := hk y (eCM e)
    obtain ⟨m, _, hl⟩ := J.loc
    obtain ⟨u, r, l⟩ := hl i y z h1 h2 (.inr (.inl hky))
    rcases l with ⟨k1, _⟩ | ⟨_, c', e', x⟩
    · have k1 : scope.names.lookup y = some .local := k1
      rw [hky] at k1; cases k1
    · have e' : (cellsFrom (s.heap.objs.size + 1) scope.names []).lookup y = some c' := e'
      rw [e] at e'
      cases e'
      exact ⟨i, z, u, h1, h2, r, x⟩
  obtain ⟨CL, eCL⟩ : ∃ CL, CL = clA N (cellsFrom (s.heap.objs.size + 1) scope.names []) := ⟨_, rfl⟩
  have inC : ∀ {c}, c ∈ CL → ∃ y u, (cellsFrom (s.heap.objs.size + 1) scope.names []).lookup y = some c ∧ s'.heap.IsCell c (some u) := fun {c} m => by
    rw [eCL] at m
    obtain ⟨y, _, e⟩ := mem_clA.mp m
    obtain ⟨i, z, u, _, _, _, x⟩ := cellAt e
    exact ⟨y, u, e, x⟩
  have mC : ∀ {y c}, (cellsFrom (s.heap.objs.size + 1) scope.names []).lookup y = some c → c ∈ CL := fun {y c} e => by
    rw [eCL]
    obtain ⟨i, z, u, h1, _⟩ := cellAt e
    exact mem_clA.mpr ⟨y, List.mem_of_getElem? h1, e⟩
  have fr : ∀ c ∈ CL, H' c = none := fun c m => by
    obtain ⟨y, u, e, _⟩ := inC m
    exact J.freeC y c e
  have out : ∀ {b o}, H' b = some o → b ∉ CL := fun {b o} e m => by rw [fr b m] at e; cases e
  have st : ∀ b o, H' b = some o → cellsH CL s'.heap H' b = some o := fun b o e => by rw [cellsH_out (out e)]; exact e
  have J' := J.base
  refine (show CE outer P w H s Q u s' from ⟨v, cellsH CL s'.heap H', J.os, J.bare, ⟨J'.keep, J'.slot, fun b o e n hx => ?_, J'.there, fun b xs e => st _ _ (J'.tups b xs e), fun b o x e => st _ _ (J'.frzs b o x e), fun b ps e => ?_⟩, fun b o e => ?_, rv, ?_⟩)
  · have nb : b ∉ CL := fun m => by
      obtain ⟨y, u, e', _⟩ := inC m
      have h1 : s.heap.objs.size ≤ b := J.ok.cab y b rfl e'
      exact absurd (Nat.lt_of_lt_of_le (Heap.lt_size e) h1) (Nat.lt_irrefl _)
    rw [cellsH_out nb]
    exact J'.free b o e n hx
  · obtain ⟨more, q⟩ := J'.tbls b ps e
    exact ⟨more, st _ _ q⟩
  · rcases cellsH_some e with ⟨m, u, x, rfl⟩ | e'
    · exact cellO_ok x
    · exact (J.hok b o e').stay (fun _ _ _ q => q) (fun c q => st _ _ q) fun c xs q => st _ _ q
  · refine q _ st ⟨J.len, S.nd, J.ok.inj, fun y c e => ?_⟩ fun sc L => LamK.of J.ok L
    obtain ⟨i, z, u, h1, h2, h3, x⟩ := cellAt e
    exact ⟨i, z, u, h1, h2, h3, cellsH_in (mC e) x⟩
section
variable {X : Cx} {pins : List (Addr × Obj)} {σ : L2.St} {H : Hp} {s : Shared}
theorem dead_act {CXg : CXT} {Eg : XK} {Ng N : List Str} {qg q a : Str} {sg scope : Scope} {g f c' : Addr} {cdg : Value} {cl CM : List (Str × Addr)} {o : Obj} {dT : Option Addr} {t : XK → TE} {k i : Nat} {pn : List (Addr × Obj)} {xe : Value → Shared → Prop} {W : WX} {E : XK} {p1 p2 : Pos}
    (L : LamK N CM scope cl) (LP : LamP X.prog X.w X.K X.mg X.base N q cl scope o c' dT k t)
    (tk : Takes ((cxOf CXg X.prog X.w X.K X.mg X.base Ng qg sg g cdg X.A X.stack s H Eg).tr pn xe) W) (hW : ∀ cls d σ' H', E cls d H' → W cls d σ' H') (hr : Room (k + 1) (X.A.deeper (envOfC qg sg s.heap.objs.size g cdg)))
    (hN : Ng[i]? = some a) (hv : Vis sg a) (hd : (a == ("__debug__" : Str)) = false := by decide) (hcd : (a == ("__classdict__" : Str)) = false := by decide) :
    PE ((cxOf CXg X.prog X.w X.K X.mg X.base Ng qg sg g cdg X.A X.stack s H Eg).tr pn xe) (.Call (.Name a p1) [] [] p2)
      (fun σZ HZ Q => σZ[i]? = some (some (.ref f)) ∧ HZ c' = some (CodeO c' q) ∧ HZ f = some (LamO f o) ∧ DvAt HZ dT ∧ CloH N CM σ HZ ∧ t (bE (clA N CM) HZ E) σ (wo (clA N CM) HZ) (bQ (clA N CM) HZ Q)) := by
  obtain ⟨lco, lgen, lcells, lkind, params, body, doc, pm, ctv, rfl, hB, hbody⟩ := LP
  refine ⟨fun pinsZ sZ σZ HZ Q IZ ⟨h1, h2, h3, h4, C, ht⟩ => ?_⟩
  refine wpAny_Call_Name_kw (thn ((pe_var (pos := p1) (i := i) hN hv hd hcd).run pinsZ sZ σZ HZ (fun v H1 => v = .ref f ∧ H1 = HZ) IZ ⟨.ref f, h1, rfl, rfl⟩) fun u s1 hu => ?_)
  obtain ⟨v, H1, I1, r1, rfl, rfl⟩ := hu
  cases r1
  obtain ⟨fo, _, _⟩ := I1.hok f _ h3
  obtain ⟨⟨oc, vs, tq, hoc, hdc, hvc⟩, _, _⟩ := I1.hok c' _ h2
  have C1 := L.at C I1.hok
  have CC := C.cels
  have e0 := I1.env0
  obtain ⟨binds, b1, b2⟩ := lam_binds (s := s1) (cl := cl) (doc := doc) (pm := pm) (cdv := .ref c') (ct := ctv) hB h4 I1.hok
  refine PySem.W.callWith_F0 ⟨_, _, _, _, fo⟩ (wpAny_call (codeAny_mono (R := CR (L2.CX X.prog X.w) (envOfC qg sg s.heap.objs.size g cdg :: X.stack) X.prog X.w (wo (clA N CM) H1) s1 (bQ (clA N CM) H1 Q) (bE (clA N CM) H1 E)) ?_ fun r s' hq => ?_))
  · refine PySem.W.kla_callFunE hr.depth fo rfl lco lgen rfl ⟨c', oc, vs, tq, rfl, hoc, hdc, hvc⟩ (b2 _ _ _ _ (wpAny_newFunctionEnv lcells b1 (fun h₁ hns hsb => ⟨I1.nolimit.fresh _ hsb, ?_⟩) lkind))
    have kp : ∀ b o, s1.heap.get? b = some o → h₁.get? b = some o := fun b o e => hsb.extBut b o (Nat.ne_of_lt (Heap.lt_size e)) (Heap.get?_push_of_some _ e)
    have J := lam_enter (q := q) (E := bE (clA N CM) H1 E) (f := f) (c' := c') (tk := s1.toks + binds.length) C1 (CC.env0 e0) hr.hd hns kp
    have run := (hbody _ _ s1 (wo (clA N CM) H1) (bE (clA N CM) H1 E) f (hr.deeper _)).run [] _ _ (wo (clA N CM) H1) (bQ (clA N CM) H1 Q) J ht
    exact PySem.W.kla_codeExpr (wpAny_mono run (fun v s' ⟨w', H', J', rv, hq⟩ => ⟨w', H', J'.os, J'.bare, J'.base, J'.hok, rv, hq⟩) fun e s' hq => hq)
  · cases r with
    | error e => exact passes_call tk hW pinsZ σZ H1 s1 e s' I1 (cx_wi CC I1.hok e0.frf hq)
    | ok fl =>
      cases fl with
      | ret u => exact I1.after (ce_wi CC I1.hok hq)
      | next => exact hq.elim
      | brk => exact hq.elim
      | cont => exact hq.elim
end
section
variable {X : Cx}
def tToldW (X : Cx) (N : List Str) (q : Str) (k : Nat) (TT : (XK → Hp → VK → Prop) → Hp → VK → Prop) (te : TE) : TE := fun σ H Q => te σ H fun v H1 => ∃ (CM : List (Str × Addr)) (σ0 : L2.St) (f c' : Addr) (o : Obj) (scope : Scope) (cl : List (Str × Addr)) (dT : Option Addr) (t : XK → TE), v = .ref f ∧ H1 c' = some (CodeO c' q) ∧ LamK N CM scope cl ∧
  LamP X.prog X.w X.K X.mg X.base N q cl scope o c' dT k t ∧ TT (fun E H' Q' => H' f = some (LamO f o) ∧ DvAt H' dT ∧ CloH N CM σ0 H' ∧ t (bE (clA N CM) H' E) σ0 (wo (clA N CM) H') (bQ (clA N CM) H' Q')) H1 Q
theorem pe_toldW {TT : (XK → Hp → VK → Prop) → Hp → VK → Prop} {N : List Str} {q : Str} {x a : Str} {g : Addr} {k : Nat} {pg : Arguments} {bg : List Stmt} {sg : Scope} {dV kV doc pm cdv ct oc : Value} {an od : Option Addr} {osl : Array (Option Value)} {Ng : List Str} {e : Expr} {te : TE} {p pos : Pos}
    (hg : Gl X x) (hm : X.mg x = some (.ref g)) (hk : PySem.W.keepIn X.K (.ref g) = true) (lk : X.K.lookup g = some ⟨oc, od, .func (PySem.W.fnOf x x pg bg sg dV kV doc pm an cdv ct), osl⟩) (hcg : PySem.W.codeIn X.K cdv x = true)
    (hb : L2.Binds X.K (PySem.W.fnOf x x pg bg sg dV kV doc pm an cdv ct) [a] []) (Sg : FnScope Ng [a] sg) (hNg : Ng[0]? = some a) (hva : Vis sg a) (hG : GivesTo X Ng x sg g cdv bg a q TT) (hr : Room (k + 2) X.A) (he : PE X e te)
    (hdb : (x == ("__debug__" : Str)) = false := by decide) (hd : (a == ("__debug__" : Str)) = false := by decide) (hcd : (a == ("__classdict__" : Str)) = false := by decide)
    (hs : starEach [e] X.env = (false, eval e X.env) :: starEach [] X.env := by rfl) (hpl : (backTo pos (starEach [] X.env)).any (·.1) = false := by rfl) :
    PE X (.Call (.Name x p) [e] [] pos) (tToldW X N q k TT te) := by
  refine ⟨fun pins s σ H Q I h => ?_⟩
  refine wpAny_Call_Name_kw (ld_glob I hg hm ?_ hdb)
  have arg := (pa_cons he pa_nil hs).run pos pins s σ H (fun vs H1 => match vs with
    | [v] => ∃ (CM : List (Str × Addr)) (σ0 : L2.St) (f c' : Addr) (o : Obj) (scope : Scope) (cl : List (Str × Addr)) (dT : Option Addr) (t : XK → TE), v = .ref f ∧ H1 c' = some (CodeO c' q) ∧ LamK N CM scope cl ∧
      LamP X.prog X.w X.K X.mg X.base N q cl scope o c' dT k t ∧ TT (fun E H' Q' => H' f = some (LamO f o) ∧ DvAt H' dT ∧ CloH N CM σ0 H' ∧ t (bE (clA N CM) H' E) σ0 (wo (clA N CM) H') (bQ (clA N CM) H' Q')) H1 Q
    | _ => False) I h
  refine PySem.W.callWith_K (h₀ := X.base) I.ok.mod.kin hk (thn arg fun us s1 ⟨vs, H1, I1, r, q0⟩ => ⟨I1.kIn, ?_⟩) hs hpl
  match vs, r, q0 with
  | [v], r, q0 =>
    obtain ⟨CM, σ0, f, c', o, scope, cl, dT, t, rfl, hc, L, LP, q⟩ := q0
    obtain ⟨u, rfl, ru⟩ := r.one
    cases ru
    have rc : codeAny (model X.prog X.w) X.A (.call (.ref g) ⟨[.ref f], []⟩) (CR C8.CX0 X.stack X.prog X.w H1 s1 Q C8.E0) s1 := by
      refine run_ofS (N := Ng) (ps := [a]) (us := [.ref f]) (vs := [.ref f]) lk hcg Sg hr I1.env0 (hb s1 [.ref f] I1.kIn rfl) (.cons rfl .nil) rfl fun hr' => ?_
      obtain ⟨t', ht', hq'⟩ := hG f c' s1 H1 Q (fun E H' Q' => H' f = some (LamO f o) ∧ DvAt H' dT ∧ CloH N CM σ0 H' ∧ t (bE (clA N CM) H' E) σ0 (wo (clA N CM) H') (bQ (clA N CM) H' Q')) (fun W pn xe E p1 p2 tk hW => dead_act (i := 0) L LP tk hW hr' hNg hva hd hcd) hc q
      exact ⟨t', ht'.nox, hq'⟩
    refine wpAny_call (codeAny_mono rc fun r s2 hq => ?_)
    cases r with
    | error e => exact (show False from hq).elim
    | ok fl =>
      cases fl with
      | ret u => exact I1.after hq
      | next => exact hq.elim
      | brk => exact hq.elim
      | cont => exact hq.elim
end
end DLR
namespace DL
open PySem L2 DLR
/-! ### data laid, cut and joined -/
theorem zat_tup {H : Hp} {a : Addr} {vs : List V} {ds : List D} (h : H a = some (.tup vs)) (q : Ats H vs ds) : At H (.ref a) (.tup ds) := by
  simp only [At]
  exact ⟨a, vs, rfl, h, q⟩
theorem zat_int {H : Hp} {i : Int} : At H (.int i) (.int i) := by simp only [At]
theorem zats_nil {H : Hp} : Ats H [] [] := by simp only [Ats]
theorem zats_cons {H : Hp} {v : V} {vs : List V} {d : D} {ds : List D} (h : At H v d) (q : Ats H vs ds) : Ats H (v :: vs) (d :: ds) := by
  simp only [Ats]
  exact ⟨h, q⟩
theorem zats_un {H : Hp} {v : V} {vs : List V} {d : D} {ds : List D} (h : Ats H (v :: vs) (d :: ds)) : At H v d ∧ Ats H vs ds := by simpa only [Ats] using h
theorem zats_app {H : Hp} : ∀ {vs : List V} {ds : List D} {us : List V} {es : List D}, Ats H vs ds → Ats H us es → Ats H (vs ++ us) (ds ++ es)
  | [], [], _, _, _, h => h
  | v :: vs, d :: ds, _, _, h, g => zats_cons (zats_un h).1 (zats_app (zats_un h).2 g)
  | [], _ :: _, _, _, h, _ => by simp [Ats] at h
  | _ :: _, [], _, _, h, _ => by simp [Ats] at h
theorem zats_take {H : Hp} : ∀ (n : Nat) {vs : List V} {ds : List D}, Ats H vs ds → Ats H (vs.take n) (ds.take n)
  | 0, _, _, _ => by simp [Ats]
  | n + 1, [], [], _ => by simp [Ats]
  | n + 1, v :: vs, d :: ds, h => by
    rw [List.take_succ_cons, List.take_succ_cons]
    exact zats_cons (zats_un h).1 (zats_take n (zats_un h).2)
  | _ + 1, [], _ :: _, h => by simp [Ats] at h
  | _ + 1, _ :: _, [], h => by simp [Ats] at h
theorem zats_drop {H : Hp} : ∀ (n : Nat) {vs : List V} {ds : List D}, Ats H vs ds → Ats H (vs.drop n) (ds.drop n)
  | 0, _, _, h => h
  | n + 1, [], [], _ => by simp [Ats]
  | n + 1, v :: vs, d :: ds, h => by
    rw [List.drop_succ_cons, List.drop_succ_cons]
    exact zats_drop n (zats_un h).2
  | _ + 1, [], _ :: _, h => by simp [Ats] at h
  | _ + 1, _ :: _, [], h => by simp [Ats] at h
theorem zcut_to (n : Nat) (xs : List V) : cutV xs none (some (n : Int)) = xs.take n := by
  unfold cutV
  have e : HT.sIx xs.length xs.length (some (n : Int)) = min n xs.length := HT.sIx_nat _ _ n
  rw [e, HT.sIx_none, List.drop_zero, Nat.sub_zero]
  rcases Nat.le_total n xs.length with q | q
  · rw [Nat.min_eq_left q]
  · rw [Nat.min_eq_right q, List.take_length, List.take_of_length_le q]
/-! ### a laying as data -/
def intsN (ns : List Nat) : List D := ns.map fun x : Nat => .int (x : Int)
def homeDD (h : List Nat) : D := .tup (intsN h)
def layDD (y : Lay) : D := .tup [.int (y.wide : Int), .tup (intsN y.places), .tup (y.homes.map homeDD)]
theorem zats_nat {H : Hp} : ∀ ns : List Nat, Ats H (ns.map nI) (intsN ns)
  | [] => zats_nil
  | _ :: ns => zats_cons zat_int (zats_nat ns)
theorem zats_homes {H : Hp} {bs : List Addr} {hs : List (List Nat)} (h : HomesAt H bs hs) : Ats H (bs.map V.ref) (hs.map homeDD) := by
  induction h with
  | nil => exact zats_nil
  | @cons b x bs hs h t ih => exact zats_cons (zat_tup h (zats_nat _)) ih
theorem fit_nats {ns : List Nat} (h : ns.length ≤ 100000) : (DL.D.tup (intsN ns)).fit := by
  simp only [D.fit]
  refine ⟨by unfold intsN; rw [List.length_map]; exact h, fitL_iff.mpr fun x hx => ?_⟩
  obtain ⟨i, _, rfl⟩ := List.mem_map.mp hx
  simp [D.fit]
theorem fit_all {ds : List D} (h : ds.length ≤ 100000) (q : ∀ d ∈ ds, d.fit) : (DL.D.tup ds).fit := by
  simp only [D.fit]
  exact ⟨h, fitL_iff.mpr q⟩
theorem fb_all {f : D → Bool} : ∀ {ds : List D} {i : Nat}, ds.all f = true → firstBad f i ds = none
  | [], _, _ => rfl
  | d :: ds, i, h => by
    obtain ⟨h1, h2⟩ := Bool.and_eq_true_iff.mp (show (f d && ds.all f) = true from h)
    show (if f d = true then firstBad f (i + 1) ds else some i) = none
    rw [if_pos h1]
    exact fb_all h2
theorem fb_at {f : D → Bool} : ∀ {a : List D} {i : Nat} {d : D} {b : List D}, a.all f = true → f d = false → firstBad f i (a ++ d :: b) = some (i + a.length)
  | [], i, d, b, _, g => by
    show (if f d = true then firstBad f (i + 1) b else some i) = _
    rw [g, if_neg (by decide)]
    rfl
  | x :: a, i, d, b, h, g => by
    obtain ⟨h1, h2⟩ := Bool.and_eq_true_iff.mp (show (f x && a.all f) = true from h)
    show (if f x = true then firstBad f (i + 1) (a ++ d :: b) else some i) = _
    rw [if_pos h1, fb_at h2 g, List.length_cons]
    congr 1
    omega
theorem nats_betw {ns : List Nat} {W : Nat} (h : ∀ x ∈ ns, x < W) : (intsN ns).all (D.betw 0 ((W : Int) - 1)) = true := by
  refine List.all_eq_true.mpr fun d hd => ?_
  obtain ⟨x, hx, rfl⟩ := List.mem_map.mp hd
  have hx := h x hx
  show (decide ((0 : Int) ≤ (x : Int)) && decide ((x : Int) ≤ (W : Int) - 1)) = true
  rw [decide_eq_true (by omega), decide_eq_true (by omega)]
  rfl
theorem up_nats : ∀ {h : List Nat}, h.Pairwise (· < ·) → upB (intsN h) = true
  | [], _ => rfl
  | [a], _ => rfl
  | a :: b :: r, h => by
    obtain ⟨h1, h2⟩ := List.pairwise_cons.mp h
    show (decide ((a : Int) < (b : Int)) && upB (intsN (b :: r))) = true
    rw [up_nats h2, decide_eq_true (by have := h1 b List.mem_cons_self; omega)]
    rfl
theorem home_good {W : Nat} {h : List Nat} (k : HomeOk W h) : homeB W (homeDD h) = true := by
  have l1 := k.l1
  have l3 := k.l3
  have e : (intsN h).length = h.length := List.length_map _
  show (decide (1 ≤ (intsN h).length) && decide ((intsN h).length ≤ 3) && (intsN h).all (D.betw 0 ((W : Int) - 1)) && upB (intsN h)) = true
  rw [e, decide_eq_true l1, decide_eq_true l3, nats_betw k.lt, up_nats k.up]
  rfl
theorem homes_good {W : Nat} {hs : List (List Nat)} (k : ∀ h ∈ hs, HomeOk W h) : (hs.map homeDD).all (homeB W) = true := by
  refine List.all_eq_true.mpr fun d hd => ?_
  obtain ⟨x, hx, rfl⟩ := List.mem_map.mp hd
  exact home_good (k x hx)
theorem wide_none {W : Nat} (w2 : 2 ≤ W) (w24 : W ≤ 24) : wideF (.int (W : Int)) = none := by
  show (if (decide ((2 : Int) ≤ (W : Int)) && decide ((W : Int) ≤ 24)) = true then none else some (("wide" : Str), (0 : Int))) = none
  rw [decide_eq_true (by omega), decide_eq_true (by omega)]
  rfl
theorem wide_some {i : Int} (h : ¬ (2 ≤ i ∧ i ≤ 24)) : wideF (.int i) = some (("wide" : Str), (0 : Int)) := by
  show (if (decide ((2 : Int) ≤ i) && decide (i ≤ 24)) = true then none else some (("wide" : Str), (0 : Int))) = _
  rw [if_neg fun z => h ⟨of_decide_eq_true (Bool.and_eq_true_iff.mp z).1, of_decide_eq_true (Bool.and_eq_true_iff.mp z).2⟩]
theorem layF_wide {p : Prog} {i : Int} {P Hm : D} (h : ¬ (2 ≤ i ∧ i ≤ 24)) : layF p (.tup [.int i, P, Hm]) = some (("wide" : Str), (0 : Int)) := by
  show orE (wideF (.int i)) _ = _
  rw [wide_some h]
  rfl
theorem layF_at {p : Prog} {W : Nat} {P Hm : D} (w2 : 2 ≤ W) (w24 : W ≤ 24) : layF p (.tup [.int (W : Int), P, Hm]) = orE (placesF p.rows.length W P) (homesF p.ws.length W Hm) := by
  show orE (wideF (.int (W : Int))) (orE (placesF p.rows.length ((W : Int).toNat) P) (orE (homesF p.ws.length ((W : Int).toNat) Hm) none)) = _
  rw [wide_none w2 w24, Int.toNat_natCast]
  show orE (placesF p.rows.length W P) (orE (homesF p.ws.length W Hm) none) = _
  cases homesF p.ws.length W Hm <;> rfl
theorem places_long {n W : Nat} {ds : List D} (h : ds.length ≠ n) : placesF n W (.tup ds) = some (("places" : Str), (-1 : Int)) := by
  show (if ds.length = n then _ else _) = _
  rw [if_neg h]
theorem places_at {n W : Nat} {a b : List D} {d : D} (h : (a ++ d :: b).length = n) (ha : a.all (D.betw 0 ((W : Int) - 1)) = true) (hd : d.betw 0 ((W : Int) - 1) = false) : placesF n W (.tup (a ++ d :: b)) = some (("places" : Str), (a.length : Int)) := by
  show (if (a ++ d :: b).length = n then (firstBad (D.betw 0 ((W : Int) - 1)) 0 (a ++ d :: b)).map (fun i => (("places" : Str), ((i : Nat) : Int))) else _) = _
  rw [if_pos h, fb_at ha hd, Nat.zero_add]
  rfl
theorem places_good {n W : Nat} {ds : List D} (h : ds.length = n) (ha : ds.all (D.betw 0 ((W : Int) - 1)) = true) : placesF n W (.tup ds) = none := by
  show (if ds.length = n then (firstBad (D.betw 0 ((W : Int) - 1)) 0 ds).map (fun i => (("places" : Str), ((i : Nat) : Int))) else _) = _
  rw [if_pos h, fb_all ha]
  rfl
theorem homes_long {n W : Nat} {ds : List D} (h : ds.length ≠ n) : homesF n W (.tup ds) = some (("homes" : Str), (-1 : Int)) := by
  show (if ds.length = n then _ else _) = _
  rw [if_neg h]
theorem homes_at {n W : Nat} {a b : List D} {d : D} (h : (a ++ d :: b).length = n) (ha : a.all (homeB W) = true) (hd : homeB W d = false) : homesF n W (.tup (a ++ d :: b)) = some (("homes" : Str), (a.length : Int)) := by
  show (if (a ++ d :: b).length = n then (firstBad (homeB W) 0 (a ++ d :: b)).map (fun i => (("homes" : Str), ((i : Nat) : Int))) else _) = _
  rw [if_pos h, fb_at ha hd, Nat.zero_add]
  rfl
theorem homes_none {n W : Nat} {ds : List D} (h : ds.length = n) (ha : ds.all (homeB W) = true) : homesF n W (.tup ds) = none := by
  show (if ds.length = n then (firstBad (homeB W) 0 ds).map (fun i => (("homes" : Str), ((i : Nat) : Int))) else _) = _
  rw [if_pos h, fb_all ha]
  rfl
theorem all_take {α : Type} {f : α → Bool} {l : List α} (n : Nat) (h : l.all f = true) : (l.take n).all f = true := List.all_eq_true.mpr fun x hx => List.all_eq_true.mp h x (List.mem_of_mem_take hx)
theorem lay_dd {H : Hp} {a : Addr} {y : Lay} (h : LayAt H a y) : At H (.ref a) (layDD y) := by
  obtain ⟨pa, ha, bs, h1, h2, h3, h4⟩ := h
  exact zat_tup h1 (zats_cons zat_int (zats_cons (zat_tup h2 (zats_nat _)) (zats_cons (zat_tup h3 (zats_homes h4)) zats_nil)))
theorem layF_dd {p : Prog} {y : Lay} (k : LayOk p y) : layF p (layDD y) = none := by
  unfold layDD
  rw [layF_at k.w2 k.w24, places_good (by unfold intsN; rw [List.length_map]; exact k.pl) (nats_betw k.pok), homes_none (by rw [List.length_map]; exact k.hl) (homes_good k.hok)]
  rfl
end DL
namespace DL
open PySem L2 DLR
/-! ### _law_odd: layings with one thing that can't be -/
abbrev nOdd : List Str := ["_law_d","_law_laying_here","_law_wide","_law_places","_law_homes","_law_far","_law_way","_law_at","_law_odd_here","_law_some"]
structure OddL (p : Prog) (e : D) (why : Str) (r : Int) : Prop where
  fit : e.fit
  bad : layF p e = some (why, r)
  why : (why = ("wide" : Str) ∧ ∃ i ds, e = .tup (.int i :: ds) ∧ wideF (.int i) = some (why, r)) ∨ why = ("places" : Str) ∨ why = ("homes" : Str)
def spOdd (K : Frg) : Sp := fun vs H Q _ => ∃ (d sa : Addr) (ns : List Int) (ya : Addr) (p : Prog) (y : Lay), vs = [.ref d, .ref ya] ∧ Ent K H d sa ns ∧ Good p ∧ LayAt H ya y ∧ LayOk p y ∧
  ∀ t b e why r H', Dc K H H' d sa ns → H' t = some (.tup [.ref b, .str why, .int r]) → At H' (.ref b) e → OddL p e why r → Q (.ref t) H'
def homesP (hs : List (List Nat)) : PyData := .tuple (hs.map fun h => .tuple (h.map fun x : Nat => .int (x : Int)))
theorem homesP_at {K : Frg} {H : Hp} {ha : Addr} {bs : List Addr} {hs : List (List Nat)} (h : H ha = some (.tup (bs.map V.ref))) (q : HomesAt H bs hs) : Dp K H (.ref ha) (homesP hs) := by
  refine .tup (SqT.of h) ?_
  induction q generalizing ha with
  | nil => exact .nil
  | @cons b x bs hs hb t ih =>
    refine .cons (.tup (SqT.of hb) ?_) ?_
    · clear hb
      induction x with
      | nil => exact .nil
      | cons n x ih => exact .cons (.int _) ih
    · clear hb ih h
      induction t with
      | nil => exact .nil
      | @cons b x bs hs hb t ih =>
        refine .cons (.tup (SqT.of hb) ?_) ih
        clear hb
        induction x with
        | nil => exact .nil
        | cons n x ih => exact .cons (.int _) ih
theorem homesP_lay : ∀ hs : List (List Nat), PyData.canLayAll0 (hs.map fun h => PyData.tuple (h.map fun x : Nat => .int (x : Int))) = true
  | [] => by decide +kernel
  | h :: hs => by
    have q : ∀ x : List Nat, PyData.canLayAll0 (x.map fun x : Nat => PyData.int (x : Int)) = true := fun x => by
      induction x with
      | nil => decide +kernel
      | cons n x ih => exact ih
    show (PyData.canLayAll0 (h.map fun x : Nat => PyData.int (x : Int)) && PyData.canLayAll0 (hs.map fun h => PyData.tuple (h.map fun x : Nat => .int (x : Int)))) = true
    rw [q h, homesP_lay hs]
    rfl
theorem homesP_dep : ∀ hs : List (List Nat), PyData.depthAll (hs.map fun h => PyData.tuple (h.map fun x : Nat => .int (x : Int))) ≤ 3
  | [] => by decide
  | h :: hs => by
    have a := homesP_dep hs
    have q : ∀ x : List Nat, PyData.depthAll (x.map fun x : Nat => PyData.int (x : Int)) ≤ 1 := fun x => by
      induction x with
      | nil => decide
      | cons n x ih =>
        show max (PyData.int (n : Int)).depth (PyData.depthAll (x.map fun x : Nat => PyData.int (x : Int))) ≤ 1
        have : (PyData.int (n : Int)).depth ≤ 1 := by simp [PyData.depth]
        omega
    have c : (PyData.tuple (h.map fun x : Nat => .int (x : Int))).depth ≤ 3 := by
      have := q h
      simp only [PyData.depth]
      omega
    show max (PyData.tuple (h.map fun x : Nat => .int (x : Int))).depth (PyData.depthAll (hs.map fun h => PyData.tuple (h.map fun x : Nat => .int (x : Int)))) ≤ 3
    omega
theorem homesP_shaped (hs : List (List Nat)) : SeqAt.shaped (homesP hs) = true := by
  have d := homesP_dep hs
  refine Bool.and_eq_true_iff.mpr ⟨homesP_lay hs, decide_eq_true ?_⟩
  unfold homesP
  simp only [PyData.depth]
  omega
theorem homesP_nil (hs : List (List Nat)) : PyData.eqv (homesP hs) (.tuple []) = decide (hs = []) := by
  cases hs with
  | nil => rw [decide_eq_true rfl]; decide +kernel
  | cons h hs =>
    rw [decide_eq_false (by simp)]
    unfold homesP
    simp [PyData.eqv, PyData.eqvAll]
theorem ztt_elim {T : TT} {σ : L2.St} {H : Hp} {K : Bool → Hp → Prop} (S : Bool → Hp → Prop) (h1 : ∀ K' : Bool → Hp → Prop, (∀ b H', S b H' → K' b H') → T σ H K') (h2 : ∀ b H', S b H' → K b H') : T σ H K := h1 K h2
theorem zte_elim {t : TE} {σ : L2.St} {H : Hp} {Q : VK} (S : V → Hp → Prop) (h1 : ∀ Q' : VK, (∀ v H', S v H' → Q' v H') → t σ H Q') (h2 : ∀ v H', S v H' → Q v H') : t σ H Q := h1 Q h2
theorem paired_drop {α β : Type} {F : α → β → Prop} {a : List α} {b : List β} (h : Paired F a b) : Paired F (a.drop 1) (b.drop 1) := by
  cases h with
  | nil => exact .nil
  | cons _ t => exact t
theorem homeB_up {W : Nat} {ds : List D} (h : upB ds = false) : homeB W (.tup ds) = false := by
  show (decide (1 ≤ ds.length) && decide (ds.length ≤ 3) && ds.all (D.betw 0 ((W : Int) - 1)) && upB ds) = false
  rw [h, Bool.and_false]
theorem homeB_all {W : Nat} {ds : List D} (h : ds.all (D.betw 0 ((W : Int) - 1)) = false) : homeB W (.tup ds) = false := by
  show (decide (1 ≤ ds.length) && decide (ds.length ≤ 3) && ds.all (D.betw 0 ((W : Int) - 1)) && upB ds) = false
  rw [h, Bool.and_false, Bool.false_and]
theorem homeB_len {W : Nat} {ds : List D} (h : (decide (1 ≤ ds.length) && decide (ds.length ≤ 3)) = false) : homeB W (.tup ds) = false := by
  show (decide (1 ≤ ds.length) && decide (ds.length ≤ 3) && ds.all (D.betw 0 ((W : Int) - 1)) && upB ds) = false
  rw [h, Bool.false_and, Bool.false_and]
theorem betw_out {W : Nat} {i : Int} (h : i < 0 ∨ (W : Int) ≤ i) : (DL.D.int i).betw 0 ((W : Int) - 1) = false := by
  show (decide ((0 : Int) ≤ i) && decide (i ≤ (W : Int) - 1)) = false
  rcases h with q | q
  · rw [decide_eq_false (show ¬ (0 : Int) ≤ i by omega), Bool.false_and]
  · rw [decide_eq_false (show ¬ i ≤ (W : Int) - 1 by omega), Bool.and_false]
theorem zif_elim {T : TT} {A B R : TS} {D : Ends} {σ : L2.St} {H : Hp} (S : Bool → Hp → Prop) (h1 : ∀ K' : Bool → Hp → Prop, (∀ b H', S b H' → K' b H') → T σ H K')
    (h2 : ∀ b H', S b H' → if b = true then A { D with nx := R D } σ H' else B { D with nx := R D } σ H') : tSeq (tIfS T A B) R D σ H := h1 _ h2
section
variable {P : Program} {w : World} {K : PySem.W.Frag} {mg : Str → Option Value} {base : Heap}
end
end DL
namespace DL
open PySem PySem.Spec PyProof.Rows L2 DLR LamX
theorem op_neDK {X : Cx} (K0 : PySem.W.Frag) (hK : X.K = K0) (hu : X.A.units + 64 < cLine) : OpR X (compareOp .NotEq) (rNeD K0) := hK ▸ op_neD hu
theorem told_okEK {X : Cx} {K0 : Frg} {mg0 : Str → Option Value} (hK : X.K = K0) (hm : X.mg = mg0) (E : Er mg0) (T : Bt mg0) {g : Addr} {cdg : Value} {q : Str} : GivesTo X nTold "_law_told" (defScope sTold) g cdg (defBody sTold) "_law_work" q (TTe K0 E) := by
  subst hK hm
  exact told_okE E T
def LamD (X : Cx) (k : Nat) (S : L2.St → Hp → Prop) (B : XK → Hp → Prop) (H : Hp) (v : V) : Prop := ∃ t : XK → TE, LamV X k H v t ∧ ∀ (E : XK) (σ : L2.St) (H' : Hp) (Q : VK), S σ H' → B E H' → t E σ H' Q
theorem LamD.keep {X : Cx} {k : Nat} {S : L2.St → Hp → Prop} {B : XK → Hp → Prop} {H H' : Hp} {v : V} (L : LamD X k S B H v) (h : ∀ b o, H b = some o → (∀ ps, o ≠ .tbl ps) → (∀ xs, o ≠ .lst xs) → H' b = some o) : LamD X k S B H' v := by
  obtain ⟨t, h1, h2⟩ := L
  exact ⟨t, h1.keep h, h2⟩
theorem LamD.same {X : Cx} {k : Nat} {S : L2.St → Hp → Prop} {B : XK → Hp → Prop} {H H' : Hp} {v : V} (L : LamD X k S B H v) (s : Same1 H H') : LamD X k S B H' v := L.keep fun b o e _ _ => s b o e
theorem LamD.ext {X : Cx} {k : Nat} {S : L2.St → Hp → Prop} {B : XK → Hp → Prop} {H H' : Hp} {v : V} (L : LamD X k S B H v) (s : ExtN H H') : LamD X k S B H' v := L.keep fun b o e n _ => s b o e n
theorem toldX_bl {K : Frg} {mg : Str → Option Value} {E : Er mg} {BL : Addr} (kn : KnF K E BL 1) {H' : Hp} {d : Addr} {y : Str} {r : Int} {R : V → Hp → Prop} (hd : H' d = some (.xd (fsBL y r))) (h : ∀ t H'', Same1 H' H'' → H'' t = some (.tup [.str "laying", .str y, .int r]) → R (.ref t) H'') : ToldX K E (.ref BL) (some d) H' R :=
  .inr ⟨BL, d, 1, _, [.str y, .int r], kn, rfl, rfl, hd, .inr (.inl ⟨rfl, _, _, rfl, rfl, rfl⟩), h⟩
theorem toldX_bp {K : Frg} {mg : Str → Option Value} {E : Er mg} {BP : Addr} (kn : KnF K E BP 0) {H' : Hp} {d : Addr} {y : Str} {r : Int} {R : V → Hp → Prop} (hd : H' d = some (.xd (fsBP r y))) (h : ∀ t H'', Same1 H' H'' → H'' t = some (.tup [.str "program", .int r, .str y]) → R (.ref t) H'') : ToldX K E (.ref BP) (some d) H' R :=
  .inr ⟨BP, d, 0, _, [.int r, .str y], kn, rfl, rfl, hd, .inl ⟨rfl, _, _, rfl, rfl, rfl⟩, h⟩
theorem toldX_fuel {K : Frg} {mg : Str → Option Value} {E : Er mg} {BF : Addr} (kn : Knd K E BF 2) {H' : Hp} {R : V → Hp → Prop} (h : ∀ t H'', Same1 H' H'' → H'' t = some (.tup [.str "fuel"]) → R (.ref t) H'') : ToldX K E (.ref BF) none H' R :=
  .inl ⟨BF, 2, kn, rfl, rfl, h⟩
end DL
namespace DL
open PySem L2 DLR LamX
mutual
theorem At.ext {H H' : Hp} (s : ExtN H H') : ∀ (d : D) (v : V), At H v d → At H' v d
  | .non, v, h => by simpa [At] using h
  | .bl b, v, h => by simpa [At] using h
  | .int i, v, h => by simpa [At] using h
  | .str x, v, h => by simpa [At] using h
  | .lst ds, v, h => by
    obtain ⟨a, vs, rfl, h1, h2⟩ : ∃ a vs, v = .ref a ∧ H a = some (.lst vs) ∧ Ats H vs ds := by simpa [At] using h
    have q := Ats.ext s ds vs h2
    simp only [At]
    exact ⟨a, vs, rfl, s _ _ h1 (fun ps z => by cases z), q⟩
  | .tup ds, v, h => by
    obtain ⟨a, vs, rfl, h1, h2⟩ : ∃ a vs, v = .ref a ∧ H a = some (.tup vs) ∧ Ats H vs ds := by simpa [At] using h
    have q := Ats.ext s ds vs h2
    simp only [At]
    exact ⟨a, vs, rfl, s _ _ h1 (fun ps z => by cases z), q⟩
theorem Ats.ext {H H' : Hp} (s : ExtN H H') : ∀ (ds : List D) (vs : List V), Ats H vs ds → Ats H' vs ds
  | [], [], _ => by simp [Ats]
  | d :: ds, v :: vs, h => by
    have h : At H v d ∧ Ats H vs ds := by simpa [Ats] using h
    simp only [Ats]
    exact ⟨At.ext s d v h.1, Ats.ext s ds vs h.2⟩
  | [], _ :: _, h => by simp [Ats] at h
  | _ :: _, [], h => by simp [Ats] at h
end
theorem at_head {H : Hp} {b : Addr} {i : Int} {ds : List D} (h : At H (.ref b) (.tup (.int i :: ds))) : ∃ us, H b = some (.tup (.int i :: us)) := by
  obtain ⟨a, vs, e, h1, h2⟩ : ∃ a vs, V.ref b = .ref a ∧ H a = some (.tup vs) ∧ Ats H vs (.int i :: ds) := by simpa [At] using h
  cases e
  match vs, h2 with
  | v :: vs, h2 =>
    have h3 := (zats_un h2).1
    have e : v = .int i := by simpa [At] using h3
    exact ⟨vs, by rw [h1, e]⟩
theorem tabs_mut {T : List (Addr × Str)} {H : Hp} {w : Addr} {xs ys : List V} (h : H w = some (.lst xs)) (t : Tabs T H) : Tabs T (upd H w (.lst ys)) := fun p hp => by
  obtain ⟨ps, h1, h2, h3⟩ := t p hp
  have ne : ∀ {x : Addr} {o : HO}, H x = some o → (∀ zs, o ≠ .lst zs) → x ≠ w := fun {x o} e n z => by
    subst z
    rw [h] at e
    exact n _ (Option.some.inj e).symm
  refine ⟨ps, by rw [upd_ne (ne h1 fun zs z => by cases z)]; exact h1, h2, fun pos cv hc => ?_⟩
  obtain ⟨k, e1, e2⟩ := h3 pos cv hc
  exact ⟨k, e1, by rw [upd_ne (ne e2 fun zs => codeO_lst zs)]; exact e2⟩
theorem none_ne_dice {H : Hp} {d sa l : Addr} (dv : DiceV H d sa) (h : H l = none) : l ≠ d := fun e => by
  subst e
  obtain ⟨i, m, r, z, _⟩ := dv
  rw [h] at z
  cases z
theorem zasg_elim {te : TE} {g : TG} {u : TS} {D : Ends} {σ : L2.St} {H : Hp} (R : V → Hp → Prop) (key : ∀ v H', R v H' → g v σ H' (u D)) (test : ∀ Q' : VK, (∀ v H', R v H' → Q' v H') → te σ H Q') : tSeq (tAsg te g) u D σ H := test _ key
theorem rep_map {α : Type} (n : Nat) (x : α) (f : α → V) : (List.replicate n [f x]).flatten = (List.replicate n x).map f := by
  induction n with
  | zero => rfl
  | succ n ih =>
    rw [List.replicate_succ, List.replicate_succ, List.flatten_cons, ih]
    rfl
theorem homes_rep {H : Hp} {z : Addr} {h : List Nat} (e : H z = some (.tup (h.map nI))) : ∀ n : Nat, HomesAt H (List.replicate n z) (List.replicate n h)
  | 0 => .nil
  | n + 1 => .cons e (homes_rep e n)
end DL
namespace DL
open PySem L2 DLR
theorem while_elim {c : TT} {tb : TS} {D : Ends} {σ : L2.St} {H : Hp} (W : Nat → L2.St → Hp → Prop) (R : L2.St → Hp → Prop) (w0 : ∃ m, W m σ H) (key : ∀ σ' H', R σ' H' → D.nx σ' H')
    (turn : ∀ Nx : L2.St → Hp → Prop, (∀ σ' H', R σ' H' → Nx σ' H') → ∀ m σ H, W m σ H → c σ H fun b H1 => if b = true then ∃ N : L2.St → Hp → Prop, (∀ σ' H', N σ' H' → ∃ m', m' < m ∧ W m' σ' H') ∧ tb { D with nx := N, ct := N, bk := D.nx } σ H1 else Nx σ H1) :
    tWhile c tb D σ H := ⟨W, w0, fun m σ H w => turn D.nx key m σ H w⟩
abbrev pLRun : List Str := ["_law_program", "_law_fuel"]
abbrev nRun : List Str := ["_law_program", "_law_fuel", "_law_s", "_law_done", "_law_goes", "_law_here", "_law_other", "_law_end", "_law_pair"]
def exN : Key → Option V := fun _ => none
structure LRunAt (p : Prog) (H0 H : Hp) (ad aw as_ ld lg : Addr) (s : RS) : Prop where
  same : Same1 H0 H
  mach : LawM exN H ad aw as_ s.m
  cnt : H ld = some (.lst (s.cnt.map V.int))
  goes : H lg = some (.dT (kmap s.goes))
  fa : H0 ad = none
  fw : H0 aw = none
  fs : H0 as_ = none
  fd : H0 ld = none
  fg : H0 lg = none
  n1 : as_ ≠ ld
  n2 : aw ≠ ld
theorem same_but3 {H0 H H' : Hp} {a b c : Addr} (s : Same1 H0 H) (h : But3 a b c H H') (ha : H0 a = none) (hb : H0 b = none) (hc : H0 c = none) : Same1 H0 H' := fun x o e =>
  h x o (ne_of_none e ha) (ne_of_none e hb) (ne_of_none e hc) (s x o e)
theorem LRunAt.alloc {p : Prog} {H0 H H' : Hp} {ad aw as_ ld lg : Addr} {s : RS} (h : LRunAt p H0 H ad aw as_ ld lg s) (t : Same1 H H') : LRunAt p H0 H' ad aw as_ ld lg s :=
  ⟨h.same.trans t, h.mach.same t, t _ _ h.cnt, t _ _ h.goes, h.fa, h.fw, h.fs, h.fd, h.fg, h.n1, h.n2⟩
theorem LRunAt.nad {p : Prog} {H0 H : Hp} {ad aw as_ ld lg : Addr} {s : RS} (h : LRunAt p H0 H ad aw as_ ld lg s) : ad ≠ ld ∧ aw ≠ lg ∧ as_ ≠ lg ∧ ld ≠ lg ∧ ad ≠ lg := by
  obtain ⟨kvs, h1, _⟩ := h.mach.dic
  exact ⟨ne_of h1 h.cnt (by intro z; cases z), ne_of h.mach.ws h.goes (by intro z; cases z), ne_of h.mach.said h.goes (by intro z; cases z), ne_of h.cnt h.goes (by intro z; cases z), ne_of h1 h.goes (by intro z; cases z)⟩
theorem LRunAt.setCnt {p : Prog} {H0 H : Hp} {ad aw as_ ld lg : Addr} {s : RS} {l : List Int} (h : LRunAt p H0 H ad aw as_ ld lg s) : LRunAt p H0 (upd H ld (.lst (l.map V.int))) ad aw as_ ld lg { s with cnt := l } := by
  obtain ⟨q1, q2, q3, q4, q5⟩ := h.nad
  obtain ⟨kvs, h1, h2⟩ := h.mach.dic
  exact ⟨Same.mut h.same h.fd, ⟨⟨kvs, by rw [upd_ne q1]; exact h1, h2⟩, by rw [upd_ne h.n2]; exact h.mach.ws, by rw [upd_ne h.n1]; exact h.mach.said, h.mach.ne⟩, upd_same, by rw [upd_ne q4.symm]; exact h.goes, h.fa, h.fw, h.fs, h.fd, h.fg, h.n1, h.n2⟩
theorem LRunAt.setGoes {p : Prog} {H0 H : Hp} {ad aw as_ ld lg : Addr} {s : RS} {g : GL} (h : LRunAt p H0 H ad aw as_ ld lg s) : LRunAt p H0 (upd H lg (.dT (kmap g))) ad aw as_ ld lg { s with goes := g } := by
  obtain ⟨q1, q2, q3, q4, q5⟩ := h.nad
  obtain ⟨kvs, h1, h2⟩ := h.mach.dic
  exact ⟨Same.mut h.same h.fg, ⟨⟨kvs, by rw [upd_ne q5]; exact h1, h2⟩, by rw [upd_ne q2]; exact h.mach.ws, by rw [upd_ne q3]; exact h.mach.said, h.mach.ne⟩, by rw [upd_ne q4]; exact h.cnt, upd_same, h.fa, h.fw, h.fs, h.fd, h.fg, h.n1, h.n2⟩
theorem LRunAt.setM {p : Prog} {H0 H H' : Hp} {ad aw as_ ld lg : Addr} {s : RS} {m : Mach} (h : LRunAt p H0 H ad aw as_ ld lg s) (b : But3 ad aw as_ H H') (hm : LawM exN H' ad aw as_ m) : LRunAt p H0 H' ad aw as_ ld lg { s with m := m } := by
  obtain ⟨q1, q2, q3, q4, q5⟩ := h.nad
  exact ⟨same_but3 h.same b h.fa h.fw h.fs, hm, b _ _ q1.symm h.n2.symm h.n1.symm h.cnt, b _ _ q5.symm q2.symm q3.symm h.goes, h.fa, h.fw, h.fs, h.fd, h.fg, h.n1, h.n2⟩
theorem LRunAt.cast {p : Prog} {H0 H : Hp} {ad aw as_ ld lg : Addr} {s t : RS} (h : LRunAt p H0 H ad aw as_ ld lg s) (e1 : t.m = s.m) (e2 : t.cnt = s.cnt) (e3 : t.goes = s.goes) : LRunAt p H0 H ad aw as_ ld lg t := by
  refine ⟨h.same, ?_, ?_, ?_, h.fa, h.fw, h.fs, h.fd, h.fg, h.n1, h.n2⟩
  · rw [e1]; exact h.mach
  · rw [e2]; exact h.cnt
  · rw [e3]; exact h.goes
theorem LRunAt.other {p : Prog} {H0 H H' : Hp} {ad aw as_ ld lg D : Addr} {s : RS} (h : LRunAt p H0 H ad aw as_ ld lg s) (b : But D H H') (n : H0 D = none) (n1 : ad ≠ D) (n2 : aw ≠ D) (n3 : as_ ≠ D) (n4 : ld ≠ D) (n5 : lg ≠ D) : LRunAt p H0 H' ad aw as_ ld lg s := by
  obtain ⟨kvs, h1, h2⟩ := h.mach.dic
  exact ⟨fun x o e => b x o (ne_of_none e n) (h.same x o e), ⟨⟨kvs, b _ _ n1 h1, h2⟩, b _ _ n2 h.mach.ws, b _ _ n3 h.mach.said, h.mach.ne⟩, b _ _ n4 h.cnt, b _ _ n5 h.goes, h.fa, h.fw, h.fs, h.fd, h.fg, h.n1, h.n2⟩
section
variable {P : Program} {w : World} {K : PySem.W.Frag} {mg : Str → Option Value} {base : Heap}
end
end DL
namespace DL
open PySem L2 DLR
abbrev sPRun : Stmt := top 35
abbrev pPRun : List Str := ["program", "fuel"]
abbrev FPRun (K : Frg) (mg : Str → Option Value) := Fd K mg "run" sPRun pPRun
abbrev nPRun : List Str := ["program", "fuel", "worths", "rows", "desk", "done", "gone", "end", "row", "_", "to", "goes", "begin"]
structure DRunAt (C : Addr) (p : Prog) (H0 H : Hp) (ad aw as_ ld lg : Addr) (s : RS) : Prop where
  same : Same1 H0 H
  mach : DeskM C H ad aw as_ s.m
  cnt : H ld = some (.lst (s.cnt.map V.int))
  goes : H lg = some (.dT (kmap s.goes))
  fa : H0 ad = none
  fw : H0 aw = none
  fs : H0 as_ = none
  fd : H0 ld = none
  fg : H0 lg = none
  n1 : as_ ≠ ld
  n2 : aw ≠ ld
theorem DRunAt.alloc {C : Addr} {p : Prog} {H0 H H' : Hp} {ad aw as_ ld lg : Addr} {s : RS} (h : DRunAt C p H0 H ad aw as_ ld lg s) (t : Same1 H H') : DRunAt C p H0 H' ad aw as_ ld lg s :=
  ⟨h.same.trans t, h.mach.same t, t _ _ h.cnt, t _ _ h.goes, h.fa, h.fw, h.fs, h.fd, h.fg, h.n1, h.n2⟩
theorem DRunAt.nad {C : Addr} {p : Prog} {H0 H : Hp} {ad aw as_ ld lg : Addr} {s : RS} (h : DRunAt C p H0 H ad aw as_ ld lg s) : ad ≠ ld ∧ aw ≠ lg ∧ as_ ≠ lg ∧ ld ≠ lg ∧ ad ≠ lg := by
  obtain ⟨dx, fs, h1, _⟩ := h.mach.ins
  exact ⟨ne_of h1 h.cnt (by intro z; cases z), ne_of h.mach.ws h.goes (by intro z; cases z), ne_of h.mach.said h.goes (by intro z; cases z), ne_of h.cnt h.goes (by intro z; cases z), ne_of h1 h.goes (by intro z; cases z)⟩
theorem DRunAt.setCnt {C : Addr} {p : Prog} {H0 H : Hp} {ad aw as_ ld lg : Addr} {s : RS} {l : List Int} (h : DRunAt C p H0 H ad aw as_ ld lg s) : DRunAt C p H0 (upd H ld (.lst (l.map V.int))) ad aw as_ ld lg { s with cnt := l } := by
  obtain ⟨q1, q2, q3, q4, q5⟩ := h.nad
  obtain ⟨dx, fs, h1, h2⟩ := h.mach.ins
  exact ⟨Same.mut h.same h.fd, ⟨⟨dx, fs, by rw [upd_ne q1]; exact h1, h2⟩, by rw [upd_ne h.n2]; exact h.mach.ws, by rw [upd_ne h.n1]; exact h.mach.said, h.mach.ne⟩, upd_same, by rw [upd_ne q4.symm]; exact h.goes, h.fa, h.fw, h.fs, h.fd, h.fg, h.n1, h.n2⟩
theorem DRunAt.setGoes {C : Addr} {p : Prog} {H0 H : Hp} {ad aw as_ ld lg : Addr} {s : RS} {g : GL} (h : DRunAt C p H0 H ad aw as_ ld lg s) : DRunAt C p H0 (upd H lg (.dT (kmap g))) ad aw as_ ld lg { s with goes := g } := by
  obtain ⟨q1, q2, q3, q4, q5⟩ := h.nad
  obtain ⟨dx, fs, h1, h2⟩ := h.mach.ins
  exact ⟨Same.mut h.same h.fg, ⟨⟨dx, fs, by rw [upd_ne q5]; exact h1, h2⟩, by rw [upd_ne q2]; exact h.mach.ws, by rw [upd_ne q3]; exact h.mach.said, h.mach.ne⟩, by rw [upd_ne q4]; exact h.cnt, upd_same, h.fa, h.fw, h.fs, h.fd, h.fg, h.n1, h.n2⟩
theorem DRunAt.setM {C : Addr} {p : Prog} {H0 H H' : Hp} {ad aw as_ ld lg : Addr} {s : RS} {m : Mach} (h : DRunAt C p H0 H ad aw as_ ld lg s) (b : But3 ad aw as_ H H') (hm : DeskM C H' ad aw as_ m) : DRunAt C p H0 H' ad aw as_ ld lg { s with m := m } := by
  obtain ⟨q1, q2, q3, q4, q5⟩ := h.nad
  exact ⟨same_but3 h.same b h.fa h.fw h.fs, hm, b _ _ q1.symm h.n2.symm h.n1.symm h.cnt, b _ _ q5.symm q2.symm q3.symm h.goes, h.fa, h.fw, h.fs, h.fd, h.fg, h.n1, h.n2⟩
theorem DRunAt.cast {C : Addr} {p : Prog} {H0 H : Hp} {ad aw as_ ld lg : Addr} {s t : RS} (h : DRunAt C p H0 H ad aw as_ ld lg s) (e1 : t.m = s.m) (e2 : t.cnt = s.cnt) (e3 : t.goes = s.goes) : DRunAt C p H0 H ad aw as_ ld lg t := by
  refine ⟨h.same, ?_, ?_, ?_, h.fa, h.fw, h.fs, h.fd, h.fg, h.n1, h.n2⟩
  · rw [e1]; exact h.mach
  · rw [e2]; exact h.cnt
  · rw [e3]; exact h.goes
theorem DRunAt.other {C : Addr} {p : Prog} {H0 H H' : Hp} {ad aw as_ ld lg D : Addr} {s : RS} (h : DRunAt C p H0 H ad aw as_ ld lg s) (b : But D H H') (n : H0 D = none) (n1 : ad ≠ D) (n2 : aw ≠ D) (n3 : as_ ≠ D) (n4 : ld ≠ D) (n5 : lg ≠ D) : DRunAt C p H0 H' ad aw as_ ld lg s := by
  obtain ⟨dx, fs, h1, h2⟩ := h.mach.ins
  exact ⟨fun x o e => b x o (ne_of_none e n) (h.same x o e), ⟨⟨dx, fs, b _ _ n1 h1, h2⟩, b _ _ n2 h.mach.ws, b _ _ n3 h.mach.said, h.mach.ne⟩, b _ _ n4 h.cnt, b _ _ n5 h.goes, h.fa, h.fw, h.fs, h.fd, h.fg, h.n1, h.n2⟩
theorem runS_go {p : Prog} {j r : Nat} (hh : (runS p j).here = some r) : runS p (j + 1) = ⟨(stepM (runS p j).m (p.rows.getD r .stop)).1, (runS p j).cnt.set r ((runS p j).cnt.getD r 0 + 1), goesOf (runS p j).goes r (stepM (runS p j).m (p.rows.getD r .stop)).2, (stepM (runS p j).m (p.rows.getD r .stop)).2⟩ := by
  show turnS p.rows (runS p j) = _
  unfold turnS
  rw [hh]
theorem runS_end {p : Prog} {j fuel : Nat} (h : (runS p j).here = none) (le : j ≤ fuel) : runS p fuel = runS p j := by
  have q := runS_none h (fuel - j)
  rw [show j + (fuel - j) = fuel by omega] at q
  exact q
section
variable {P : Program} {w : World} {K : PySem.W.Frag} {mg : Str → Option Value} {base : Heap}
theorem scPRun : FnScope nPRun pPRun (defScope sPRun) := ⟨rfl, rfl, rfl, by decide +kernel, rfl, by decide +kernel, by decide +kernel⟩
theorem ok_prun (cRun : FPRun K mg) (cCheckProgram : FCheckProgram K mg) (cCheckFuel : FCheckFuel K mg) (cCheckRow : FCheckRow K mg) (cCheckWorths : FCheckWorths K mg) (cHasShape : FHasShape K mg) (cPart : FPart K mg) (cIsBetween : FIsBetween K mg) (cIsNumber : FIsNumber K mg) (cOnDesk : FOnDesk K mg) (cUsesWorth : FUsesWorth K mg) (DM : DkM K mg) (T : Bt mg) (C : Cn mg) (CF : Cf mg) (CD : Cd mg) (Z : Pt K w mg) : FnOk P w K mg base CX0 5 cRun.f cRun.fd pPRun spRun := by
  have GCheckProgram : FnOk P w K mg base CX0 4 cCheckProgram.f cCheckProgram.fd ["program"] spCheckProgram := ok_checkProgram cCheckProgram cCheckRow cCheckWorths cHasShape cPart cIsBetween cIsNumber T C Z
  have GCheckFuel : FnOk P w K mg base CX0 3 cCheckFuel.f cCheckFuel.fd ["fuel"] spCheckFuel := ok_checkFuel cCheckFuel cIsBetween cIsNumber T CF
  have TC := DM.d
  have mStep := DM.mS
  have bStep := DM.bS
  have bI := DM.bI
  have MK := DM.mkd
  have GI : FnOk P w K mg base CX0 1 DM.fi DM.fdi ["self", "worths"] (spDInit DM.C) := ok_dinit DM.FI T DM.d
  have GStep : FnOk P w K mg base CX0 3 DM.fs DM.fds ["self", "row"] (spDStep DM.C) := ok_dstep DM.FS DM.FU DM.mU DM.bU DM.FO DM.mO DM.bO cOnDesk cUsesWorth T CD Z DM.d
  refine cRun.F.ok scPRun (fun vs H Q E h => ?_) (fun cdv A outer s H vs Q E hr h => ?_)
  · obtain ⟨pa, p, fuel, rfl, _⟩ := h
    rfl
  · obtain ⟨pa, p, fuel, rfl, hPA, g, hfu, k⟩ := h
    refine ⟨_, (pss_cons (ps_expr (pe_call GCheckProgram (hr.mono (by first | omega | decide)) (by rfl) cCheckProgram.m cCheckProgram.F.kp cCheckProgram.b .nil pass0 (pa_cons (pv 0) pa_nil)))
      (pss_cons (ps_expr (pe_call GCheckFuel (hr.mono (by first | omega | decide)) (by rfl) cCheckFuel.m cCheckFuel.F.kp cCheckFuel.b .nil pass0 (pa_cons (pv 1) pa_nil)))
      (pss_cons (ps_asg (pv 0) (pg_tup rfl (pgs_cons (pg_name (i := 2) scPRun.nd rfl (Or.inl rfl)) (pgs_cons (pg_name (i := 3) scPRun.nd rfl (Or.inl rfl)) pgs_nil))))
      (pss_cons (ps_set (i := 4) scPRun.nd rfl (Or.inl rfl) (pe_make MK GI (hr.mono (by first | omega | decide)) (by rfl) TC.m bI .nil pass0 (pa_cons (pe_callTy call_list_of (by rfl) T.list (by decide +kernel) (pa_cons (pv 2) pa_nil)) pa_nil)))
      (pss_cons (ps_set (i := 5) scPRun.nd rfl (Or.inl rfl) (pe_op op_rep (pe_lst (pa_cons pe_int pa_nil)) (pe_callB call_len_seq (by rfl) T.len PySem.boot_len (pa_cons (pv 3) pa_nil))))
      (pss_cons (ps_set (i := 6) scPRun.nd rfl (Or.inr rfl) pe_dnewT)
      (pss_cons (ps_set (i := 7) scPRun.nd rfl (Or.inl rfl) (pe_tup (pa_cons pe_str pa_nil)))
      (pss_cons (ps_set (i := 8) scPRun.nd rfl (Or.inl rfl) pe_int)
      (pss_cons (ps_for PassesOwn.never rfl (pi_range1 rfl T.range (pa_cons (pv 1) pa_nil)) (pg_name (i := 9) scPRun.nd rfl (Or.inl rfl))
          (pss_cons (ps_augS (pv 5) (pv 8) get_list pe_int ip_add set_list)
          (pss_cons (ps_set (i := 10) scPRun.nd rfl (Or.inl rfl) (pe_meth (pv 4) TC.cl mStep GStep (hr.mono (by first | omega | decide)) bStep .nil pass0 (pa_cons (pe_ix ix_tup (pv 3) (pv 8) (fun _ _ => rfl)) pa_nil)))
          (pss_cons (ps_if (pt_cmpR op_isN (pv 10) pe_non (nomark _))
              (pss_cons (ps_set (i := 7) scPRun.nd rfl (Or.inl rfl) (pe_tup (pa_cons pe_str pa_nil)))
              (pss_one ps_break))
              pss_nil)
          (pss_cons (ps_dput (hu_of hr) (pv 6) (pe_tup (pa_cons (pv 8) (pa_cons (pv 10) pa_nil))) (pe_op op_add (pe_dget2 (hu_of hr) (pv 6) (pe_tup (pa_cons (pv 8) (pa_cons (pv 10) pa_nil))) pe_int ⟨rfl, rfl, rfl, rfl⟩) pe_int) rfl)
          (pss_one (ps_set (i := 8) scPRun.nd rfl (Or.inl rfl) (pv 10))))))))
      (pss_cons (ps_setLc (i := 11) (own := [("begin", 12), ("to", 10)]) (g := gTup K 2 (gCons (gName 12) (gCons (gName 10) gNil))) (tt := tYes) rfl scPRun.nd rfl rfl (sw_true rfl rfl rfl (by decide +kernel)) (pi_list (pe_callB (cr_sortedDT rfl) (by rfl) T.sorted (by decide +kernel) (pa_cons (pv 6) pa_nil))) (blkOk_by (N := nPRun) (sc := defScope sPRun) (by decide +kernel)) (fun _ _ _ _ _ => (pg_tupK K rfl rfl (pgs_cons (pg_name (i := 12) scPRun.nd rfl (Or.inl rfl)) (pgs_cons (pg_name (i := 10) scPRun.nd rfl (Or.inl rfl)) pgs_nil)))) (fun _ _ _ _ _ => pts_nil) (fun _ _ _ _ _ => (pe_tup (pa_cons (pv 12) (pa_cons (pv 10) (pa_cons (pe_dget (hu_of hr) (pv 6) (pe_tup (pa_cons (pv 12) (pa_cons (pv 10) pa_nil))) (fun _ _ => rfl)) pa_nil))))))
      (pss_one (ps_ret (pe_tup (pa_cons (pe_fld (pv 4) rfl) (pa_cons (pv 7) (pa_cons (pv 5) (pa_cons (pv 11) pa_nil))))))))))))))))), ?_⟩
    have hR40 := g.r40
    have hW8 := g.w8
    have hR1 := g.r1
    refine ⟨_, rfl, pa, p, rfl, hPA, g, fun H1 s1 => ?_⟩
    refine ⟨_, rfl, (fuel : Int), rfl, by omega, by omega, ?_⟩
    obtain ⟨wa, ra, bs, hpa, hwa, hra, hR⟩ := hPA
    have hbr := Paired.length hR
    refine ⟨_, rfl, pa, _, rfl, SqT.of (s1 _ _ hpa), rfl, _, _, rfl, _, _, rfl, rfl, ?_⟩
    refine ⟨_, rfl, wa, _, rfl, .inr (SqT.of (s1 _ _ hwa)), fun aw haw1 => ?_⟩
    refine alloc haw1 fun H1a s1a e1a => ?_
    refine fun ad dx had hdx hne => ?_
    refine ⟨ad, dx, _, rfl, upd_same, fun as_ fs0 H2 b2 has i1 i2 i3 i4 i5 i6 i7 => ⟨rfl, ?_⟩⟩
    have has1 : H1a as_ = none := upd_none (upd_none has)
    have s2a : Same1 H1a H2 := fun x o e => b2 x o (ne_of_none e had) (by rw [upd_ne (ne_of_none e had), upd_ne (ne_of_none e hdx)]; exact e)
    have s2 : Same1 H1 H2 := s1a.trans s2a
    have M2 : DeskM DM.C H2 ad aw as_ ⟨0, p.ws, []⟩ := ⟨⟨dx, fs0, i1, i2, i3, i4, i5, i6⟩, s2a _ _ e1a, i7, ne_of_none e1a has1⟩
    have S2 := s1.trans s2
    refine ⟨(by show 1 ≤ sizeLine; decide), fun l0 hl0 => ?_⟩
    refine alloc hl0 fun H5 s5 e5 => ?_
    refine ⟨_, rfl, ra, _, rfl, .inr (SqT.of ((S2.trans s5) _ _ hra)), l0, _, _, rfl, rfl, e5, ?_, ?_, ?_, fun ld hld => ?_⟩
    · rw [List.length_map]; omega
    · rw [List.length_map]; omega
    · refine sz ?_
      show 1 * _ ≤ _
      rw [List.length_map]; omega
    refine alloc hld fun H6 s6 e6 => ?_
    rw [List.flatten_replicate_singleton, List.length_map, hbr] at e6
    refine fun lg hlg => ?_
    refine alloc hlg fun H7 s7 e7 => ?_
    have S47 := (s5.trans s6).trans s7
    have L0 : DRunAt DM.C p H H7 ad aw as_ ld lg (startS p) := by
      refine ⟨S2.trans S47, M2.same S47, ?_, e7, s1.free (s1a.free had), s1.free haw1, s1.free (s1a.free has1), (S2.trans s5).free hld, ((S2.trans s5).trans s6).free hlg, ne_of_none (s5 _ _ M2.said) hld, ne_of_none (s5 _ _ M2.ws) hld⟩
      rw [s7 _ _ e6]
      show _ = some (HO.lst ((List.replicate p.rows.length (0 : Int)).map V.int))
      rw [List.map_replicate, Int.toNat_natCast]
    refine ⟨(by show 1 ≤ sizeLine; decide), fun le0 hle0 => ?_⟩
    refine alloc hle0 fun H8 s8 e8 => ?_
    have L8 := L0.alloc s8
    refine ⟨_, rfl, (fuel : Int), rfl, by omega, by omega, ?_⟩
    refine range_elim (lo := 0) (n := fuel) (fun j σ H' => ∃ (x9 x10 : Option V) (r : Nat), σ = [some (.ref pa), some (.int (fuel : Int)), some (.ref wa), some (.ref ra), some (.ref ad), some (.ref ld), some (.ref lg), some (.ref le0), some (.int (r : Int)), x9, x10, none, none] ∧
      (runS p j).here = some r ∧ DRunAt DM.C p H H' ad aw as_ ld lg (runS p j) ∧ H' le0 = some (.tup [.str "long"]))
      (fun σ H' => ∃ (le : Addr) (x8 x9 x10 : Option V), σ = [some (.ref pa), some (.int (fuel : Int)), some (.ref wa), some (.ref ra), some (.ref ad), some (.ref ld), some (.ref lg), some (.ref le), x8, x9, x10, none, none] ∧
        DRunAt DM.C p H H' ad aw as_ ld lg (runS p fuel) ∧ H' le = some (.tup [.str (if (runS p fuel).here = none then "stop" else "long")]))
      ⟨none, none, 0, rfl, rfl, L8, e8⟩ ?_ ?_ ?_
    · rintro σ H10 ⟨le, x8, x9, x10, rfl, L10, e10⟩
      have O := runS_ok g fuel
      refine ⟨_, rfl, lg, _, (runS p fuel).goes.map (·.1), rfl, .inl L10.goes, kmap_keys _, fun pl ys L' hP hs hb hpl => ?_⟩
      have hPm := Paired.length hP
      refine alloc hpl fun H11 s11 e11 => ?_
      have L11 := L10.alloc s11
      obtain ⟨dx2, fs2, f1, _⟩ := L11.mach.ins
      refine ⟨pl, rfl, ⟨_, SqL.of e11⟩, fun D hD => ?_⟩
      have n1 : ad ≠ D := ne_of_none f1 hD
      have n2 : aw ≠ D := ne_of_none L11.mach.ws hD
      have n3 : as_ ≠ D := ne_of_none L11.mach.said hD
      have n4 : ld ≠ D := ne_of_none L11.cnt hD
      have n5 : lg ≠ D := ne_of_none L11.goes hD
      have n6 : pl ≠ D := ne_of_none e11 hD
      have n0 : H D = none := L11.same.free hD
      refine lc_list (K := K) (a := pl) (xs := ys.map V.ref) (fun i H' => ∃ zs : List Addr, DRunAt DM.C p H H' ad aw as_ ld lg (runS p fuel) ∧ H' D = some (.lst (zs.map V.ref)) ∧
          Paired (fun b q => H' b = some (.tup [.int q.1, .int q.2, .int (gcount (valV (runS p fuel).goes q))])) zs (L'.take i) ∧ H' pl = some (.lst (ys.map V.ref)) ∧ Kp H11 H')
        ⟨[], L11.alloc (Same.new hD), upd_same, .nil, by rw [upd_ne n6]; exact e11, Kp.new hD⟩ (fun i H' _ ⟨_, _, _, _, q, _⟩ => SqL.of q) ?_ ?_
      · rintro i x H12 hi ⟨zs, L12, hD12, hz, hpl12, k12⟩
        have hiy : i < ys.length := by
          have q := (List.getElem?_eq_some_iff.mp hi).1
          rwa [List.length_map] at q
        have ex : x = .ref ys[i] := by
          rw [List.getElem?_map, List.getElem?_eq_getElem hiy] at hi
          exact (Option.some.inj hi).symm
        subst ex
        obtain ⟨q, hq1, hq2⟩ := Paired.get hP (List.getElem?_eq_getElem hiy)
        have hb12 := k12 _ _ (s11 _ _ hq2)
        have hmem : q ∈ (runS p fuel).goes.map (·.1) := hb.perm.mem_iff.mp (List.mem_of_getElem? hq1)
        have hzl := Paired.length hz
        have hgl : (runS p fuel).goes.length ≤ 5000 := Nat.le_trans O.gl hfu
        have hLl : L'.length ≤ 5000 := by rw [hb.perm.length_eq, List.length_map]; exact hgl
        rw [List.length_take] at hzl
        refine ⟨ys[i], _, rfl, SqT.of hb12, rfl, _, _, rfl, _, _, rfl, rfl, ?_⟩
        refine ⟨rfl, _, rfl, _, rfl, _, rfl, _, rfl, _, rfl, (by show 2 ≤ sizeLine; decide), fun t ht => ?_⟩
        refine alloc ht fun H13 s13 e13 => ?_
        have L13 := L12.alloc s13
        have hget : DGet H13 lg (.ref t) (some (.int (gcount (valV (runS p fuel).goes q)))) := by
          have z := DGet.t (k := keyP q) L13.goes e13
          rw [kmap_val, ggot O.gok hmem] at z
          exact z
        refine ⟨lg, _, rfl, hget, (by show 3 ≤ sizeLine; decide), fun t2 ht2 => ?_⟩
        refine alloc ht2 fun H14 s14 e14 => ?_
        have S := s13.trans s14
        have hD14 := S _ _ hD12
        refine ⟨_, hD14, szl (by rw [List.length_map]; omega), zs ++ [t2], (L12.alloc S).other (fun a o n e => by rw [upd_ne n]; exact e) n0 n1 n2 n3 n4 n5, by rw [upd_same, List.map_append]; rfl, ?_, by rw [upd_ne n6]; exact S _ _ hpl12, (k12.trans (Kp.same S)).trans (Kp.lst hD14)⟩
        rw [List.take_add_one, hq1]
        refine Paired.app (Paired.mapP hz fun b q h => Kp.lst hD14 _ _ (S _ _ h)) (Paired.one (Kp.lst hD14 _ _ e14))
      · rintro H12 ⟨zs, L12, hD12, hz, hpl12, k12⟩
        rw [List.length_map, hPm, List.take_length] at hz
        obtain ⟨dx3, fs3, g1, g2, g3, g4, g5, g9⟩ := L12.mach.ins
        refine ⟨_, rfl, ad, _, _, _, _, rfl, g1, TC.cl, TC.nS, g5, _, rfl, _, rfl, _, rfl, (by show 4 ≤ sizeLine; decide), fun top ht => ?_⟩
        refine alloc ht fun H13 s13 e13 => ?_
        have L13 := L12.alloc s13
        obtain ⟨q1, q2, q3, q4, q5⟩ := L13.nad
        exact k top as_ le ld D zs L' H13 ⟨L13.same, e13, L13.fs, L13.fd, n0, L13.mach.said, s13 _ _ (k12 _ _ (s11 _ _ e10)), L13.cnt, s13 _ _ hD12, Paired.mapP hz fun b q h => s13 _ _ h, hs, hb, L13.n1, n3, n4⟩
    · intro Nx hNx
      rintro j σ H9 hj ⟨x9, x10, r, rfl, hh, L, ele⟩
      have O := runS_ok g j
      have hr := O.here r hh
      have er : p.rows.getD r .stop = p.rows[r] := by rw [List.getD_eq_getElem?_getD, List.getElem?_eq_getElem hr]; rfl
      have hcr : ((runS p j).cnt.map V.int)[r]? = some (.int ((runS p j).cnt.getD r 0)) := by
        rw [List.getElem?_map, List.getD_eq_getElem?_getD, List.getElem?_eq_getElem (by rw [O.dl]; exact hr)]
        rfl
      refine ⟨_, rfl, _, rfl, ld, _, r, _, rfl, rfl, SqL.of L.cnt, hcr, _, _, rfl, rfl, ld, _, _, r, rfl, rfl, L.cnt, ixN_nat (by rw [List.length_map, O.dl]; exact hr), ?_⟩
      have hle9 : le0 ≠ ld := ne_of ele L.cnt (by intro z; cases z)
      have L9 := L.setCnt (l := (runS p j).cnt.set r ((runS p j).cnt.getD r 0 + 1))
      rw [List.map_set] at L9
      revert L9
      refine change fun H10 b10 e10 => ?_
      intro L10
      have ele10 := b10 _ _ hle9 ele
      obtain ⟨b, hb1, hb2⟩ := Paired.getR hR (List.getElem?_eq_getElem hr)
      have hbV : (bs.map V.ref)[r]? = some (.ref b) := by rw [List.getElem?_map, hb1]; rfl
      have S10 := L10.same
      obtain ⟨dx3, fs3, g1, g2, g3, g4, g5, g9⟩ := L10.mach.ins
      refine ⟨_, rfl, ad, dx3, fs3, rfl, g1, g9 _ (by decide +kernel) (by decide +kernel) (by decide +kernel), _, rfl, _, rfl, ra, _, _, _, rfl, rfl, SqT.of (S10 _ _ hra), atI_nat hbV, ?_⟩
      refine ⟨ad, aw, as_, b, (runS p j).m, p.rows.getD r .stop, p.rows.length, rfl, L10.mach, O.m, by have := O.said; omega, ?_, ?_, fun H11 B11 M11 => ?_⟩
      · rw [er]; exact S10 _ _ hb2
      · rw [er, O.w]; exact g.ok _ (List.getElem_mem hr)
      have L11 := L10.setM B11 M11
      have ele11 := B11 _ _ (ne_of ele10 g1 (by intro z; cases z)) (ne_of ele10 L10.mach.ws (by intro z; cases z)) (ne_of ele10 L10.mach.said (by intro z; cases z)) ele10
      have en := runS_go hh
      refine ⟨_, rfl, rfl, _, rfl, ?_⟩
      cases ho : (stepM (runS p j).m (p.rows.getD r .stop)).2 with
      | none =>
        have en2 : (runS p (j + 1)).here = none := by rw [en, ho]
        have ef := runS_end en2 (show j + 1 ≤ fuel by omega)
        refine ⟨(by show 1 ≤ sizeLine; decide), fun le hle => ?_⟩
        refine alloc hle fun H12 s12 e12 => ?_
        refine hNx _ _ ⟨le, _, _, _, rfl, ?_, ?_⟩
        · rw [ef, en, ho]
          exact (L11.alloc s12).cast rfl rfl rfl
        · rw [ef, en2, if_pos rfl]
          exact e12
      | some n =>
        refine ⟨_, rfl, lg, rfl, .inr ⟨_, .inl L11.goes⟩, _, rfl, _, rfl, (by show 2 ≤ sizeLine; decide), fun t1 ht1 => ?_⟩
        refine alloc ht1 fun H12 s12 e12 => ?_
        have L12 := L11.alloc s12
        refine ⟨_, DGet.t (k := keyP ((r : Int), (n : Int))) L12.goes e12, ?_⟩
        rw [kmap_val, gget O.gok]
        refine ⟨_, _, rfl, rfl, _, rfl, _, rfl, _, rfl, (by show 2 ≤ sizeLine; decide), fun t2 ht2 => ?_⟩
        refine alloc ht2 fun H13 s13 e13 => ?_
        have L13 := L12.alloc s13
        refine ⟨lg, _, rfl, DPut.t (k := keyP ((r : Int), (n : Int))) L13.goes e13 (szl (by rw [kmap_len]; show (runS p j).goes.length < 100000; have := O.gl; omega)), ?_⟩
        have L14 := L13.setGoes (g := bump (runS p j).goes ((r : Int), (n : Int)))
        have ele13 := (s12.trans s13) _ _ ele11
        rw [kmap_put]
        refine ⟨_, rfl, _, _, n, rfl, by rw [en, ho], ?_, by rw [upd_ne (ne_of ele13 L13.goes (by intro z; cases z))]; exact ele13⟩
        rw [en, ho]
        exact L14.cast rfl rfl rfl
    · rintro σ H9 ⟨x9, x10, r, rfl, hh, L, ele⟩
      refine ⟨le0, _, _, _, rfl, L, ?_⟩
      rw [hh, if_neg (by simp)]
      exact ele
end
end DL
namespace DL
open PySem L2 DLR
/-! ### literals as data -/
def LtE (H0 : Hp) (σ : L2.St) (t : TE) (d : D) : Prop := ∀ (H : Hp) (Q : VK), Same1 H0 H → (∀ v H', Same1 H H' → At H' v d → Q v H') → t σ H Q
def LtA (H0 : Hp) (σ : L2.St) (t : TA) (ds : List D) (n : Nat) : Prop := ds.length = n ∧ ∀ (H : Hp) (Q : List V → Hp → Prop), Same1 H0 H → (∀ vs H', Same1 H H' → Ats H' vs ds → Q vs H') → t σ H Q
section
variable {H0 : Hp} {σ : L2.St}
theorem lt_int {i : Int} : LtE H0 σ (tC (.int i)) (.int i) := fun H Q _ k => k _ H (Same.refl _) zat_int
theorem lt_str {x : Str} : LtE H0 σ (tC (.str x)) (.str x) := fun H Q _ k => k _ H (Same.refl _) (by simp only [At])
theorem lt_non : LtE H0 σ (tC .non) .non := fun H Q _ k => k _ H (Same.refl _) (by simp only [At])
theorem lt_bl {b : Bool} : LtE H0 σ (tC (.bl b)) (.bl b) := fun H Q _ k => k _ H (Same.refl _) (by simp only [At])
theorem lt_var {i : Nat} {v : V} {d : D} (h : σ[i]? = some (some v)) (a : At H0 v d) : LtE H0 σ (tVar i) d := fun H Q s k => ⟨v, h, k v H (Same.refl _) (At.sm0 s _ _ a)⟩
theorem lt_of {t : TE} {n : Int} (h : ∀ (H : Hp) (Q : VK), Q (.int n) H → t σ H Q) : LtE H0 σ t (.int n) := fun H Q _ k => h H Q (k _ H (Same.refl _) zat_int)
theorem lt_add {i j : Nat} {a b : Int} (h : σ[i]? = some (some (.int a))) (g : σ[j]? = some (some (.int b))) : LtE H0 σ (tOp (rI0 fun i j => .int (i + j)) (tVar i) (tVar j)) (.int (a + b)) := lt_of fun H Q q => ⟨_, h, _, g, _, _, rfl, rfl, q⟩
theorem lt_neg {j : Nat} {b c : Int} (g : σ[j]? = some (some (.int b))) : LtE H0 σ (tOp (rI0 fun i j => .int (i - j)) (tUn (rU fun i => .int (-i)) (tC (.int c))) (tVar j)) (.int (-c - b)) := lt_of fun H Q q => ⟨_, rfl, _, g, _, _, rfl, rfl, q⟩
theorem lt_min {c : Int} : LtE H0 σ (tUn (rU fun i => .int (-i)) (tC (.int c))) (.int (-c)) := lt_of fun H Q q => ⟨_, rfl, q⟩
theorem lt_nil : LtA H0 σ tNil [] 0 := ⟨rfl, fun H Q _ k => k [] H (Same.refl _) zats_nil⟩
theorem lt_cons {t : TE} {ts : TA} {d : D} {ds : List D} {n : Nat} (h : LtE H0 σ t d) (hr : LtA H0 σ ts ds n) : LtA H0 σ (tCons t ts) (d :: ds) (n + 1) := ⟨congrArg (· + 1) hr.1, fun H Q s k =>
  h H _ s fun v H1 s1 a1 => hr.2 H1 _ (s.trans s1) fun vs H2 s2 a2 => k (v :: vs) H2 (s1.trans s2) (zats_cons (At.sm0 s2 _ _ a1) a2)⟩
theorem lt_tup {ts : TA} {ds : List D} {n : Nat} (hr : LtA H0 σ ts ds n) (hl : n ≤ 1000 := by decide) : LtE H0 σ (tTup ts) (.tup ds) := fun H Q s k =>
  hr.2 H _ s fun vs H1 s1 a1 => ⟨sz (by rw [a1.len, hr.1]; omega), fun p hp => k _ _ (Same.mut s1 (s1.free hp)) (zat_tup upd_same (Ats.sm0 (Same.new hp) _ _ a1))⟩
theorem zat_lst {H : Hp} {a : Addr} {vs : List V} {ds : List D} (h : H a = some (.lst vs)) (q : Ats H vs ds) : At H (.ref a) (.lst ds) := by
  simp only [At]
  exact ⟨a, vs, rfl, h, q⟩
theorem zat_lstI {H : Hp} {v : V} {ds : List D} (h : At H v (.lst ds)) : ∃ a vs, v = .ref a ∧ H a = some (.lst vs) ∧ Ats H vs ds := by simpa [At] using h
theorem zat_tupI {H : Hp} {v : V} {ds : List D} (h : At H v (.tup ds)) : ∃ a vs, v = .ref a ∧ H a = some (.tup vs) ∧ Ats H vs ds := by simpa [At] using h
theorem lt_lst {ts : TA} {ds : List D} {n : Nat} (hr : LtA H0 σ ts ds n) (hl : n ≤ 1000 := by decide) : LtE H0 σ (tLst ts) (.lst ds) := fun H Q s k =>
  hr.2 H _ s fun vs H1 s1 a1 => ⟨sz (by rw [a1.len, hr.1]; omega), fun p hp => k _ _ (Same.mut s1 (s1.free hp)) (zat_lst upd_same (Ats.sm0 (Same.new hp) _ _ a1))⟩
theorem lt_cat {t u : TE} {a b : List D} (ha : LtE H0 σ t (.lst a)) (hb : LtE H0 σ u (.lst b)) (hl : a.length + b.length ≤ 1000) : LtE H0 σ (tOp rCat t u) (.lst (a ++ b)) := fun H Q s k =>
  ha H _ s fun v H1 s1 a1 => hb H1 _ (s.trans s1) fun u H2 s2 a2 => by
    obtain ⟨p, xs, rfl, h1, q1⟩ := zat_lstI a1
    obtain ⟨r, ys, rfl, h2, q2⟩ := zat_lstI a2
    refine ⟨p, r, xs, ys, rfl, rfl, s2 _ _ h1, h2, sz (by rw [q1.len, q2.len]; omega), fun l hl => ?_⟩
    exact k _ _ (Same.mut (s1.trans s2) (s1.free (s2.free hl))) (zat_lst upd_same (Ats.sm0 (Same.new hl) _ _ (zats_app (Ats.sm0 s2 _ _ q1) q2)))
theorem LtE.asg {t : TE} {d : D} {H : Hp} {g : TG} {u : TS} {D0 : Ends} (h : LtE H σ t d) (k : ∀ v H', Same1 H H' → At H' v d → g v σ H' (u D0)) : tSeq (tAsg t g) u D0 σ H := h H _ (Same.refl _) k
theorem LtE.go {t : TE} {d : D} {H : Hp} {Q : VK} (h : LtE H σ t d) (k : ∀ v H', Same1 H H' → At H' v d → Q v H') : t σ H Q := h H Q (Same.refl _) k
theorem LtE.asgN {t u : TE} {a b : List D} {H : Hp} {g : TG} {w : TS} {D0 : Ends} (ha : LtE H σ t (.lst a)) (hb : LtE H σ u (.lst b)) (hl : a.length + b.length ≤ 1000) (k : ∀ l vs H', Same1 H H' → H l = none → H' l = some (.lst vs) → Ats H' vs (a ++ b) → g (.ref l) σ H' (w D0)) : tSeq (tAsg (tOp rCat t u) g) w D0 σ H :=
  ha H _ (Same.refl _) fun v H1 s1 a1 => hb H1 _ s1 fun u H2 s2 a2 => by
    obtain ⟨p, xs, rfl, h1, q1⟩ := zat_lstI a1
    obtain ⟨r, ys, rfl, h2, q2⟩ := zat_lstI a2
    refine ⟨p, r, xs, ys, rfl, rfl, s2 _ _ h1, h2, sz (by rw [q1.len, q2.len]; omega), fun l hl => ?_⟩
    exact k _ _ _ (Same.mut (s1.trans s2) (s1.free (s2.free hl))) (s1.free (s2.free hl)) upd_same (Ats.sm0 (Same.new hl) _ _ (zats_app (Ats.sm0 s2 _ _ q1) q2))
theorem lt_op {g : Int → Int → Int} {t u : TE} {a b : Int} (ha : LtE H0 σ t (.int a)) (hb : LtE H0 σ u (.int b)) : LtE H0 σ (tOp (rI0 fun i j => .int (g i j)) t u) (.int (g a b)) := fun H Q s k =>
  ha H _ s fun v H1 s1 a1 => hb H1 _ (s.trans s1) fun u H2 s2 a2 => by
    have e1 : v = .int a := by simpa [At] using a1
    have e2 : u = .int b := by simpa [At] using a2
    exact ⟨a, b, e1, e2, k _ _ (s1.trans s2) zat_int⟩
theorem lt_un {t : TE} {a : Int} (ha : LtE H0 σ t (.int a)) : LtE H0 σ (tUn (rU fun i => .int (-i)) t) (.int (-a)) := fun H Q s k =>
  ha H _ s fun v H1 s1 a1 => by
    have e1 : v = .int a := by simpa [At] using a1
    exact ⟨a, e1, k _ _ s1 zat_int⟩
theorem lt_pow {a b : Int} (h : CPow a b) : LtE H0 σ (tOp (rI CPow fun i j => .int (i ^ j.toNat)) (tC (.int a)) (tC (.int b))) (.int (a ^ b.toNat)) := lt_of fun H Q q => ⟨_, _, rfl, rfl, h, q⟩
theorem lt_ixT {K : Frg} {i j : Nat} {o : Addr} {ds : List D} {d : D} (h : σ[i]? = some (some (.ref o))) (a : At H0 (.ref o) (.tup ds)) (hj : ds[j]? = some d) : LtE H0 σ (tOp (rIxT K) (tVar i) (tC (.int (j : Int)))) d := fun H Q s k => by
  obtain ⟨o', vs, e, h1, h2⟩ := zat_tupI (At.sm0 s _ _ a)
  cases e
  obtain ⟨hj', _⟩ := List.getElem?_eq_some_iff.mp hj
  obtain ⟨v, x, g1, g2, g3⟩ := h2.get j hj'
  rw [hj] at g2
  cases g2
  exact ⟨_, h, o, _, _, _, rfl, rfl, SqT.of h1, atI_nat g1, k v H (Same.refl _) g3⟩
theorem zats_rep {H : Hp} {vs : List V} {ds : List D} (h : Ats H vs ds) : ∀ n : Nat, Ats H (List.replicate n vs).flatten (List.replicate n ds).flatten
  | 0 => zats_nil
  | n + 1 => by
    rw [List.replicate_succ, List.replicate_succ, List.flatten_cons, List.flatten_cons]
    exact zats_app h (zats_rep h n)
theorem lt_rep {t u : TE} {ds : List D} {n : Nat} {K : Frg} (ht : LtE H0 σ t (.tup ds)) (hu : LtE H0 σ u (.int (n : Int))) (h1 : 1 ≤ ds.length) (hd : ds.length ≤ 1000) (hn : n ≤ 1000) : LtE H0 σ (tOp (rRepN K) t u) (.tup (List.replicate n ds).flatten) := fun H Q s k =>
  ht H _ s fun v H1 s1 a1 => hu H1 _ (s.trans s1) fun u H2 s2 a2 => by
    have e2 : u = .int (n : Int) := by simpa [At] using a2
    obtain ⟨p, xs, rfl, e1, q1⟩ := zat_tupI a1
    have hl := q1.len
    refine ⟨p, (n : Int), xs, rfl, e2, s2 _ _ e1, (by intro z; rw [z] at hl; simp at hl; omega), by omega, by omega, by omega, fun t' H3 s3 e3 => ?_⟩
    rw [Int.toNat_natCast] at e3
    exact k _ _ (s1.trans (s2.trans s3)) (zat_tup e3 (zats_rep (Ats.sm0 (s2.trans s3) _ _ q1) n))
theorem lt_take {t : TE} {ds : List D} {j : Nat} {n : Nat} (ht : LtE H0 σ t (.tup ds)) (h : σ[j]? = some (some (.int (n : Int)))) : LtE H0 σ (tSl DLR.rSlS t tNoPart (tPart (tVar j))) (.tup (ds.take n)) := fun H Q s k =>
  ht H _ s fun v H1 s1 a1 => by
    obtain ⟨p, xs, rfl, e1, q1⟩ := zat_tupI a1
    refine ⟨_, h, _, rfl, p, xs, rfl, e1, fun b H2 s2 e2 => k _ _ (s1.trans s2) (zat_tup e2 ?_)⟩
    rw [zcut_to]
    exact zats_take n (Ats.sm0 s2 _ _ q1)
theorem lt_drop {t : TE} {ds : List D} {j : Nat} {n : Nat} (ht : LtE H0 σ t (.tup ds)) (h : σ[j]? = some (some (.int (n : Int)))) : LtE H0 σ (tSl DLR.rSlS t (tPart (tVar j)) tNoPart) (.tup (ds.drop n)) := fun H Q s k =>
  ht H _ s fun v H1 s1 a1 => by
    obtain ⟨p, xs, rfl, e1, q1⟩ := zat_tupI a1
    refine ⟨_, h, _, rfl, p, xs, rfl, e1, fun b H2 s2 e2 => k _ _ (s1.trans s2) (zat_tup e2 ?_)⟩
    rw [dropn]
    exact zats_drop n (Ats.sm0 s2 _ _ q1)
theorem lt_last {t : TE} {ds : List D} {n : Nat} (hn : 0 < n) (ht : LtE H0 σ t (.tup ds)) : LtE H0 σ (tSl DLR.rSlS t (tPart (tUn (rU fun i => .int (-i)) (tC (.int (n : Int))))) tNoPart) (.tup (ds.drop (ds.length - n))) := fun H Q s k =>
  ht H _ s fun v H1 s1 a1 => by
    obtain ⟨p, xs, rfl, e1, q1⟩ := zat_tupI a1
    refine ⟨_, rfl, _, rfl, p, xs, rfl, e1, fun b H2 s2 e2 => k _ _ (s1.trans s2) (zat_tup e2 ?_)⟩
    have e : cutV xs (some (-(n : Int))) none = xs.drop (ds.length - n) := by
      unfold cutV
      have e : HT.sIx xs.length 0 (some (-(n : Int))) = ds.length - n := by
        show (if -(n : Int) < 0 then (-(n : Int) + (xs.length : Int)).toNat else _) = _
        rw [if_pos (by omega), q1.len]
        omega
      rw [e, HT.sIx_none, List.take_of_length_le (by rw [List.length_drop]; exact Nat.le_refl _)]
    rw [e]
    exact zats_drop _ (Ats.sm0 s2 _ _ q1)
theorem lt_catS {t u : TE} {a b : List D} (ha : LtE H0 σ t (.tup a)) (hb : LtE H0 σ u (.tup b)) (hl : a.length + b.length ≤ 1000) : LtE H0 σ (tOp rCatS t u) (.tup (a ++ b)) := fun H Q s k =>
  ha H _ s fun v H1 s1 a1 => hb H1 _ (s.trans s1) fun u H2 s2 a2 => by
    obtain ⟨p, xs, rfl, h1, q1⟩ := zat_tupI a1
    obtain ⟨r, ys, rfl, h2, q2⟩ := zat_tupI a2
    refine ⟨p, r, xs, ys, rfl, rfl, s2 _ _ h1, h2, sz (by rw [q1.len, q2.len]; omega), fun l H3 s3 e3 => ?_⟩
    exact k _ _ (s1.trans (s2.trans s3)) (zat_tup e3 (zats_app (Ats.sm0 (s2.trans s3) _ _ q1) (Ats.sm0 s3 _ _ q2)))
theorem lt_lstN {ts : TA} {ds : List D} {n : Nat} {H : Hp} {Q : VK} (hr : LtA H σ ts ds n) (k : ∀ l vs H', Same1 H H' → H l = none → H' l = some (.lst vs) → Ats H' vs ds → Q (.ref l) H') (hl : n ≤ 1000 := by decide) : tLst ts σ H Q :=
  hr.2 H _ (Same.refl _) fun vs H1 s1 a1 => ⟨sz (by rw [a1.len, hr.1]; omega), fun p hp => k _ _ _ (Same.mut s1 (s1.free hp)) (s1.free hp) upd_same (Ats.sm0 (Same.new hp) _ _ a1)⟩
theorem LtA.ixAsg {ts : TA} {ds : List D} {n : Nat} {H : Hp} {g : TG} {u : TS} {D0 : Ends} {K : Frg} {tb : TE} (hr : LtA H σ ts ds n) (k : ∀ l vs H', Same1 H H' → H l = none → H' l = some (.lst vs) → Ats H' vs ds → tb σ H' (fun y H2 => rIxL K (.ref l) y H2 (fun v H3 => g v σ H3 (u D0)))) (hl : n ≤ 1000 := by decide) : tSeq (tAsg (tOp (rIxL K) (tLst ts) tb) g) u D0 σ H :=
  lt_lstN (Q := fun x H1 => tb σ H1 (fun y H2 => rIxL K x y H2 (fun v H3 => g v σ H3 (u D0)))) hr k hl
theorem LtA.asgL {ts : TA} {ds : List D} {n : Nat} {H : Hp} {g : TG} {u : TS} {D0 : Ends} (hr : LtA H σ ts ds n) (k : ∀ l vs H', Same1 H H' → H l = none → H' l = some (.lst vs) → Ats H' vs ds → g (.ref l) σ H' (u D0)) (hl : n ≤ 1000 := by decide) : tSeq (tAsg (tLst ts) g) u D0 σ H :=
  lt_lstN (Q := fun v H1 => g v σ H1 (u D0)) hr k hl
theorem lt_lc {K : Frg} {i j l : Nat} {x : Str} {ds : List D} (h : σ[i]? = some (some (.ref l))) (hl : At H0 (.ref l) (.lst ds)) (hf : ∀ d ∈ ds, d.flat) (hn : ds.length ≤ 1000) (hj : j < σ.length) :
    LtE H0 σ (tLc (iList K (tVar i)) (gName j) tYes (tTup (tCons (tVar j) (tCons (tC (.str x)) tNil))) [j]) (.lst (ds.map fun d => .tup [d, .str x])) := fun H Q s k => by
  obtain ⟨a, vs, e, h1, q1⟩ := zat_lstI (At.sm0 s _ _ hl)
  cases e
  refine ⟨_, h, l, rfl, ⟨_, SqL.of h1⟩, fun dd hdd => ?_⟩
  have hlen := q1.len
  refine lc_list (K := K) (a := l) (xs := vs) (fun q H' => ∃ us, Same1 H H' ∧ H' dd = some (.lst us) ∧ us.length = q ∧ Ats H' us ((ds.take q).map fun d => .tup [d, .str x])) ⟨[], Same.new hdd, upd_same, rfl, by simp [Ats]⟩ (fun q H' _ ⟨_, z, _⟩ => SqL.of (z _ _ h1)) ?_ ?_
  · rintro q v H1 hv ⟨us, s1, e1, ul, a1⟩
    obtain ⟨hq, _⟩ := List.getElem?_eq_some_iff.mp hv
    have hwl : j < (wipe σ [j]).length := by rw [wipe_length]; exact hj
    have hs : ((wipe σ [j]).set j (some v))[j]? = some (some v) := List.getElem?_set_self hwl
    refine ⟨by show ((σ.set j none).set j (some v)).set j none = σ.set j none; rw [List.set_set, List.set_set], ?_⟩
    dsimp only [tYes]
    rw [if_pos rfl]
    refine ⟨_, hs, (by show 2 ≤ sizeLine; decide), fun p hp => ?_⟩
    obtain ⟨v', y, g1, g2, g3⟩ := q1.get q (by omega)
    rw [hv] at g1
    cases g1
    have nD : dd ≠ p := ne_of_none e1 hp
    have ky : y.flat := hf y (List.mem_of_getElem? g2)
    refine ⟨us, by rw [upd_ne nD]; exact e1, szl (by omega), us ++ [.ref p], ?_, upd_same, by rw [List.length_append, ul]; rfl, ?_⟩
    · exact Same.mut (s1.trans (Same.new hp)) hdd
    have kp : Kp H1 (upd (upd H1 p (.tup [v, .str x])) dd (.lst (us ++ [.ref p]))) := (Kp.new hp).trans (Kp.lst (by rw [upd_ne nD]; exact e1))
    rw [List.take_succ, List.map_append, g2]
    refine zats_app (Ats.keep kp _ _ (flatD_iff.mpr fun z hz => ?_) a1) (zats_cons (zat_tup (by rw [upd_ne nD.symm]; exact upd_same) (zats_cons ?_ (zats_cons (by simp only [At]) zats_nil))) zats_nil)
    · obtain ⟨w, hw, rfl⟩ := List.mem_map.mp hz
      refine flat_tup fun z hz => ?_
      rcases List.mem_cons.mp hz with rfl | hz
      · exact hf _ (List.mem_of_mem_take hw)
      · rw [List.mem_singleton.mp hz]
        simp [D.flat]
    · exact At.keep kp _ _ ky (At.sm0 s1 _ _ g3)
  · rintro H' ⟨us, s1, e1, ul, a1⟩
    refine k _ _ s1 (zat_lst e1 ?_)
    rw [hlen, List.take_length] at a1
    exact a1
end
/-! ### _law_row_bad: something in a row's place that is none -/
abbrev sRowBad : Stmt := top 113
abbrev nRowBad : List Str := ["_law_d","_law_worths","_law_rows","_law_far","_law_shapes","_law_some","_law_one"]
abbrev FRowBad (K : Frg) (mg : Str → Option Value) := Fd K mg "_law_row_bad" sRowBad ["_law_d", "_law_worths", "_law_rows"]
structure RowBad (W N : Nat) (e : D) (why : Str) : Prop where
  bad : rowF W N e = some why
  fit : e.fit
  flat : e.flat
  why : why = ("shape" : Str) ∨ why = ("next" : Str) ∨ why = ("worth" : Str)
def PairBad (W N : Nat) (x : D) : Prop := ∃ e why, x = .tup [e, .str why] ∧ RowBad W N e why
def spRowBad (K : Frg) : Sp := fun vs H Q _ => ∃ (d sa : Addr) (ns : List Int) (W N : Nat), vs = [.ref d, .int (W : Int), .int (N : Int)] ∧ Ent K H d sa ns ∧ W ≤ 8 ∧ 1 ≤ N ∧ N ≤ 40 ∧
  ∀ t v e why H', Dc K H H' d sa ns → H' t = some (.tup [v, .str why]) → At H' v e → RowBad W N e why → Q (.ref t) H'
theorem rowF_shape {W N : Nat} {d : D} (h : shapeF d = false) : rowF W N d = some ("shape" : Str) := by
  unfold rowF
  rw [if_neg (by rw [h]; decide)]
theorem rowF_of {W N : Nat} {x : Str} {ps : List Str} {r : List D} (hp : partsOf x = some ps) (hl : r.length = ps.length) (hn : r.all D.num = true) : rowF W N (.tup (.str x :: r)) = argsF W N ps r := by
  have hs : shapeF (.tup (.str x :: r)) = true := by
    show (match partsOf x with
      | some ps => decide (r.length = ps.length) && r.all D.num
      | none => false) = true
    rw [hp, hn]
    show (decide (r.length = ps.length) && true) = true
    rw [decide_eq_true hl]
    rfl
  unfold rowF
  rw [if_pos hs]
  show argsF W N ((partsOf x).getD []) r = _
  rw [hp]
  rfl
theorem args_w {W N : Nat} {i : Int} {ns : List Str} {ds : List D} : argsF W N ("worth" :: ns) (.int i :: ds) = if 0 ≤ i ∧ i < (W : Int) then argsF W N ns ds else some ("worth" : Str) := by
  show (if 0 ≤ i ∧ i < (if ("worth" : Str) = "worth" then (W : Int) else (N : Int)) then argsF W N ns ds else some ("worth" : Str)) = _
  rw [if_pos rfl]
theorem args_n {W N : Nat} {i : Int} {ns : List Str} {ds : List D} : argsF W N ("next" :: ns) (.int i :: ds) = if 0 ≤ i ∧ i < (N : Int) then argsF W N ns ds else some ("next" : Str) := by
  show (if 0 ≤ i ∧ i < (if ("next" : Str) = "worth" then (W : Int) else (N : Int)) then argsF W N ns ds else some ("next" : Str)) = _
  rw [if_neg (by decide +kernel : ¬ (("next" : Str) = "worth"))]
theorem pb_shape {W N : Nat} {e : D} (h : shapeF e = false) (fit : e.fit) (flat : e.flat) : PairBad W N (.tup [e, .str "shape"]) := ⟨e, _, rfl, rowF_shape h, fit, flat, .inl rfl⟩
theorem pb_next {W N : Nat} {e : D} (h : rowF W N e = some ("next" : Str)) (fit : e.fit) (flat : e.flat) : PairBad W N (.tup [e, .str "next"]) := ⟨e, _, rfl, h, fit, flat, .inr (.inl rfl)⟩
theorem pb_worth {W N : Nat} {e : D} (h : rowF W N e = some ("worth" : Str)) (fit : e.fit) (flat : e.flat) : PairBad W N (.tup [e, .str "worth"]) := ⟨e, _, rfl, h, fit, flat, .inr (.inr rfl)⟩
def shapes1 : List D := [.tup [], .tup [.str "halt"], .tup [.str "say"], .tup [.str "stop", .int 0], .tup [.str "test", .int 0], .tup [.str "test", .int 0, .int 0, .int 0], .int 5, .tup [.str "say", .bl true], .tup [.str "say", .str "0"]]
def shapes2 : List D := [.tup [.str "", .int 0], .tup [.int 1, .int 0], .non, .tup [.str "add", .int 99, .non], .tup [.str "say", .tup [.int 0]]]
theorem shapes_bad : ∀ e ∈ shapes1 ++ shapes2, shapeF e = false ∧ e.fit ∧ e.flat := by
  intro e he
  simp only [shapes1, shapes2, List.cons_append, List.nil_append, List.mem_cons, List.not_mem_nil, or_false] at he
  rcases he with rfl | rfl | rfl | rfl | rfl | rfl | rfl | rfl | rfl | rfl | rfl | rfl | rfl | rfl
  all_goals exact ⟨by decide +kernel, by simp [D.fit, fitL], by simp [D.flat, flatD]⟩
def someA (N : Nat) (far : Int) : List D := [.tup [.tup [.str "say", .int ((N : Int) + far)], .str "next"], .tup [.tup [.str "test", .int 0, .int (-1 - far)], .str "next"]]
def someB (W N : Nat) (far : Int) : List D := [.tup [.tup [.str "test", .int ((N : Int) + far), .int 99], .str "next"], .tup [.tup [.str "load", .int ((W : Int) + far), .int 99], .str "worth"]]
def someC (far : Int) : D := .tup [.tup [.str "store", .int (-1 - far), .int 0], .str "worth"]
def someD (N : Nat) (far : Int) : List D := [.tup [.tup [.str "take", .int 0, .int ((N : Int) + far)], .str "next"], .tup [.tup [.str "take", .int 0], .str "shape"], .tup [.tup [.str "load", .int 0, .int (-1)], .str "next"]]
theorem someA_bad {W N : Nat} {far : Int} (h0 : 0 ≤ far) (hN : 1 ≤ N) : ∀ x ∈ someA N far, PairBad W N x := by
  intro x hx
  simp only [someA, List.mem_cons, List.not_mem_nil, or_false] at hx
  rcases hx with rfl | rfl
  · exact pb_next ((rowF_of (x := ("say" : Str)) (partsOf_row (.say 0)) rfl rfl).trans (args_n.trans (if_neg (by omega)))) (by simp [D.fit, fitL]) (by simp [D.flat, flatD])
  · exact pb_next ((rowF_of (x := ("test" : Str)) (partsOf_row (.test 0 0)) rfl rfl).trans (args_n.trans ((if_pos (by omega)).trans (args_n.trans (if_neg (by omega)))))) (by simp [D.fit, fitL]) (by simp [D.flat, flatD])
theorem someB_bad {W N : Nat} {far : Int} (h0 : 0 ≤ far) : ∀ x ∈ someB W N far, PairBad W N x := by
  intro x hx
  simp only [someB, List.mem_cons, List.not_mem_nil, or_false] at hx
  rcases hx with rfl | rfl
  · exact pb_next ((rowF_of (x := ("test" : Str)) (partsOf_row (.test 0 0)) rfl rfl).trans (args_n.trans (if_neg (by omega)))) (by simp [D.fit, fitL]) (by simp [D.flat, flatD])
  · exact pb_worth ((rowF_of (x := ("load" : Str)) (partsOf_row (.load 0 0)) rfl rfl).trans (args_w.trans (if_neg (by omega)))) (by simp [D.fit, fitL]) (by simp [D.flat, flatD])
theorem someC_bad {W N : Nat} {far : Int} (h0 : 0 ≤ far) : PairBad W N (someC far) :=
  pb_worth ((rowF_of (x := ("store" : Str)) (partsOf_row (.store 0 0)) rfl rfl).trans (args_w.trans (if_neg (by omega)))) (by simp [D.fit, fitL]) (by simp [D.flat, flatD])
theorem someD_bad {W N : Nat} {far : Int} (h0 : 0 ≤ far) (hW : 0 < W) : ∀ x ∈ someD N far, PairBad W N x := by
  intro x hx
  simp only [someD, List.mem_cons, List.not_mem_nil, or_false] at hx
  rcases hx with rfl | rfl | rfl
  · exact pb_next ((rowF_of (x := ("take" : Str)) (partsOf_row (.take 0 0)) rfl rfl).trans (args_w.trans ((if_pos (by omega)).trans (args_n.trans (if_neg (by omega)))))) (by simp [D.fit, fitL]) (by simp [D.flat, flatD])
  · exact pb_shape (by decide +kernel) (by simp [D.fit, fitL]) (by simp [D.flat, flatD])
  · exact pb_next ((rowF_of (x := ("load" : Str)) (partsOf_row (.load 0 0)) rfl rfl).trans (args_w.trans ((if_pos (by omega)).trans (args_n.trans (if_neg (by omega)))))) (by simp [D.fit, fitL]) (by simp [D.flat, flatD])
theorem PairBad.flat {W N : Nat} {x : D} (h : PairBad W N x) : x.flat := by
  obtain ⟨e, why, rfl, b⟩ := h
  refine flat_tup fun z hz => ?_
  rcases List.mem_cons.mp hz with rfl | hz
  · exact b.flat
  · rw [List.mem_singleton.mp hz]
    simp [D.flat]
section
variable {P : Program} {w : World} {K : PySem.W.Frag} {mg : Str → Option Value} {base : Heap}
theorem scRowBad : FnScope nRowBad ["_law_d", "_law_worths", "_law_rows"] (defScope sRowBad) := ⟨rfl, rfl, rfl, by decide +kernel, rfl, by decide +kernel, by decide +kernel⟩
theorem ok_rowBad (c : FRowBad K mg) (cNext : FNext K mg) (T : Bt mg) : FnOk P w K mg base CX0 2 c.f c.fd ["_law_d", "_law_worths", "_law_rows"] (spRowBad K) := by
  have GNext : FnOk P w K mg base CX0 1 cNext.f cNext.fd ["_law_dice_here", "_law_many"] (spNext K) := ok_next cNext.F T
  refine c.F.ok scRowBad (fun vs H Q E h => ?_) (fun cdv A outer s H vs Q E hr h => ?_)
  · obtain ⟨d, sa, ns, W, N, rfl, _⟩ := h
    rfl
  · obtain ⟨d, sa, ns, W, N, rfl, hE, hW, hN1, hN, k⟩ := h
    refine ⟨_, (pss_cons (ps_set (i := 3) scRowBad.nd rfl (Or.inl rfl) (pe_ix ix_list (pe_lst (pa_cons pe_int (pa_cons pe_int (pa_cons (pe_call GNext (hr.mono (by first | omega | decide)) (by rfl) cNext.m cNext.F.kp cNext.b .nil pass0 (pa_cons (pv 0) (pa_cons (pe_op op_pow pe_int pe_int) pa_nil))) pa_nil)))) (pe_call GNext (hr.mono (by first | omega | decide)) (by rfl) cNext.m cNext.F.kp cNext.b .nil pass0 (pa_cons (pv 0) (pa_cons pe_int pa_nil))) (fun _ _ => rfl)))
      (pss_cons (ps_set (i := 4) scRowBad.nd rfl (Or.inl rfl) (pe_lst (pa_cons (pe_tup pa_nil) (pa_cons (pe_tup (pa_cons pe_str pa_nil)) (pa_cons (pe_tup (pa_cons pe_str pa_nil)) (pa_cons (pe_tup (pa_cons pe_str (pa_cons pe_int pa_nil))) (pa_cons (pe_tup (pa_cons pe_str (pa_cons pe_int pa_nil))) (pa_cons (pe_tup (pa_cons pe_str (pa_cons pe_int (pa_cons pe_int (pa_cons pe_int pa_nil))))) (pa_cons pe_int (pa_cons (pe_tup (pa_cons pe_str (pa_cons pe_bl pa_nil))) (pa_cons (pe_tup (pa_cons pe_str (pa_cons pe_str pa_nil))) pa_nil)))))))))))
      (pss_cons (ps_set (i := 4) scRowBad.nd rfl (Or.inl rfl) (pe_op op_cat (pv 4) (pe_lst (pa_cons (pe_tup (pa_cons pe_str (pa_cons pe_int pa_nil))) (pa_cons (pe_tup (pa_cons pe_int (pa_cons pe_int pa_nil))) (pa_cons pe_non (pa_cons (pe_tup (pa_cons pe_str (pa_cons pe_int (pa_cons pe_non pa_nil)))) (pa_cons (pe_tup (pa_cons pe_str (pa_cons (pe_tup (pa_cons pe_int pa_nil)) pa_nil))) pa_nil))))))))
      (pss_cons (ps_set (i := 5) scRowBad.nd rfl (Or.inl rfl) (pe_op op_cat (pe_lc (own := [("_law_one", 6)]) (g := gName 6) (tt := tYes) rfl scRowBad.nd (pi_list (pv 4)) (blkOk_by (N := nRowBad) (sc := defScope sRowBad) (by decide +kernel)) (fun _ _ _ _ _ => (pg_name (i := 6) scRowBad.nd rfl (Or.inl rfl))) (fun _ _ _ _ _ => pts_nil) (fun _ _ _ _ _ => (pe_tup (pa_cons (pv 6) (pa_cons pe_str pa_nil))))) (pe_lst (pa_cons (pe_tup (pa_cons (pe_tup (pa_cons pe_str (pa_cons (pe_op op_add (pv 2) (pv 3)) pa_nil))) (pa_cons pe_str pa_nil))) (pa_cons (pe_tup (pa_cons (pe_tup (pa_cons pe_str (pa_cons pe_int (pa_cons (pe_op op_sub (pe_un un_neg pe_int) (pv 3)) pa_nil)))) (pa_cons pe_str pa_nil))) pa_nil)))))
      (pss_cons (ps_set (i := 5) scRowBad.nd rfl (Or.inl rfl) (pe_op op_cat (pv 5) (pe_lst (pa_cons (pe_tup (pa_cons (pe_tup (pa_cons pe_str (pa_cons (pe_op op_add (pv 2) (pv 3)) (pa_cons pe_int pa_nil)))) (pa_cons pe_str pa_nil))) (pa_cons (pe_tup (pa_cons (pe_tup (pa_cons pe_str (pa_cons (pe_op op_add (pv 1) (pv 3)) (pa_cons pe_int pa_nil)))) (pa_cons pe_str pa_nil))) pa_nil)))))
      (pss_cons (ps_expr (pe_bm PySem.F.plainAttrs_list PySem.F.slot_list_append PySem.F.type_list_append mt_append (pv 5) (pa_cons (pe_tup (pa_cons (pe_tup (pa_cons pe_str (pa_cons (pe_op op_sub (pe_un un_neg pe_int) (pv 3)) (pa_cons pe_int pa_nil)))) (pa_cons pe_str pa_nil))) pa_nil)))
      (pss_cons (ps_if (pt_cmpR op_gt (pv 1) pe_int (nomark _))
          (pss_one (ps_set (i := 5) scRowBad.nd rfl (Or.inl rfl) (pe_op op_cat (pv 5) (pe_lst (pa_cons (pe_tup (pa_cons (pe_tup (pa_cons pe_str (pa_cons pe_int (pa_cons (pe_op op_add (pv 2) (pv 3)) pa_nil)))) (pa_cons pe_str pa_nil))) (pa_cons (pe_tup (pa_cons (pe_tup (pa_cons pe_str (pa_cons pe_int pa_nil))) (pa_cons pe_str pa_nil))) (pa_cons (pe_tup (pa_cons (pe_tup (pa_cons pe_str (pa_cons pe_int (pa_cons (pe_un un_neg pe_int) pa_nil)))) (pa_cons pe_str pa_nil))) pa_nil)))))))
          pss_nil)
      (pss_one (ps_ret (pe_ix ix_list (pv 5) (pe_call GNext (hr.mono (by first | omega | decide)) (by rfl) cNext.m cNext.F.kp cNext.b .nil pass0 (pa_cons (pv 0) (pa_cons (pe_callB call_len_seq (by rfl) T.len PySem.boot_len (pa_cons (pv 5) pa_nil)) pa_nil))) (fun _ _ => rfl))))))))))), ?_⟩
    refine ⟨_, rfl, _, _, rfl, rfl, ⟨by decide, by decide, by decide⟩, d, sa, ns, _, rfl, hE, by decide, by decide, fun n1 H1 a1 b1 C1 => ⟨(by show 3 ≤ sizeLine; decide), fun l hl => ?_⟩⟩
    refine alloc hl fun H2 s2 e2 => ?_
    have D2 := C1.same s2
    refine ⟨_, rfl, d, sa, ns, _, rfl, D2.ent, by decide, by decide, fun n2 H3 a2 b2 C3 => ?_⟩
    have D3 := D2.trans C3
    obtain ⟨far, hf, f0⟩ : ∃ far : Int, atI ([V.int 0, V.int 1, V.int n1] : List V) n2 = some (.int far) ∧ 0 ≤ far := by
      rcases (show n2 = 0 ∨ n2 = 1 ∨ n2 = 2 by omega) with q | q | q
      · exact ⟨0, by rw [q]; exact at0, by decide⟩
      · exact ⟨1, by rw [q]; exact at1, by decide⟩
      · exact ⟨n1, by rw [q]; exact at2, a1⟩
    refine ⟨l, _, _, _, rfl, rfl, SqL.of (C3.but _ _ (D2.ned (C1.here hl)) e2), hf, ?_⟩
    dsimp only [gName]
    refine LtE.asg (d := .lst shapes1) (lt_lst (lt_cons (lt_tup lt_nil) (lt_cons (lt_tup (lt_cons lt_str lt_nil)) (lt_cons (lt_tup (lt_cons lt_str lt_nil)) (lt_cons (lt_tup (lt_cons lt_str (lt_cons lt_int lt_nil))) (lt_cons (lt_tup (lt_cons lt_str (lt_cons lt_int lt_nil))) (lt_cons (lt_tup (lt_cons lt_str (lt_cons lt_int (lt_cons lt_int (lt_cons lt_int lt_nil))))) (lt_cons lt_int (lt_cons (lt_tup (lt_cons lt_str (lt_cons lt_bl lt_nil))) (lt_cons (lt_tup (lt_cons lt_str (lt_cons lt_str lt_nil))) lt_nil)))))))))) fun v4 H4 s4 q4 => ?_
    dsimp only [gName]
    refine LtE.asg (d := .lst (shapes1 ++ shapes2)) (lt_cat (lt_var rfl q4) (lt_lst (lt_cons (lt_tup (lt_cons lt_str (lt_cons lt_int lt_nil))) (lt_cons (lt_tup (lt_cons lt_int (lt_cons lt_int lt_nil))) (lt_cons lt_non (lt_cons (lt_tup (lt_cons lt_str (lt_cons lt_int (lt_cons lt_non lt_nil)))) (lt_cons (lt_tup (lt_cons lt_str (lt_cons (lt_tup (lt_cons lt_int lt_nil)) lt_nil))) lt_nil)))))) (by decide)) fun v5 H5 s5 q5 => ?_
    obtain ⟨l5, vs5, rfl, e5, r5⟩ := zat_lstI q5
    dsimp only [gName]
    refine LtE.asg (d := .lst ((shapes1 ++ shapes2).map (fun d => .tup [d, .str "shape"]) ++ someA N far)) (lt_cat (lt_lc (K := K) (i := 4) (j := 6) (l := l5) rfl q5 (fun e he => (shapes_bad e he).2.2) (by decide) (by show 6 < 7; decide)) (lt_lst (lt_cons (lt_tup (lt_cons (lt_tup (lt_cons lt_str (lt_cons (lt_add rfl rfl) lt_nil))) (lt_cons lt_str lt_nil))) (lt_cons (lt_tup (lt_cons (lt_tup (lt_cons lt_str (lt_cons lt_int (lt_cons (lt_neg rfl) lt_nil)))) (lt_cons lt_str lt_nil))) lt_nil))) (by show 14 + 2 ≤ 1000; decide)) fun v6 H6 s6 q6 => ?_
    dsimp only [gName]
    refine LtE.asgN (a := (shapes1 ++ shapes2).map (fun d => .tup [d, .str "shape"]) ++ someA N far) (b := someB W N far) (lt_var rfl q6) (lt_lst (lt_cons (lt_tup (lt_cons (lt_tup (lt_cons lt_str (lt_cons (lt_add rfl rfl) (lt_cons lt_int lt_nil)))) (lt_cons lt_str lt_nil))) (lt_cons (lt_tup (lt_cons (lt_tup (lt_cons lt_str (lt_cons (lt_add rfl rfl) (lt_cons lt_int lt_nil)))) (lt_cons lt_str lt_nil))) lt_nil))) (by show 16 + 2 ≤ 1000; decide) fun l7 vs7 H7 s7 nl7 e7 r7 => ?_
    have b7 : ∀ x ∈ ((shapes1 ++ shapes2).map (fun d => DL.D.tup [d, .str "shape"]) ++ someA N far) ++ someB W N far, PairBad W N x := by
      intro x hx
      rcases List.mem_append.mp hx with hx | hx
      · rcases List.mem_append.mp hx with hx | hx
        · obtain ⟨e, he, rfl⟩ := List.mem_map.mp hx
          obtain ⟨z1, z2, z3⟩ := shapes_bad e he
          exact pb_shape z1 z2 z3
        · exact someA_bad f0 hN1 x hx
      · exact someB_bad f0 x hx
    have n7 : (((shapes1 ++ shapes2).map (fun d => DL.D.tup [d, .str "shape"]) ++ someA N far) ++ someB W N far).length = 18 := by rfl
    generalize ((shapes1 ++ shapes2).map (fun d => DL.D.tup [d, .str "shape"]) ++ someA N far) ++ someB W N far = ds7 at r7 b7 n7
    dsimp only [gName]
    refine ⟨_, rfl, .inl ⟨rfl, _, SqL.of e7⟩, ?_⟩
    refine (lt_cons (H0 := H7) (lt_tup (lt_cons (lt_tup (lt_cons lt_str (lt_cons (lt_neg rfl) (lt_cons lt_int lt_nil)))) (lt_cons lt_str lt_nil))) lt_nil).2 H7 _ (Same.refl _) fun ws H8 s8 a8 => ?_
    obtain ⟨v8, rfl⟩ : ∃ v, ws = [v] := List.length_eq_one_iff.mp a8.len
    have a8 := (zats_un a8).1
    have hl7 := r7.len
    refine ⟨l7, _, _, rfl, rfl, s8 _ _ e7, szl (by omega), ?_⟩
    have k8 : Kp H8 (upd H8 l7 (.lst (vs7 ++ [v8]))) := Kp.lst (s8 _ _ e7)
    have fl7 : flatD ds7 := flatD_iff.mpr fun x hx => (b7 x hx).flat
    have r9 : Ats (upd H8 l7 (.lst (vs7 ++ [v8]))) (vs7 ++ [v8]) (ds7 ++ [someC far]) := zats_app (Ats.keep k8 _ _ fl7 (Ats.sm0 s8 _ _ r7)) (zats_cons (At.keep k8 _ _ (someC_bad (W := W) (N := N) f0).flat a8) zats_nil)
    have D6 := (D3.same s4).same (s5.trans s6)
    have D9 := (D6.same (s7.trans s8)).mut (o := .lst (vs7 ++ [v8])) (D6.here nl7)
    have e9 : (upd H8 l7 (.lst (vs7 ++ [v8]))) l7 = some (.lst (vs7 ++ [v8])) := upd_same
    have b9 : ∀ x ∈ ds7 ++ [someC far], PairBad W N x := fun x hx => by
      rcases List.mem_append.mp hx with hx | hx
      · exact b7 x hx
      · rw [List.mem_singleton.mp hx]
        exact someC_bad f0
    have n9 : (ds7 ++ [someC far]).length = 19 := by rw [List.length_append, n7]; rfl
    generalize upd H8 l7 (.lst (vs7 ++ [v8])) = H9 at r9 D9 e9
    generalize vs7 ++ [v8] = vs9 at r9 e9
    generalize ds7 ++ [someC far] = ds9 at r9 b9 n9
    have nd9 := D6.ned (D6.here nl7)
    dsimp only
    refine seq_elim (fun σ' H' => ∃ (x4 x6 : Option V) (l : Addr) (vs : List V) (ds : List DL.D), σ' = [some (.ref d), some (.int (W : Int)), some (.int (N : Int)), some (.int far), x4, some (.ref l), x6] ∧ Dc K H H' d sa ns ∧ l ≠ d ∧ H' l = some (.lst vs) ∧ Ats H' vs ds ∧ ds.length ≤ 100 ∧ 0 < ds.length ∧ ∀ x ∈ ds, PairBad W N x) ?_ ?_
    · rintro σ' H10 ⟨x4, x6, l, vs, ds, rfl, D10, nl, el, rl, hl1, hl0, bl⟩
      have hlen := rl.len
      refine ⟨_, rfl, _, rfl, _, rfl, l, vs, rfl, .inl (SqL.of el), d, sa, ns, _, rfl, D10.ent, by omega, by omega, fun n11 H11 a11 b11 C11 => ?_⟩
      obtain ⟨j, rfl⟩ : ∃ j : Nat, n11 = (j : Int) := ⟨n11.toNat, by omega⟩
      obtain ⟨v, x, g1, g2, g3⟩ := rl.get j (by omega)
      refine ⟨l, _, _, _, rfl, rfl, SqL.of (C11.but _ _ nl el), atI_nat g1, ?_⟩
      have bx := bl x (List.mem_of_getElem? g2)
      have fx := bx.flat
      obtain ⟨e, why, rfl, bad⟩ := bx
      obtain ⟨t, us, rfl, h1, h2⟩ := zat_tupI (At.keep C11.kp _ _ fx g3)
      match us, h2 with
      | [u1, u2], h2 =>
        have h3 := zats_un h2
        have h4 : At H11 u2 (.str why) := (zats_un h3.2).1
        have e2 : u2 = .str why := by simpa [At] using h4
        rw [e2] at h1
        exact k t u1 e why H11 (D10.trans C11) h1 h3.1 bad
    · intro N' hN'
      refine ⟨_, rfl, _, _, rfl, rfl, _, rfl, ite2 (fun c => ?_) (fun c => ?_)⟩
      · have hW0 : 0 < W := by have := of_decide_eq_true c; omega
        refine lt_cat (H0 := H9) (lt_var rfl (zat_lst e9 r9)) (lt_lst (lt_cons (lt_tup (lt_cons (lt_tup (lt_cons lt_str (lt_cons lt_int (lt_cons (lt_add rfl rfl) lt_nil)))) (lt_cons lt_str lt_nil))) (lt_cons (lt_tup (lt_cons (lt_tup (lt_cons lt_str (lt_cons lt_int lt_nil))) (lt_cons lt_str lt_nil))) (lt_cons (lt_tup (lt_cons (lt_tup (lt_cons lt_str (lt_cons lt_int (lt_cons lt_min lt_nil)))) (lt_cons lt_str lt_nil))) lt_nil)))) (by rw [n9]; show 19 + 3 ≤ 1000; decide) H9 _ (Same.refl _) fun v10 H10 s10 q10 => ?_
        obtain ⟨l10, vs10, rfl, e10, r10⟩ := zat_lstI q10
        have D10 := D9.same s10
        have nd10 : l10 ≠ d := fun z => by
          subst z
          obtain ⟨i0, m0, r0, z0, _⟩ := D10.dice
          rw [e10] at z0
          have z0 : vs10 = [.ref sa, .int i0, .int m0, .int r0] := by injection (Option.some.inj z0)
          have := r10.len
          rw [z0, List.length_append, n9] at this
          exact absurd this (by show ¬ 4 = 19 + 3; decide)
        refine hN' _ _ ⟨_, _, l10, vs10, _, rfl, D10, nd10, e10, r10, by rw [List.length_append, n9]; show 19 + 3 ≤ 100; decide, by rw [List.length_append, n9]; omega, fun x hx => ?_⟩
        rcases List.mem_append.mp hx with hx | hx
        · exact b9 x hx
        · exact someD_bad f0 hW0 x hx
      · exact hN' _ _ ⟨_, _, l7, vs9, ds9, rfl, D9, nd9, e9, r9, by omega, by omega, b9⟩
end
end DL
namespace DL
open PySem PySem.Spec PyProof.Rows L2 DLR LamX
/-! ### _law_doors: all that are handed a program, as lambdas -/
abbrev sDoors : Stmt := top 114
abbrev nDoors : List Str := ["_law_bad","_law_laying","_law_goes","_law_works"]
abbrev pDoors : List Str := ["_law_bad","_law_laying","_law_goes"]
abbrev FDoors (K : Frg) (mg : Str → Option Value) := Fd K mg "_law_doors" sDoors pDoors
abbrev qDP : Str := (("_law_doors" : Str) ++ (".<locals>." : Str))
abbrev qD : Str := qDP ++ ("<lambda>" : Str)
def tabs2 (Pt Pd : Addr) : List (Addr × Str) := [(Pt, qL), (Pd, qD)]
theorem tab2_d {Pt Pd : Addr} {q : Str} (h : q = qDP) : (Pd, q ++ "<lambda>") ∈ tabs2 Pt Pd := by
  rw [h]
  exact List.mem_cons_of_mem _ List.mem_cons_self
theorem tab2_l {Pt Pd : Addr} {q : Str} (h : q = qP) : (Pt, q ++ "<lambda>") ∈ tabs2 Pt Pd := by
  rw [h]
  exact List.mem_cons_self
theorem tab2_du {Pt Pd : Addr} {q : Str} (hne : Pt ≠ Pd) (h : q = qDP) : ∀ p ∈ tabs2 Pt Pd, p.1 = Pd → p.2 = q ++ "<lambda>" := by
  rw [h]
  intro p hp e
  rcases List.mem_cons.mp hp with rfl | hp
  · exact absurd e hne
  · rw [List.mem_singleton.mp hp]
theorem tab2_lu {Pt Pd : Addr} {q : Str} (hne : Pt ≠ Pd) (h : q = qP) : ∀ p ∈ tabs2 Pt Pd, p.1 = Pt → p.2 = q ++ "<lambda>" := by
  rw [h]
  intro p hp e
  rcases List.mem_cons.mp hp with rfl | hp
  · rfl
  · rw [List.mem_singleton.mp hp] at e
    exact absurd e.symm hne
def DoorW (P : Program) (w : World) (K : PySem.W.Frag) (mg : Str → Option Value) (base : Heap) (CM : List (Str × Addr)) (σ0 : L2.St) (BP : Addr) (v0 : V) (e : DL.D) (r : Int) (y : Str) (H : Hp) (v : V) : Prop :=
  ∃ t : XK → TE, LamW P w K mg base nDoors qD CM 8 H v t ∧ ∀ (E : XK) (H' : Hp) (Q : VK), At H' v0 e → BadP BP H' E r y → t E σ0 H' Q
def S01 (v0 u g : V) (e : DL.D) (σ : L2.St) (H : Hp) : Prop := σ[0]? = some (some v0) ∧ σ[1]? = some (some u) ∧ σ[2]? = some (some g) ∧ At H v0 e
def B01 (BP : Addr) (r : Int) (y : Str) (E : XK) (H : Hp) : Prop := BadP BP H E r y
theorem LamD.door {X : Cx} {P : Program} {w : World} {K : PySem.W.Frag} {mg : Str → Option Value} {base : Heap} {CM : List (Str × Addr)} {σ0 : L2.St} {BP : Addr} {v0 u g : V} {e : DL.D} {r : Int} {y : Str} {H H' : Hp} {v : V} (L : LamD X 8 (S01 v0 u g e) (B01 BP r y) H v)
    (eP : X.prog = P) (ew : X.w = w) (eK : X.K = K) (em : X.mg = mg) (eb : X.base = base) (eN : X.N = nDoors) (ec : X.env.cells = CM) (hq : X.env.qual = qDP) (hK : ∀ scope, LamN X.N X.env.scope scope → LamK X.N X.env.cells scope (cloFrom X.env.cells scope.names [])) (s : ExtN H H')
    (h0 : σ0[0]? = some (some v0)) (h1 : σ0[1]? = some (some u)) (h2 : σ0[2]? = some (some g)) : DoorW P w K mg base CM σ0 BP v0 e r y H' v := by
  obtain ⟨t, L1, L2⟩ := L
  have q := L1.deadQ hq hK s
  rw [eP, ew, eK, em, eb, eN, ec] at q
  exact ⟨t, q, fun E H' Q ha hb => L2 E σ0 H' Q ⟨h0, h1, h2, ha⟩ hb⟩
def spDoors (P : Program) (w : World) (K : PySem.W.Frag) (mg : Str → Option Value) (base : Heap) (Pt Pd BP : Addr) : Sp := fun vs H Q _ => ∃ (v0 u g : V) (e : DL.D) (r : Int) (y : Str), vs = [v0, u, g] ∧ e.fit ∧ progF e = some (r, y) ∧ Tabs (tabs2 Pt Pd) H ∧
  ∀ wl ws CM σ0 H', ExtN H H' → Tabs (tabs2 Pt Pd) H' → H' wl = some (.lst ws) → ws.length ≤ 20 → CloH nDoors CM σ0 H' → (∀ x ∈ ws, DoorW P w K mg base CM σ0 BP v0 e r y H' x) → Q (.ref wl) H'
section
variable {P : Program} {w : World} {K : PySem.W.Frag} {mg : Str → Option Value} {base : Heap}
theorem scDoors : FnScope nDoors pDoors (defScope sDoors) := ⟨rfl, rfl, rfl, by decide +kernel, rfl, by decide +kernel, by decide +kernel⟩
theorem ok_doors {fa cd Pt Pd : Addr} {oc kV doc pm ct : Value} {an od : Option Addr} {osl : Array (Option Value)}
    (lk : K.lookup fa = some ⟨oc, od, .func (PySem.W.fnOf "_law_doors" "_law_doors" (defArgs sDoors) (defBody sDoors) (defScope sDoors) .none kV doc pm an (.ref cd) ct), osl⟩) (hcd : PySem.W.codeIn K (.ref cd) "_law_doors" = true) (TBd : TabB base mg cd Pd) (hne : Pt ≠ Pd)
    (cRunX : FRunX K mg) (cCosts : FCostsX K mg) (cBeatsX : FBeatsX K mg) (cSpun : FSpunX K mg) (cBestX : FBestX K mg) (cBoundX : FBoundX K mg) (cPaperX : FPaperX K mg) (cLoopsX : FLoopsX K mg) (cLoopBeatsX : FLoopBeatsX K mg) (cTracks : FTracksX K mg) (cImage : FImageX K mg) (cWrittenX : FWrittenX K mg)
    (UM : UkM K mg) {CP CL : Addr}
    (GRunX : FnOk P w K mg base (L2.CX P w) 5 cRunX.f cRunX.fd ["program", "fuel"] (spDoor1 CP 1))
    (GCostsX : FnOk P w K mg base (L2.CX P w) 6 cCosts.f cCosts.fd ["program", "laying"] (spDoor2 CP CL 0)) (GBeatsX : FnOk P w K mg base (L2.CX P w) 6 cBeatsX.f cBeatsX.fd ["program", "laying", "goes"] (spDoor2 CP CL 1))
    (GUInitX : FnOk P w K mg base (L2.CX P w) 6 UM.fi UM.fdi ["self", "program", "laying"] (spDoor2T CP CL)) (GSpunX : FnOk P w K mg base (L2.CX P w) 8 cSpun.f cSpun.fd ["program", "laying", "fuel"] (spDoor2 CP CL 1))
    (GBestX : FnOk P w K mg base (L2.CX P w) 6 cBestX.f cBestX.fd ["program", "wide", "goes"] (spDoorW CP CL 1)) (GBoundX : FnOk P w K mg base (L2.CX P w) 6 cBoundX.f cBoundX.fd ["program", "wide", "goes", "told"] (spDoorW CP CL 2)) (GPaperX : FnOk P w K mg base (L2.CX P w) 6 cPaperX.f cPaperX.fd ["program", "wide", "goes"] (spDoorW CP CL 1))
    (GLoopsX : FnOk P w K mg base (L2.CX P w) 5 cLoopsX.f cLoopsX.fd ["program"] (spDoor1 CP 0)) (GLoopBeatsX : FnOk P w K mg base (L2.CX P w) 6 cLoopBeatsX.f cLoopBeatsX.fd ["program", "laying"] (spDoor2 CP CL 0))
    (GTracksX : FnOk P w K mg base (L2.CX P w) 6 cTracks.f cTracks.fd ["program", "laying"] (spDoor2 CP CL 0)) (GImageX : FnOk P w K mg base (L2.CX P w) 6 cImage.f cImage.fd ["program", "laying"] (spDoor2 CP CL 0)) (GWrittenX : FnOk P w K mg base (L2.CX P w) 5 cWrittenX.f cWrittenX.fd ["program"] (spDoor1 CP 0)) :
    FnOk P w K mg base CX0 2 fa (PySem.W.fnOf "_law_doors" "_law_doors" (defArgs sDoors) (defBody sDoors) (defScope sDoors) .none kV doc pm an (.ref cd) ct) pDoors (spDoors P w K mg base Pt Pd CP) := by
  refine run_clo (k := 1) lk hcd scDoors (by decide +kernel) (fun vs H Q E h => ?_) (fun A outer s H vs Q E hr h => ?_)
  · obtain ⟨v0, u, g, e, r, y, rfl, _⟩ := h
    rfl
  · obtain ⟨v0, u, g, e, r, y, rfl, fe, pe, T0, kq⟩ := h
    refine ⟨_, psr_cons (ps_set (i := 3) scDoors.nd rfl (Or.inl rfl) (pe_lst (pa_cons (pe_lam0 (k := 8) (T := tabs2 Pt Pd) TBd rfl (tab2_d (by rfl)) (tab2_du hne (by rfl)) (lamN_by (N := nDoors) (sc := defScope sDoors) (by decide +kernel)) rfl (fun _ _ _ _ _ => rfl) (fun A2 outer2 s2 H2 E2 f2 c2 hr2 => (pe_call GRunX (hr2.mono (by first | omega | decide)) (by rfl) cRunX.m cRunX.F.kp cRunX.b .nil (L2.passes_call (takes_of rfl rfl rfl rfl) (fun _ _ _ _ h => h)) (pa_cons (pv 0) (pa_cons (pe_un un_neg pe_int) pa_nil))))) (pa_cons (pe_lam1 (k := 8) (T := tabs2 Pt Pd) TBd rfl (tab2_d (by rfl)) (tab2_du hne (by rfl)) (lamN_by (N := nDoors) (sc := defScope sDoors) (by decide +kernel)) rfl rfl (fun D => ⟨_, (by decide +kernel), fun cl doc pm cdv ct u => ⟨_, rfl, rfl⟩⟩) (fun A2 outer2 s2 H2 E2 f2 c2 hr2 => (pe_call GCostsX (hr2.mono (by first | omega | decide)) (by rfl) cCosts.m cCosts.F.kp cCosts.b .nil (L2.passes_call (takes_of rfl rfl rfl rfl) (fun _ _ _ _ h => h)) (pa_cons (pv 0) (pa_cons (pv 1) pa_nil))))) (pa_cons (pe_lam1 (k := 8) (T := tabs2 Pt Pd) TBd rfl (tab2_d (by rfl)) (tab2_du hne (by rfl)) (lamN_by (N := nDoors) (sc := defScope sDoors) (by decide +kernel)) rfl rfl (fun D => ⟨_, (by decide +kernel), fun cl doc pm cdv ct u => ⟨_, rfl, rfl⟩⟩) (fun A2 outer2 s2 H2 E2 f2 c2 hr2 => (pe_call GBeatsX (hr2.mono (by first | omega | decide)) (by rfl) cBeatsX.m cBeatsX.F.kp cBeatsX.b .nil (L2.passes_call (takes_of rfl rfl rfl rfl) (fun _ _ _ _ h => h)) (pa_cons (pv 0) (pa_cons (pv 1) (pa_cons (pv 2) pa_nil)))))) pa_nil))))) (psr_cons (ps_set (i := 3) scDoors.nd rfl (Or.inl rfl) (pe_op op_cat (pv 3) (pe_lst (pa_cons (pe_lam1 (k := 8) (T := tabs2 Pt Pd) TBd rfl (tab2_d (by rfl)) (tab2_du hne (by rfl)) (lamN_by (N := nDoors) (sc := defScope sDoors) (by decide +kernel)) rfl rfl (fun D => ⟨_, (by decide +kernel), fun cl doc pm cdv ct u => ⟨_, rfl, rfl⟩⟩) (fun A2 outer2 s2 H2 E2 f2 c2 hr2 => (pe_make UM.mkd GUInitX (hr2.mono (by first | omega | decide)) (by rfl) UM.d.m UM.bI .nil (L2.passes_call (takes_of rfl rfl rfl rfl) (fun _ _ _ _ h => h)) (pa_cons (pv 0) (pa_cons (pv 1) pa_nil))))) (pa_cons (pe_lam1 (k := 8) (T := tabs2 Pt Pd) TBd rfl (tab2_d (by rfl)) (tab2_du hne (by rfl)) (lamN_by (N := nDoors) (sc := defScope sDoors) (by decide +kernel)) rfl rfl (fun D => ⟨_, (by decide +kernel), fun cl doc pm cdv ct u => ⟨_, rfl, rfl⟩⟩) (fun A2 outer2 s2 H2 E2 f2 c2 hr2 => (pe_call GSpunX (hr2.mono (by first | omega | decide)) (by rfl) cSpun.m cSpun.F.kp cSpun.b .nil (L2.passes_call (takes_of rfl rfl rfl rfl) (fun _ _ _ _ h => h)) (pa_cons (pv 0) (pa_cons (pv 1) (pa_cons (pe_un un_neg pe_int) pa_nil)))))) (pa_cons (pe_lam1 (k := 8) (T := tabs2 Pt Pd) TBd rfl (tab2_d (by rfl)) (tab2_du hne (by rfl)) (lamN_by (N := nDoors) (sc := defScope sDoors) (by decide +kernel)) rfl rfl (fun D => ⟨_, (by decide +kernel), fun cl doc pm cdv ct u => ⟨_, rfl, rfl⟩⟩) (fun A2 outer2 s2 H2 E2 f2 c2 hr2 => (pe_call GBestX (hr2.mono (by first | omega | decide)) (by rfl) cBestX.m cBestX.F.kp cBestX.b .nil (L2.passes_call (takes_of rfl rfl rfl rfl) (fun _ _ _ _ h => h)) (pa_cons (pv 0) (pa_cons pe_int (pa_cons (pv 2) pa_nil)))))) pa_nil)))))) (psr_cons (ps_set (i := 3) scDoors.nd rfl (Or.inl rfl) (pe_op op_cat (pv 3) (pe_lst (pa_cons (pe_lam1 (k := 8) (T := tabs2 Pt Pd) TBd rfl (tab2_d (by rfl)) (tab2_du hne (by rfl)) (lamN_by (N := nDoors) (sc := defScope sDoors) (by decide +kernel)) rfl rfl (fun D => ⟨_, (by decide +kernel), fun cl doc pm cdv ct u => ⟨_, rfl, rfl⟩⟩) (fun A2 outer2 s2 H2 E2 f2 c2 hr2 => (pe_call GBoundX (hr2.mono (by first | omega | decide)) (by rfl) cBoundX.m cBoundX.F.kp cBoundX.b .nil (L2.passes_call (takes_of rfl rfl rfl rfl) (fun _ _ _ _ h => h)) (pa_cons (pv 0) (pa_cons pe_int (pa_cons (pv 2) (pa_cons (pe_lst pa_nil) pa_nil))))))) (pa_cons (pe_lam1 (k := 8) (T := tabs2 Pt Pd) TBd rfl (tab2_d (by rfl)) (tab2_du hne (by rfl)) (lamN_by (N := nDoors) (sc := defScope sDoors) (by decide +kernel)) rfl rfl (fun D => ⟨_, (by decide +kernel), fun cl doc pm cdv ct u => ⟨_, rfl, rfl⟩⟩) (fun A2 outer2 s2 H2 E2 f2 c2 hr2 => (pe_call GPaperX (hr2.mono (by first | omega | decide)) (by rfl) cPaperX.m cPaperX.F.kp cPaperX.b .nil (L2.passes_call (takes_of rfl rfl rfl rfl) (fun _ _ _ _ h => h)) (pa_cons (pv 0) (pa_cons pe_int (pa_cons (pv 2) pa_nil)))))) (pa_cons (pe_lam1 (k := 8) (T := tabs2 Pt Pd) TBd rfl (tab2_d (by rfl)) (tab2_du hne (by rfl)) (lamN_by (N := nDoors) (sc := defScope sDoors) (by decide +kernel)) rfl rfl (fun D => ⟨_, (by decide +kernel), fun cl doc pm cdv ct u => ⟨_, rfl, rfl⟩⟩) (fun A2 outer2 s2 H2 E2 f2 c2 hr2 => (pe_call GLoopsX (hr2.mono (by first | omega | decide)) (by rfl) cLoopsX.m cLoopsX.F.kp cLoopsX.b .nil (L2.passes_call (takes_of rfl rfl rfl rfl) (fun _ _ _ _ h => h)) (pa_cons (pv 0) pa_nil)))) pa_nil)))))) (psr_cons (ps_set (i := 3) scDoors.nd rfl (Or.inl rfl) (pe_op op_cat (pv 3) (pe_lst (pa_cons (pe_lam1 (k := 8) (T := tabs2 Pt Pd) TBd rfl (tab2_d (by rfl)) (tab2_du hne (by rfl)) (lamN_by (N := nDoors) (sc := defScope sDoors) (by decide +kernel)) rfl rfl (fun D => ⟨_, (by decide +kernel), fun cl doc pm cdv ct u => ⟨_, rfl, rfl⟩⟩) (fun A2 outer2 s2 H2 E2 f2 c2 hr2 => (pe_call GLoopBeatsX (hr2.mono (by first | omega | decide)) (by rfl) cLoopBeatsX.m cLoopBeatsX.F.kp cLoopBeatsX.b .nil (L2.passes_call (takes_of rfl rfl rfl rfl) (fun _ _ _ _ h => h)) (pa_cons (pv 0) (pa_cons (pv 1) pa_nil))))) (pa_cons (pe_lam1 (k := 8) (T := tabs2 Pt Pd) TBd rfl (tab2_d (by rfl)) (tab2_du hne (by rfl)) (lamN_by (N := nDoors) (sc := defScope sDoors) (by decide +kernel)) rfl rfl (fun D => ⟨_, (by decide +kernel), fun cl doc pm cdv ct u => ⟨_, rfl, rfl⟩⟩) (fun A2 outer2 s2 H2 E2 f2 c2 hr2 => (pe_call GTracksX (hr2.mono (by first | omega | decide)) (by rfl) cTracks.m cTracks.F.kp cTracks.b .nil (L2.passes_call (takes_of rfl rfl rfl rfl) (fun _ _ _ _ h => h)) (pa_cons (pv 0) (pa_cons (pv 1) pa_nil))))) pa_nil))))) (psr_ret (pe_op op_cat (pv 3) (pe_lst (pa_cons (pe_lam1 (k := 8) (T := tabs2 Pt Pd) TBd rfl (tab2_d (by rfl)) (tab2_du hne (by rfl)) (lamN_by (N := nDoors) (sc := defScope sDoors) (by decide +kernel)) rfl rfl (fun D => ⟨_, (by decide +kernel), fun cl doc pm cdv ct u => ⟨_, rfl, rfl⟩⟩) (fun A2 outer2 s2 H2 E2 f2 c2 hr2 => (pe_call GImageX (hr2.mono (by first | omega | decide)) (by rfl) cImage.m cImage.F.kp cImage.b .nil (L2.passes_call (takes_of rfl rfl rfl rfl) (fun _ _ _ _ h => h)) (pa_cons (pv 0) (pa_cons (pv 1) pa_nil))))) (pa_cons (pe_lam1 (k := 8) (T := tabs2 Pt Pd) TBd rfl (tab2_d (by rfl)) (tab2_du hne (by rfl)) (lamN_by (N := nDoors) (sc := defScope sDoors) (by decide +kernel)) rfl rfl (fun D => ⟨_, (by decide +kernel), fun cl doc pm cdv ct u => ⟨_, rfl, rfl⟩⟩) (fun A2 outer2 s2 H2 E2 f2 c2 hr2 => (pe_call GWrittenX (hr2.mono (by first | omega | decide)) (by rfl) cWrittenX.m cWrittenX.F.kp cWrittenX.b .nil (L2.passes_call (takes_of rfl rfl rfl rfl) (fun _ _ _ _ h => h)) (pa_cons (pv 0) pa_nil)))) pa_nil)))))))), ?_⟩
    have door1 : ∀ {n : Nat} {us : List V} {H' : Hp} {E : XK} (Q : VK), At H' v0 e → BadP CP H' E r y → us.length = n → spDoor1 CP n (v0 :: us) H' Q E := fun {n us H' E} Q ha hb hl => ⟨v0, us, e, r, y, rfl, hl, ha, fe, pe, hb⟩
    have bad : ∀ {H' : Hp} {E : XK}, BadP CP H' E r y → ∀ r' y', progF e = some (r', y') → BadP CP H' E r' y' := fun {H' E} hb r' y' h => by
      rw [pe] at h
      cases h
      exact hb
    have no : ∀ {X : Prop}, progF e = none → X := fun {X} h => by rw [pe] at h; cases h
    have door2 : ∀ {n : Nat} {u : V} {us : List V} {H' : Hp} {E : XK} (Q : VK), At H' v0 e → BadP CP H' E r y → us.length = n → spDoor2 CP CL n (v0 :: u :: us) H' Q E := fun {n u us H' E} Q ha hb hl => ⟨v0, u, us, e, rfl, hl, ha, fe, bad hb, no⟩
    have doorW : ∀ {n : Nat} {u : V} {us : List V} {H' : Hp} {E : XK} (Q : VK), At H' v0 e → BadP CP H' E r y → us.length = n → spDoorW CP CL n (v0 :: u :: us) H' Q E := fun {n u us H' E} Q ha hb hl => ⟨v0, u, us, e, rfl, hl, ha, fe, bad hb, no⟩
    have nt : ∀ {xs : List V} (ps : Array Value), HO.lst xs ≠ .tbl ps := fun ps z => by cases z
    refine ⟨T0, fun v1 H1 x1 T1 V1 => ?_⟩
    have M1 : LamD (cxOf CX0 P w K mg base nDoors "_law_doors" (defScope sDoors) fa (Value.ref cd) A outer s H E) 8 (S01 v0 u g e) (B01 CP r y) H1 v1 := ⟨_, V1, fun E σ H' Q hS hB => ⟨_, hS.1, _, rfl, door1 Q hS.2.2.2 hB rfl⟩⟩
    refine ⟨T1, fun v2 H2 x2 T2 V2 => ?_⟩
    have M2 : LamD (cxOf CX0 P w K mg base nDoors "_law_doors" (defScope sDoors) fa (Value.ref cd) A outer s H E) 8 (S01 v0 u g e) (B01 CP r y) H2 v2 := ⟨_, V2, fun E σ H' Q hS hB => ⟨_, hS.1, _, hS.2.1, door2 Q hS.2.2.2 hB rfl⟩⟩
    refine ⟨T2, fun v3 H3 x3 T3 V3 => ?_⟩
    have M3 : LamD (cxOf CX0 P w K mg base nDoors "_law_doors" (defScope sDoors) fa (Value.ref cd) A outer s H E) 8 (S01 v0 u g e) (B01 CP r y) H3 v3 := ⟨_, V3, fun E σ H' Q hS hB => ⟨_, hS.1, _, hS.2.1, _, hS.2.2.1, door2 Q hS.2.2.2 hB rfl⟩⟩
    refine ⟨(by show 3 ≤ sizeLine; decide), fun w0 hw0 => ?_⟩
    refine alloc hw0 fun H4 s4 e0 => ?_
    have T4 := T3.ext s4
    dsimp only [gName]
    refine ⟨_, rfl, T4, fun v4 H5 x5 T5 V4 => ?_⟩
    have M4 : LamD (cxOf CX0 P w K mg base nDoors "_law_doors" (defScope sDoors) fa (Value.ref cd) A outer s H E) 8 (S01 v0 u g e) (B01 CP r y) H5 v4 := ⟨_, V4, fun E σ H' Q hS hB => ⟨_, hS.1, _, hS.2.1, fun q dx hq hdx hne => door_made (Q := fun _ _ => True) hq hdx _ _ _ hS.2.2.2 fe (bad hB) no⟩⟩
    refine ⟨T5, fun v5 H6 x6 T6 V5 => ?_⟩
    have M5 : LamD (cxOf CX0 P w K mg base nDoors "_law_doors" (defScope sDoors) fa (Value.ref cd) A outer s H E) 8 (S01 v0 u g e) (B01 CP r y) H6 v5 := ⟨_, V5, fun E σ H' Q hS hB => ⟨_, hS.1, _, hS.2.1, _, rfl, door2 Q hS.2.2.2 hB rfl⟩⟩
    refine ⟨T6, fun v6 H7 x7 T7 V6 => ?_⟩
    have M6 : LamD (cxOf CX0 P w K mg base nDoors "_law_doors" (defScope sDoors) fa (Value.ref cd) A outer s H E) 8 (S01 v0 u g e) (B01 CP r y) H7 v6 := ⟨_, V6, fun E σ H' Q hS hB => ⟨_, hS.1, _, hS.2.2.1, doorW Q hS.2.2.2 hB rfl⟩⟩
    refine ⟨(by show 3 ≤ sizeLine; decide), fun w1 hw1 => ?_⟩
    refine alloc hw1 fun H8 s8 e1 => ?_
    have T8 := T7.ext s8
    refine ⟨w0, w1, _, _, rfl, rfl, (s8 _ _ (x7 _ _ (x6 _ _ (x5 _ _ e0 nt) nt) nt)), e1, (by show 6 ≤ sizeLine; decide), fun c1 hc1 => ?_⟩
    refine alloc hc1 fun H9 s9 f1 => ?_
    have f1 : H9 c1 = some (.lst [v1, v2, v3, v4, v5, v6]) := f1
    have T9 := T8.ext s9
    dsimp only [gName]
    refine ⟨_, rfl, T9, fun v7 H10 x10 T10 V7 => ?_⟩
    have M7 : LamD (cxOf CX0 P w K mg base nDoors "_law_doors" (defScope sDoors) fa (Value.ref cd) A outer s H E) 8 (S01 v0 u g e) (B01 CP r y) H10 v7 := ⟨_, V7, fun E σ H' Q hS hB => ⟨_, hS.1, _, hS.2.2.1, Nat.zero_le _, fun l hl => doorW Q (At.sm0 (Same.new hl) _ _ hS.2.2.2) (BadP.to hB (Same.new hl)) rfl⟩⟩
    refine ⟨T10, fun v8 H11 x11 T11 V8 => ?_⟩
    have M8 : LamD (cxOf CX0 P w K mg base nDoors "_law_doors" (defScope sDoors) fa (Value.ref cd) A outer s H E) 8 (S01 v0 u g e) (B01 CP r y) H11 v8 := ⟨_, V8, fun E σ H' Q hS hB => ⟨_, hS.1, _, hS.2.2.1, doorW Q hS.2.2.2 hB rfl⟩⟩
    refine ⟨T11, fun v9 H12 x12 T12 V9 => ?_⟩
    have M9 : LamD (cxOf CX0 P w K mg base nDoors "_law_doors" (defScope sDoors) fa (Value.ref cd) A outer s H E) 8 (S01 v0 u g e) (B01 CP r y) H12 v9 := ⟨_, V9, fun E σ H' Q hS hB => ⟨_, hS.1, door1 Q hS.2.2.2 hB rfl⟩⟩
    refine ⟨(by show 3 ≤ sizeLine; decide), fun w2 hw2 => ?_⟩
    refine alloc hw2 fun H13 s13 e2 => ?_
    have T13 := T12.ext s13
    refine ⟨c1, w2, _, _, rfl, rfl, (s13 _ _ (x12 _ _ (x11 _ _ (x10 _ _ f1 nt) nt) nt)), e2, (by show 9 ≤ sizeLine; decide), fun c2 hc2 => ?_⟩
    refine alloc hc2 fun H14 s14 f2 => ?_
    have f2 : H14 c2 = some (.lst [v1, v2, v3, v4, v5, v6, v7, v8, v9]) := f2
    have T14 := T13.ext s14
    dsimp only [gName]
    refine ⟨_, rfl, T14, fun v10 H15 x15 T15 V10 => ?_⟩
    have M10 : LamD (cxOf CX0 P w K mg base nDoors "_law_doors" (defScope sDoors) fa (Value.ref cd) A outer s H E) 8 (S01 v0 u g e) (B01 CP r y) H15 v10 := ⟨_, V10, fun E σ H' Q hS hB => ⟨_, hS.1, _, hS.2.1, door2 Q hS.2.2.2 hB rfl⟩⟩
    refine ⟨T15, fun v11 H16 x16 T16 V11 => ?_⟩
    have M11 : LamD (cxOf CX0 P w K mg base nDoors "_law_doors" (defScope sDoors) fa (Value.ref cd) A outer s H E) 8 (S01 v0 u g e) (B01 CP r y) H16 v11 := ⟨_, V11, fun E σ H' Q hS hB => ⟨_, hS.1, _, hS.2.1, door2 Q hS.2.2.2 hB rfl⟩⟩
    refine ⟨(by show 2 ≤ sizeLine; decide), fun w3 hw3 => ?_⟩
    refine alloc hw3 fun H17 s17 e3 => ?_
    have T17 := T16.ext s17
    refine ⟨c2, w3, _, _, rfl, rfl, (s17 _ _ (x16 _ _ (x15 _ _ f2 nt) nt)), e3, (by show 11 ≤ sizeLine; decide), fun c3 hc3 => ?_⟩
    refine alloc hc3 fun H18 s18 f3 => ?_
    have f3 : H18 c3 = some (.lst [v1, v2, v3, v4, v5, v6, v7, v8, v9, v10, v11]) := f3
    have T18 := T17.ext s18
    dsimp only [gName]
    refine ⟨_, rfl, T18, fun v12 H19 x19 T19 V12 => ?_⟩
    have M12 : LamD (cxOf CX0 P w K mg base nDoors "_law_doors" (defScope sDoors) fa (Value.ref cd) A outer s H E) 8 (S01 v0 u g e) (B01 CP r y) H19 v12 := ⟨_, V12, fun E σ H' Q hS hB => ⟨_, hS.1, _, hS.2.1, door2 Q hS.2.2.2 hB rfl⟩⟩
    refine ⟨T19, fun v13 H20 x20 T20 V13 => ?_⟩
    have M13 : LamD (cxOf CX0 P w K mg base nDoors "_law_doors" (defScope sDoors) fa (Value.ref cd) A outer s H E) 8 (S01 v0 u g e) (B01 CP r y) H20 v13 := ⟨_, V13, fun E σ H' Q hS hB => ⟨_, hS.1, door1 Q hS.2.2.2 hB rfl⟩⟩
    refine ⟨(by show 2 ≤ sizeLine; decide), fun w4 hw4 => ?_⟩
    refine alloc hw4 fun H21 s21 e4 => ?_
    have T21 := T20.ext s21
    refine ⟨c3, w4, _, _, rfl, rfl, (s21 _ _ (x20 _ _ (x19 _ _ f3 nt) nt)), e4, (by show 13 ≤ sizeLine; decide), fun c4 hc4 => ?_⟩
    refine alloc hc4 fun H22 s22 f4 => ?_
    have f4 : H22 c4 = some (.lst [v1, v2, v3, v4, v5, v6, v7, v8, v9, v10, v11, v12, v13]) := f4
    have T22 := T21.ext s22
    have nm : ∀ y ∈ (cellsFrom 0 (defScope sDoors).names []).map (·.1), y = ("_law_bad" : Str) ∨ y = ("_law_laying" : Str) ∨ y = ("_law_goes" : Str) := by decide +kernel
    refine ⟨fun y hy => ?_, fun H' sF CF hK => ?_⟩
    · rcases nm y hy with rfl | rfl | rfl
      · exact ⟨0, _, rfl, rfl⟩
      · exact ⟨1, _, rfl, rfl⟩
      · exact ⟨2, _, rfl, rfl⟩
    have xF : ExtN H H' := (((((((((((((((((((((x1.trans x2).trans x3).trans (ExtN.of s4)).trans x5).trans x6).trans x7).trans (ExtN.of s8)).trans (ExtN.of s9)).trans x10).trans x11).trans x12).trans (ExtN.of s13)).trans (ExtN.of s14)).trans x15).trans x16).trans (ExtN.of s17)).trans (ExtN.of s18)).trans x19).trans x20).trans (ExtN.of s21)).trans (ExtN.of s22)).trans (ExtN.of sF)
    refine kq c4 _ _ _ H' xF (T22.ext sF) (sF _ _ f4) (by show 13 ≤ 20; decide) CF fun x hx => ?_
    simp only [List.mem_cons, List.not_mem_nil, or_false] at hx
    rcases hx with rfl | rfl | rfl | rfl | rfl | rfl | rfl | rfl | rfl | rfl | rfl | rfl | rfl
    · exact M1.door rfl rfl rfl rfl rfl rfl rfl (by rfl) hK (((((((((((((((((((((x2.trans x3).trans (ExtN.of s4)).trans x5).trans x6).trans x7).trans (ExtN.of s8)).trans (ExtN.of s9)).trans x10).trans x11).trans x12).trans (ExtN.of s13)).trans (ExtN.of s14)).trans x15).trans x16).trans (ExtN.of s17)).trans (ExtN.of s18)).trans x19).trans x20).trans (ExtN.of s21)).trans (ExtN.of s22)).trans (ExtN.of sF)) rfl rfl rfl
    · exact M2.door rfl rfl rfl rfl rfl rfl rfl (by rfl) hK ((((((((((((((((((((x3.trans (ExtN.of s4)).trans x5).trans x6).trans x7).trans (ExtN.of s8)).trans (ExtN.of s9)).trans x10).trans x11).trans x12).trans (ExtN.of s13)).trans (ExtN.of s14)).trans x15).trans x16).trans (ExtN.of s17)).trans (ExtN.of s18)).trans x19).trans x20).trans (ExtN.of s21)).trans (ExtN.of s22)).trans (ExtN.of sF)) rfl rfl rfl
    · exact M3.door rfl rfl rfl rfl rfl rfl rfl (by rfl) hK ((((((((((((((((((((ExtN.of s4).trans x5).trans x6).trans x7).trans (ExtN.of s8)).trans (ExtN.of s9)).trans x10).trans x11).trans x12).trans (ExtN.of s13)).trans (ExtN.of s14)).trans x15).trans x16).trans (ExtN.of s17)).trans (ExtN.of s18)).trans x19).trans x20).trans (ExtN.of s21)).trans (ExtN.of s22)).trans (ExtN.of sF)) rfl rfl rfl
    · exact M4.door rfl rfl rfl rfl rfl rfl rfl (by rfl) hK (((((((((((((((((x6.trans x7).trans (ExtN.of s8)).trans (ExtN.of s9)).trans x10).trans x11).trans x12).trans (ExtN.of s13)).trans (ExtN.of s14)).trans x15).trans x16).trans (ExtN.of s17)).trans (ExtN.of s18)).trans x19).trans x20).trans (ExtN.of s21)).trans (ExtN.of s22)).trans (ExtN.of sF)) rfl rfl rfl
    · exact M5.door rfl rfl rfl rfl rfl rfl rfl (by rfl) hK ((((((((((((((((x7.trans (ExtN.of s8)).trans (ExtN.of s9)).trans x10).trans x11).trans x12).trans (ExtN.of s13)).trans (ExtN.of s14)).trans x15).trans x16).trans (ExtN.of s17)).trans (ExtN.of s18)).trans x19).trans x20).trans (ExtN.of s21)).trans (ExtN.of s22)).trans (ExtN.of sF)) rfl rfl rfl
    · exact M6.door rfl rfl rfl rfl rfl rfl rfl (by rfl) hK ((((((((((((((((ExtN.of s8).trans (ExtN.of s9)).trans x10).trans x11).trans x12).trans (ExtN.of s13)).trans (ExtN.of s14)).trans x15).trans x16).trans (ExtN.of s17)).trans (ExtN.of s18)).trans x19).trans x20).trans (ExtN.of s21)).trans (ExtN.of s22)).trans (ExtN.of sF)) rfl rfl rfl
    · exact M7.door rfl rfl rfl rfl rfl rfl rfl (by rfl) hK ((((((((((((x11.trans x12).trans (ExtN.of s13)).trans (ExtN.of s14)).trans x15).trans x16).trans (ExtN.of s17)).trans (ExtN.of s18)).trans x19).trans x20).trans (ExtN.of s21)).trans (ExtN.of s22)).trans (ExtN.of sF)) rfl rfl rfl
    · exact M8.door rfl rfl rfl rfl rfl rfl rfl (by rfl) hK (((((((((((x12.trans (ExtN.of s13)).trans (ExtN.of s14)).trans x15).trans x16).trans (ExtN.of s17)).trans (ExtN.of s18)).trans x19).trans x20).trans (ExtN.of s21)).trans (ExtN.of s22)).trans (ExtN.of sF)) rfl rfl rfl
    · exact M9.door rfl rfl rfl rfl rfl rfl rfl (by rfl) hK (((((((((((ExtN.of s13).trans (ExtN.of s14)).trans x15).trans x16).trans (ExtN.of s17)).trans (ExtN.of s18)).trans x19).trans x20).trans (ExtN.of s21)).trans (ExtN.of s22)).trans (ExtN.of sF)) rfl rfl rfl
    · exact M10.door rfl rfl rfl rfl rfl rfl rfl (by rfl) hK (((((((x16.trans (ExtN.of s17)).trans (ExtN.of s18)).trans x19).trans x20).trans (ExtN.of s21)).trans (ExtN.of s22)).trans (ExtN.of sF)) rfl rfl rfl
    · exact M11.door rfl rfl rfl rfl rfl rfl rfl (by rfl) hK (((((((ExtN.of s17).trans (ExtN.of s18)).trans x19).trans x20).trans (ExtN.of s21)).trans (ExtN.of s22)).trans (ExtN.of sF)) rfl rfl rfl
    · exact M12.door rfl rfl rfl rfl rfl rfl rfl (by rfl) hK (((x20.trans (ExtN.of s21)).trans (ExtN.of s22)).trans (ExtN.of sF)) rfl rfl rfl
    · exact M13.door rfl rfl rfl rfl rfl rfl rfl (by rfl) hK (((ExtN.of s21).trans (ExtN.of s22)).trans (ExtN.of sF)) rfl rfl rfl
end
end DL
namespace DL
open PySem L2 DLR LamX
abbrev sLaw : Stmt := top 115
abbrev nLaw : List Str := ["_law_script","_law_d","_law_turn","_law_worths","_law_rows","_law_at","_law_bad","_law_why","_law_odd","_law_due","_law_far","_law_place","_law_some","_law_first","_law_second","_law_work","_law_full","_law_k"]
def spLaw (K : Frg) (Pt Pd : Addr) : Sp := fun vs H Q _ => ∃ (sa : Addr) (ns : List Int), vs = [.ref sa] ∧ SqL K H sa (ns.map V.int) ∧ ns.length ≤ 63 ∧ H Pt = some (.tbl #[]) ∧ H Pd = some (.tbl #[]) ∧ ∀ H', Q (.bl true) H'
abbrev FDice (K : Frg) (mg : Str → Option Value) := Fd K mg "_law_dice" sDice ["_law_script"]
abbrev FLike (K : Frg) (mg : Str → Option Value) := Fd K mg "_law_like" sLike ["_law_found", "_law_due"]
abbrev FTold (K : Frg) (mg : Str → Option Value) := Fd K mg "_law_told" sTold ["_law_work"]
def spRunF (BF : Addr) : Sp := fun vs H Q E => ∃ (pa : Addr) (p : Prog) (n : Int), vs = [.ref pa, .int n] ∧ ProgAt H pa p ∧ Good p ∧ ¬ (0 ≤ n ∧ n ≤ 5000) ∧ ∀ H', Same1 H H' → E (.ref BF) none H'
structure Ct2 (K : Frg) (Hb H : Hp) (d sa Pt Pd : Addr) (ns : List Int) : Prop where
  ent : Dc K Hb H d sa ns
  tabs : Tabs (tabs2 Pt Pd) H
section
variable {K : Frg} {H0 H H' : Hp} {d sa Pt Pd : Addr} {ns : List Int}
theorem Ct2.same (h : Ct2 K H0 H d sa Pt Pd ns) (s : Same1 H H') : Ct2 K H0 H' d sa Pt Pd ns := ⟨h.ent.same s, h.tabs.ext s⟩
theorem Ct2.dice (h : Ct2 K H0 H d sa Pt Pd ns) (c : Dc K H H' d sa ns) : Ct2 K H0 H' d sa Pt Pd ns := ⟨h.ent.trans c, fun p hp => tabS_dice (h.tabs p hp) c⟩
theorem Ct2.ext (h : Ct2 K (noTb H0) H d sa Pt Pd ns) (e : ExtN H H') (t : Tabs (tabs2 Pt Pd) H') : Ct2 K (noTb H0) H' d sa Pt Pd ns := ⟨h.ent.ext e, t⟩
end
theorem worthsF_good {ws : List Int} (h8 : ws.length ≤ 8) (hn : ∀ x ∈ ws, -1000000 ≤ x ∧ x ≤ 1000000) : worthsF (.tup (ws.map D.int)) = none := by
  show (if (ws.map D.int).length ≤ 8 then (if (ws.map D.int).all (D.betw (-1000000) 1000000) = true then none else some ("number" : Str)) else some "worths") = none
  rw [List.length_map, if_pos h8, if_pos (betw_all hn)]
theorem worthsF_far {ws : List Int} (h8 : ws.length ≤ 8) {far : Int} (hf : far ∈ ws) (hb : ¬ (-1000000 ≤ far ∧ far ≤ 1000000)) : worthsF (.tup (ws.map D.int)) = some ("number" : Str) := by
  show (if (ws.map D.int).length ≤ 8 then (if (ws.map D.int).all (D.betw (-1000000) 1000000) = true then none else some ("number" : Str)) else some ("worths" : Str)) = some ("number" : Str)
  rw [List.length_map, if_pos h8, if_neg]
  intro h
  have q := List.all_eq_true.mp h _ (List.mem_map_of_mem hf)
  obtain ⟨q1, q2⟩ := Bool.and_eq_true_iff.mp (show (decide (-1000000 ≤ far) && decide (far ≤ 1000000)) = true from q)
  exact hb ⟨of_decide_eq_true q1, of_decide_eq_true q2⟩
theorem rowsF_at {W N : Nat} {d : DL.D} {y : Str} {B : List DL.D} (hd : rowF W N d = some y) : ∀ {A : List DL.D} {i : Nat}, (∀ a ∈ A, rowF W N a = none) → rowsF W N i (A ++ d :: B) = some (i + A.length, y)
  | [], i, _ => by
    show (match rowF W N d with | some y => some (i, y) | none => rowsF W N (i + 1) B) = _
    rw [hd]
    rfl
  | a :: A, i, h => by
    show (match rowF W N a with | some y => some (i, y) | none => rowsF W N (i + 1) (A ++ d :: B)) = _
    rw [h a List.mem_cons_self]
    show rowsF W N (i + 1) (A ++ d :: B) = _
    rw [rowsF_at hd fun x hx => h x (List.mem_cons_of_mem _ hx), List.length_cons]
    congr 2
    omega
theorem progF_worths {a b : DL.D} {y : Str} (h : worthsF a = some y) : progF (.tup [a, b]) = some (-1, y) := by
  show (match worthsF a with
    | some y => some ((-1 : Int), y)
    | none => _) = _
  rw [h]
theorem progF_rows {a : DL.D} {rs : List DL.D} (h : worthsF a = none) (hr : ¬ (1 ≤ rs.length ∧ rs.length ≤ 40)) : progF (.tup [a, .tup rs]) = some (-1, ("rows" : Str)) := by
  show (match worthsF a with
    | some y => some ((-1 : Int), y)
    | none => if lenD (.tup [a, .tup rs]) = 2 ∧ 1 ≤ rs.length ∧ rs.length ≤ 40 then (rowsF (lenD a) rs.length 0 rs).map fun q : Nat × Str => ((q.1 : Int), q.2) else some (-1, ("rows" : Str))) = _
  rw [h]
  show (if lenD (.tup [a, .tup rs]) = 2 ∧ 1 ≤ rs.length ∧ rs.length ≤ 40 then (rowsF (lenD a) rs.length 0 rs).map fun q : Nat × Str => ((q.1 : Int), q.2) else some (-1, ("rows" : Str))) = _
  rw [if_neg fun z => hr z.2]
theorem progF_row {ws : List DL.D} {A B : List DL.D} {d : DL.D} {y : Str} {W N : Nat} (h : worthsF (.tup ws) = none) (hW : ws.length = W) (hN : (A ++ d :: B).length = N) (h40 : N ≤ 40) (hA : ∀ a ∈ A, rowF W N a = none) (hd : rowF W N d = some y) : progF (.tup [.tup ws, .tup (A ++ d :: B)]) = some ((A.length : Int), y) := by
  show (match worthsF (.tup ws) with
    | some y => some ((-1 : Int), y)
    | none => if lenD (.tup [.tup ws, .tup (A ++ d :: B)]) = 2 ∧ 1 ≤ (A ++ d :: B).length ∧ (A ++ d :: B).length ≤ 40 then (rowsF ws.length (A ++ d :: B).length 0 (A ++ d :: B)).map fun q : Nat × Str => ((q.1 : Int), q.2) else some (-1, ("rows" : Str))) = _
  rw [h]
  show (if lenD (.tup [.tup ws, .tup (A ++ d :: B)]) = 2 ∧ 1 ≤ (A ++ d :: B).length ∧ (A ++ d :: B).length ≤ 40 then (rowsF ws.length (A ++ d :: B).length 0 (A ++ d :: B)).map fun q : Nat × Str => ((q.1 : Int), q.2) else some (-1, ("rows" : Str))) = _
  rw [hN, hW, if_pos ⟨rfl, by rw [← hN, List.length_append, List.length_cons]; omega, h40⟩, rowsF_at hd hA, Nat.zero_add]
  rfl
theorem worths9 : worthsF (.tup (List.replicate 9 [DL.D.int 0]).flatten) = some ("worths" : Str) := by decide +kernel
def Gd (z10 : Option V) (e : DL.D) (r : Int) (y : Str) : Prop := (y ≠ ("number" : Str) ∧ progF e = some (r, y)) ∨
  (y = ("number" : Str) ∧ ∃ (far : Int) (ws : List Int) (e2 : DL.D), z10 = some (.int far) ∧ e = .tup [.tup (ws.map .int), e2] ∧ (far ∈ ws → progF e = some (r, y)))
def TrB (far : Int) (x : DL.D) : Prop := ∃ (f1 f2 : DL.D) (y : Str), x = .tup [f1, f2, .str y] ∧ (DL.D.tup [f1, f2]).fit ∧ (DL.D.tup [f1, f2]).flat ∧ Gd (some (.int far)) (.tup [f1, f2]) (-1) y
theorem TrB.flat {far : Int} {x : DL.D} (h : TrB far x) : x.flat := by
  obtain ⟨f1, f2, y, rfl, _, h, _⟩ := h
  have h : f1.flat ∧ f2.flat ∧ True := by simpa [D.flat, flatD] using h
  simp [D.flat, flatD, h.1, h.2.1]
def fullP : Prog := ⟨[1000000, -1000000, 0, 0, 0, 0, 0, 0], (List.range 39).map (fun k => Row.add 7 (k + 1)) ++ [Row.stop]⟩
def fullY : Lay := ⟨2, List.replicate 40 0, List.replicate 8 [0, 1]⟩
theorem full_good : Good fullP := by
  refine ⟨by decide, by decide, by decide, by decide, fun r hr => ?_⟩
  rcases List.mem_append.mp (show r ∈ (List.range 39).map (fun k => Row.add 7 (k + 1)) ++ [Row.stop] from hr) with q | q
  · obtain ⟨k, hk, rfl⟩ := List.mem_map.mp q
    have hk := List.mem_range.mp hk
    exact ⟨by show 7 < 8; decide, by show k + 1 < 40; omega⟩
  · rw [List.mem_singleton.mp q]
    exact trivial
theorem full_lay : LayOk fullP fullY := by
  refine ⟨by decide, by decide, by decide, fun x hx => ?_, by decide, fun h hh => ?_⟩
  · rw [List.eq_of_mem_replicate hx]
    decide
  · rw [List.eq_of_mem_replicate hh]
    exact ⟨by decide, by decide, by decide, by decide⟩
theorem full_stop : (runS fullP 40).here = none := by decide +kernel
theorem full_stop2 : (runS fullP 5000).here = none := by rw [runS_end full_stop (by decide)]; exact full_stop
theorem full_cells : (cellsF fullP fullY).length = 56 := by decide +kernel
section
variable {P : Program} {w : World} {K : PySem.W.Frag} {mg : Str → Option Value} {base : Heap}
theorem ok_runF {BF : Addr} (c : FRunX K mg) (cCheckProgram : FCheckProgram K mg) (cCheckFuel : FCheckFuel K mg) (GCP : FnOk P w K mg base CX0 4 cCheckProgram.f cCheckProgram.fd ["program"] spCheckProgram)
    (GF : FnOk P w K mg base (L2.CX P w) 3 cCheckFuel.f cCheckFuel.fd ["fuel"] (spFuelX BF)) : FnOk P w K mg base (L2.CX P w) 5 c.f c.fd ["program", "fuel"] (spRunF BF) := by
  refine c.F.okX scRunX (fun vs H Q E h => ?_) (fun cdv A outer s H vs Q E hr h => ?_)
  · obtain ⟨pa, p, n, rfl, _⟩ := h
    rfl
  · obtain ⟨pa, p, n, rfl, hP, g, hn, k⟩ := h
    refine ⟨_, pss_cons (ps_expr (pe_call GCP (hr.mono (by first | omega | decide)) (by rfl) cCheckProgram.m cCheckProgram.F.kp cCheckProgram.b .nil pass0 (pa_cons (pv 0) pa_nil))) (pss_cut (ps_expr (pe_call GF (hr.mono (by first | omega | decide)) (by rfl) cCheckFuel.m cCheckFuel.F.kp cCheckFuel.b .nil (L2.passes_call (takes_of rfl rfl rfl rfl) (fun _ _ _ _ h => h)) (pa_cons (pv 1) pa_nil)))), ?_⟩
    refine ⟨_, rfl, pa, p, rfl, hP, g, fun H1 s1 => ?_⟩
    exact ⟨_, rfl, n, rfl, hn, k H1 s1⟩
theorem scLaw : FnScope nLaw ["_law_script"] (defScope sLaw) := ⟨rfl, rfl, rfl, by decide +kernel, rfl, by decide +kernel, by decide +kernel⟩
theorem ok_law {fa cc Pt Pd fD : Addr} {fdD : FuncData} {oc kV doc pm ct : Value} {an od : Option Addr} {osl : Array (Option Value)}
    (lk : K.lookup fa = some ⟨oc, od, .func (PySem.W.fnOf "law" "law" (defArgs sLaw) (defBody sLaw) (defScope sLaw) .none kV doc pm an (.ref cc) ct), osl⟩) (hcd : PySem.W.codeIn K (.ref cc) "law" = true) (TB : TabB base mg cc Pt) (hne : Pt ≠ Pd)
    (cDice : FDice K mg) (cNext : FNext K mg) (cAny : FAny K mg) (cLike : FLike K mg) (cTold : FTold K mg) (cRowBad : FRowBad K mg) (cRunX : FRunX K mg) (cImage : FImage K mg)
    (T : Bt mg) (E : Er mg) {CP CF : Addr} (kBP : KnF K E CP 0) (kBF : Knd K E CF 2)
    (mDo : mg "_law_doors" = some (.ref fD)) (kpDo : PySem.W.keepIn K (.ref fD) = true) (bDo : L2.Binds K fdD pDoors [])
    (GAny : FnOk P w K mg base CX0 8 cAny.f cAny.fd ["_law_d"] (spAny K)) (GDoors : FnOk P w K mg base CX0 2 fD fdD pDoors (spDoors P w K mg base Pt Pd CP))
    (GRunX : FnOk P w K mg base CX0 5 cRunX.f cRunX.fd ["program", "fuel"] spRun) (GRunF : FnOk P w K mg base (L2.CX P w) 5 cRunX.f cRunX.fd ["program", "fuel"] (spRunF CF))
    (GImage : FnOk P w K mg base CX0 6 cImage.f cImage.fd ["program", "laying"] spImage) :
    FnOk P w K mg base CX0 11 fa (PySem.W.fnOf "law" "law" (defArgs sLaw) (defBody sLaw) (defScope sLaw) .none kV doc pm an (.ref cc) ct) ["_law_script"] (spLaw K Pt Pd) := by
  have GDice : FnOk P w K mg base CX0 1 cDice.f cDice.fd ["_law_script"] (spDice K) := ok_dice cDice.F T
  have GNext : FnOk P w K mg base CX0 1 cNext.f cNext.fd ["_law_dice_here", "_law_many"] (spNext K) := ok_next cNext.F T
  have GRowBad : FnOk P w K mg base CX0 2 cRowBad.f cRowBad.fd ["_law_d", "_law_worths", "_law_rows"] (spRowBad K) := ok_rowBad cRowBad cNext T
  have GLike : FnOk P w K mg base CX0 5 cLike.f cLike.fd ["_law_found", "_law_due"] (spLike K 4) := ok_like cLike.F cLike.b cLike.m T 4
  obtain ⟨ft, fdt, FT, bTo, mTo⟩ := cTold
  have kpTo := FT.kp
  obtain ⟨ocT, odT, kVT, docT, pmT, anT, cdvT, ctT, oslT, rfl, lkTo, hcdTo⟩ := FT.ex
  refine fn_of lk hcd scLaw (fun vs H Q E h => ?_) (fun A outer s H vs Q E' hr h => ?_)
  · obtain ⟨sa, ns, rfl, _⟩ := h
    rfl
  · obtain ⟨sa, ns, rfl, hS, hlen, hPt, hPd, kq⟩ := h
    refine ⟨_, PSs.nox (pss_cons (ps_set (i := 1) scLaw.nd rfl (Or.inl rfl) (pe_call GDice (hr.mono (by first | omega | decide)) (by rfl) cDice.m cDice.F.kp cDice.b .nil pass0 (pa_cons (pv 0) pa_nil)))
      (pss_cons (ps_for PassesOwn.never rfl (pi_range1 rfl T.range (pa_cons pe_int pa_nil)) (pg_name (i := 2) scLaw.nd rfl (Or.inl rfl))
          (pss_cons (ps_asg (pe_call GAny (hr.mono (by first | omega | decide)) (by rfl) cAny.m cAny.F.kp cAny.b .nil pass0 (pa_cons (pv 1) pa_nil)) (pg_tup rfl (pgs_cons (pg_name (i := 3) scLaw.nd rfl (Or.inl rfl)) (pgs_cons (pg_name (i := 4) scLaw.nd rfl (Or.inl rfl)) pgs_nil))))
          (pss_cons (ps_set (i := 5) scLaw.nd rfl (Or.inl rfl) (pe_call GNext (hr.mono (by first | omega | decide)) (by rfl) cNext.m cNext.F.kp cNext.b .nil pass0 (pa_cons (pv 1) (pa_cons (pe_op op_add (pe_callB call_len_seq (by rfl) T.len PySem.boot_len (pa_cons (pv 4) pa_nil)) (pe_callTy call_int1 (by rfl) T.int (by decide +kernel) (pa_cons (pe_cmpR op_lt (pe_callB call_len_seq (by rfl) T.len PySem.boot_len (pa_cons (pv 4) pa_nil)) pe_int (nomark _)) pa_nil))) pa_nil))))
          (pss_cons (ps_asg (pe_call GRowBad (hr.mono (by first | omega | decide)) (by rfl) cRowBad.m cRowBad.F.kp cRowBad.b .nil pass0 (pa_cons (pv 1) (pa_cons (pe_callB call_len_seq (by rfl) T.len PySem.boot_len (pa_cons (pv 3) pa_nil)) (pa_cons (pe_op op_add (pe_callB call_len_seq (by rfl) T.len PySem.boot_len (pa_cons (pv 4) pa_nil)) (pe_callTy call_int1 (by rfl) T.int (by decide +kernel) (pa_cons (pe_cmpR op_eq (pv 5) (pe_callB call_len_seq (by rfl) T.len PySem.boot_len (pa_cons (pv 4) pa_nil)) (nomark _)) pa_nil))) pa_nil)))) (pg_tup rfl (pgs_cons (pg_name (i := 6) scLaw.nd rfl (Or.inl rfl)) (pgs_cons (pg_name (i := 7) scLaw.nd rfl (Or.inl rfl)) pgs_nil))))
          (pss_cons (ps_set (i := 8) scLaw.nd rfl (Or.inr rfl) (pe_tup (pa_cons (pv 3) (pa_cons (pe_op op_catS (pe_op op_catS (pe_slice sl_tupS (pv 4) po_none (po_some (pv 5))) (pe_tup (pa_cons (pv 6) pa_nil))) (pe_slice sl_tupS (pv 4) (po_some (pe_op op_add (pv 5) pe_int)) po_none)) pa_nil))))
          (pss_cons (ps_set (i := 9) scLaw.nd rfl (Or.inl rfl) (pe_tup (pa_cons pe_str (pa_cons (pv 5) (pa_cons (pv 7) pa_nil)))))
          (pss_cons (ps_if (pt_cmpR op_eq (pe_call GNext (hr.mono (by first | omega | decide)) (by rfl) cNext.m cNext.F.kp cNext.b .nil pass0 (pa_cons (pv 1) (pa_cons pe_int pa_nil))) pe_int (nomark _))
              (pss_cons (ps_set (i := 10) scLaw.nd rfl (Or.inl rfl) (pe_ix ix_list (pe_lst (pa_cons (pe_op op_add (pe_op op_pow pe_int pe_int) pe_int) (pa_cons (pe_op op_sub (pe_un un_neg (pe_op op_pow pe_int pe_int)) pe_int) (pa_cons (pe_op op_pow pe_int pe_int) pa_nil)))) (pe_call GNext (hr.mono (by first | omega | decide)) (by rfl) cNext.m cNext.F.kp cNext.b .nil pass0 (pa_cons (pv 1) (pa_cons pe_int pa_nil))) (fun _ _ => rfl)))
              (pss_cons (ps_set (i := 11) scLaw.nd rfl (Or.inl rfl) (pe_call GNext (hr.mono (by first | omega | decide)) (by rfl) cNext.m cNext.F.kp cNext.b .nil pass0 (pa_cons (pv 1) (pa_cons (pe_op op_add (pe_callB call_len_seq (by rfl) T.len PySem.boot_len (pa_cons (pv 3) pa_nil)) pe_int) pa_nil))))
              (pss_cons (ps_set (i := 12) scLaw.nd rfl (Or.inl rfl) (pe_lst (pa_cons (pe_tup (pa_cons (pe_op op_repN (pe_tup (pa_cons pe_int pa_nil)) pe_int) (pa_cons (pe_ix ix_tup (pv 8) pe_int (fun _ _ => rfl)) (pa_cons pe_str pa_nil)))) (pa_cons (pe_tup (pa_cons (pe_slice sl_tupS (pe_op op_catS (pe_op op_catS (pe_slice sl_tupS (pv 3) po_none (po_some (pv 11))) (pe_tup (pa_cons (pv 10) pa_nil))) (pe_slice sl_tupS (pv 3) (po_some (pv 11)) po_none)) (po_some (pe_un un_neg pe_int)) po_none) (pa_cons (pe_ix ix_tup (pv 8) pe_int (fun _ _ => rfl)) (pa_cons pe_str pa_nil)))) pa_nil))))
              (pss_cons (ps_set (i := 12) scLaw.nd rfl (Or.inl rfl) (pe_op op_cat (pv 12) (pe_lst (pa_cons (pe_tup (pa_cons (pv 3) (pa_cons (pe_tup pa_nil) (pa_cons pe_str pa_nil)))) (pa_cons (pe_tup (pa_cons (pv 3) (pa_cons (pe_op op_repN (pe_tup (pa_cons (pe_tup (pa_cons pe_str pa_nil)) pa_nil)) (pe_op op_add pe_int (pe_call GNext (hr.mono (by first | omega | decide)) (by rfl) cNext.m cNext.F.kp cNext.b .nil pass0 (pa_cons (pv 1) (pa_cons pe_int pa_nil))))) (pa_cons pe_str pa_nil)))) pa_nil)))))
              (pss_cons (ps_asg (pe_ix ix_list (pv 12) (pe_call GNext (hr.mono (by first | omega | decide)) (by rfl) cNext.m cNext.F.kp cNext.b .nil pass0 (pa_cons (pv 1) (pa_cons pe_int pa_nil))) (fun _ _ => rfl)) (pg_tup rfl (pgs_cons (pg_name (i := 13) scLaw.nd rfl (Or.inl rfl)) (pgs_cons (pg_name (i := 14) scLaw.nd rfl (Or.inl rfl)) (pgs_cons (pg_name (i := 7) scLaw.nd rfl (Or.inl rfl)) pgs_nil)))))
              (pss_cons (ps_set (i := 8) scLaw.nd rfl (Or.inr rfl) (pe_tup (pa_cons (pv 13) (pa_cons (pv 14) pa_nil))))
              (pss_one (ps_set (i := 9) scLaw.nd rfl (Or.inl rfl) (pe_tup (pa_cons pe_str (pa_cons (pe_un un_neg pe_int) (pa_cons (pv 7) pa_nil))))))))))))
              pss_nil)
          (pss_one (ps_if (PW.pt (pw_or (pt_cmpR op_ne (pe_ix ix_tup (pv 9) pe_int (fun _ _ => rfl)) pe_str (nomark _)) (pw_or1 (pt_cmpR op_in_seq (pv 10) (pe_ix ix_tup (pv 8) pe_int (fun _ _ => rfl)) rfl))))
              (pss_one (ps_for PassesOwn.never rfl (pi_list (pe_call GDoors (hr.mono (by first | omega | decide)) (by rfl) mDo kpDo bDo .nil pass0 (pa_cons (pv 8) (pa_cons (pe_tup (pa_cons pe_int (pa_cons (pe_tup pa_nil) (pa_cons (pe_tup pa_nil) pa_nil)))) (pa_cons (pe_lst (pa_cons (pe_tup (pa_cons pe_int (pa_cons pe_int (pa_cons pe_int pa_nil)))) pa_nil)) pa_nil))))) (pg_name (i := 15) scLaw.nd rfl (Or.inl rfl))
                  (pss_one (ps_if (pt_not (pt_val (pe_call GLike (hr.mono (by first | omega | decide)) (by rfl) cLike.m cLike.F.kp cLike.b .nil pass0 (pa_cons (pe_toldW (N := nDoors) (q := qD) (TT := TTe K E) (k := 8) (by rfl) mTo kpTo lkTo hcdTo bTo scTold rfl (Or.inl rfl) (told_okEK (K0 := K) (mg0 := mg) rfl rfl E T) (hr.mono (by first | omega | decide)) (pv 15)) (pa_cons (pv 9) pa_nil)))))
                      (pss_one (ps_ret pe_bl))
                      pss_nil))))
              pss_nil)))))))))
      (pss_cons (ps_set (i := 16) scLaw.nd rfl (Or.inr rfl) (pe_tup (pa_cons (pe_tup (pa_cons (pe_op op_pow pe_int pe_int) (pa_cons (pe_un un_neg (pe_op op_pow pe_int pe_int)) (pa_cons pe_int (pa_cons pe_int (pa_cons pe_int (pa_cons pe_int (pa_cons pe_int (pa_cons pe_int pa_nil))))))))) (pa_cons (pe_op op_catS (pe_callTy call_tuple_of (by rfl) T.tuple (by decide +kernel) (pa_cons (pe_lc (own := [("_law_k", 17)]) (g := gName 17) (tt := tYes) rfl scLaw.nd (pi_range2 rfl T.range (pa_cons pe_int (pa_cons pe_int pa_nil))) (blkOk_by (N := nLaw) (sc := defScope sLaw) (by decide +kernel)) (fun _ _ _ _ _ => (pg_name (i := 17) scLaw.nd rfl (Or.inl rfl))) (fun _ _ _ _ _ => pts_nil) (fun _ _ _ _ _ => (pe_tup (pa_cons pe_str (pa_cons pe_int (pa_cons (pv 17) pa_nil)))))) pa_nil)) (pe_tup (pa_cons (pe_tup (pa_cons pe_str pa_nil)) pa_nil))) pa_nil))))
      (pss_cons (ps_if (PW.pt (pw_or (pt_cmpR (op_neD hr.units) (pe_ix ix_tup (pe_call GRunX (hr.mono (by first | omega | decide)) (by rfl) cRunX.m cRunX.F.kp cRunX.b .nil pass0 (pa_cons (pv 16) (pa_cons pe_int pa_nil))) pe_int (fun _ _ => rfl)) (pe_tup (pa_cons pe_str pa_nil)) (nomark _)) (pw_or1 (pt_cmpR op_ne (pe_callB call_len_seq (by rfl) T.len PySem.boot_len (pa_cons (pe_ix ix_tup (pe_call GImage (hr.mono (by first | omega | decide)) (by rfl) cImage.m cImage.F.kp cImage.b .nil pass0 (pa_cons (pv 16) (pa_cons (pe_tup (pa_cons pe_int (pa_cons (pe_op op_repN (pe_tup (pa_cons pe_int pa_nil)) pe_int) (pa_cons (pe_op op_repN (pe_tup (pa_cons (pe_tup (pa_cons pe_int (pa_cons pe_int pa_nil))) pa_nil)) pe_int) pa_nil)))) pa_nil))) pe_int (fun _ _ => rfl)) pa_nil)) pe_int (nomark _)))))
          (pss_one (ps_ret pe_bl))
          pss_nil)
      (pss_cons (ps_set (i := 8) scLaw.nd rfl (Or.inr rfl) (pe_ix ix_list (pe_lst (pa_cons (pe_un un_neg pe_int) (pa_cons pe_int (pa_cons (pe_un un_neg (pe_op op_pow pe_int pe_int)) (pa_cons (pe_op op_pow pe_int pe_int) pa_nil))))) (pe_call GNext (hr.mono (by first | omega | decide)) (by rfl) cNext.m cNext.F.kp cNext.b .nil pass0 (pa_cons (pv 1) (pa_cons pe_int pa_nil))) (fun _ _ => rfl)))
      (pss_one (ps_ret (pe_and (pe_cmpR (op_eqD hr.units) (pe_told (k := 8) (by rfl) mTo kpTo lkTo hcdTo bTo scTold rfl (Or.inl rfl) (told_okE E T) (hr.mono (by first | omega | decide)) (pe_lam0 (k := 8) (T := tabs2 Pt Pd) TB rfl (tab2_l (by rfl)) (tab2_lu hne (by rfl)) (lamN_by (N := nLaw) (sc := defScope sLaw) (by decide +kernel)) rfl (fun _ _ _ _ _ => rfl) (fun A2 outer2 s2 H2 E2 f2 c2 hr2 => (pe_call GRunF (hr2.mono (by first | omega | decide)) (by rfl) cRunX.m cRunX.F.kp cRunX.b .nil (L2.passes_call (takes_of rfl rfl rfl rfl) (fun _ _ _ _ h => h)) (pa_cons (pv 16) (pa_cons (pv 8) pa_nil)))))) (pe_tup (pa_cons pe_str pa_nil)) (nomark _)) (pe_one (pe_cmpR (op_eqD hr.units) (pe_ix ix_tup (pe_call GRunX (hr.mono (by first | omega | decide)) (by rfl) cRunX.m cRunX.F.kp cRunX.b .nil pass0 (pa_cons (pv 16) (pa_cons pe_int pa_nil))) pe_int (fun _ _ => rfl)) (pe_tup (pa_cons pe_str pa_nil)) (nomark _))))))))))), ?_⟩
    refine ⟨_, rfl, sa, ns, rfl, hS, hlen, fun d H1 s1 hd hE => ?_⟩
    have L1 : Ct2 K (noTb H1) H1 d sa Pt Pd ns := by
      refine ⟨⟨hE.noTb, fun x o _ g => (noTb_of g).1, hE.dice⟩, fun p hp => ?_⟩
      rcases List.mem_cons.mp hp with rfl | hp
      · exact TabS.nil (s1 _ _ hPt)
      · rw [List.mem_singleton.mp hp]
        exact TabS.nil (s1 _ _ hPd)
    refine ⟨4, rfl, by decide, by decide, ?_⟩
    refine for_range (lo := 0) (n := (4 : Int).toNat) (fun i σ H' => ∃ (x2 x3 x4 x5 x6 x7 x8 x9 x10 x11 x12 x13 x14 x15 x16 x17 : Option V), σ = [some (.ref sa), some (.ref d), x2, x3, x4, x5, x6, x7, x8, x9, x10, x11, x12, x13, x14, x15, x16, x17] ∧ Ct2 K (noTb H1) H' d sa Pt Pd ns)
      ⟨none, none, none, none, none, none, none, none, none, none, none, none, none, none, none, none, rfl, L1⟩ ?_ ?_
    · rintro i σ H2 hi ⟨x2, x3, x4, x5, x6, x7, x8, x9, x10, x11, x12, x13, x14, x15, x16, x17, rfl, L2⟩
      refine ⟨_, rfl, d, sa, ns, rfl, L2.ent.ent, fun pa p H3 C3 hP g => ?_⟩
      have L3 := L2.dice C3
      obtain ⟨wa, ra, bs, hpa, hwa, hra, hR⟩ := id hP
      have hbr := Paired.length hR
      have r1 := g.r1
      have r40 := g.r40
      have w8 := g.w8
      refine ⟨pa, _, rfl, SqT.of hpa, rfl, _, _, rfl, _, _, rfl, rfl, ?_⟩
      dsimp only [gName]
      refine ⟨_, rfl, _, rfl, ra, _, rfl, .inr (SqT.of hra), _, rfl, ra, _, rfl, .inr (SqT.of hra), _, _, rfl, rfl, .inr ⟨_, rfl, _, _, rfl, rfl, ?_⟩⟩
      have hlb : (bs.map V.ref).length = p.rows.length := by rw [List.length_map, hbr]
      obtain ⟨cap, hcap, hcap1, hcap2⟩ : ∃ cap : Nat, (((bs.map V.ref).length : Int) + if decide (((bs.map V.ref).length : Int) < 40) = true then 1 else 0) = (cap : Int) ∧ 1 ≤ cap ∧ (cap = p.rows.length + 1 ∧ p.rows.length < 40 ∨ cap = p.rows.length) := by
        rw [hlb]
        by_cases q : (p.rows.length : Int) < 40
        · exact ⟨p.rows.length + 1, by rw [if_pos (decide_eq_true q)]; omega, by omega, .inl ⟨rfl, by omega⟩⟩
        · exact ⟨p.rows.length, by rw [if_neg (by rw [decide_eq_false q]; decide)]; omega, by omega, .inr rfl⟩
      refine ⟨d, sa, ns, (cap : Int), (by rw [← hcap]; rfl), L3.ent.ent, by omega, by omega, fun at_ H4 a4 b4 C4 => ?_⟩
      obtain ⟨at', rfl⟩ : ∃ j : Nat, at_ = (j : Int) := ⟨at_.toNat, by omega⟩
      have L4 := L3.dice C4
      have hwa4 := C4.kp _ _ hwa
      have hra4 := C4.kp _ _ hra
      dsimp only [gName]
      obtain ⟨N', hN', hN1, hN2⟩ : ∃ N' : Nat, (((bs.map V.ref).length : Int) + if decide (V.int (at' : Int) = V.int ((bs.map V.ref).length : Int)) = true then 1 else 0) = (N' : Int) ∧ p.rows.length ≤ N' ∧ (N' = p.rows.length ∧ at' < p.rows.length ∨ N' = p.rows.length + 1 ∧ at' = p.rows.length ∧ p.rows.length < 40) := by
        rw [hlb]
        by_cases q : at' = p.rows.length
        · exact ⟨p.rows.length + 1, by rw [if_pos (decide_eq_true (by rw [q]))]; omega, by omega, .inr ⟨rfl, q, by omega⟩⟩
        · exact ⟨p.rows.length, by rw [if_neg (by rw [decide_eq_false (fun z => q (by have := V.int.inj z; omega))]; decide)]; omega, by omega, .inl ⟨rfl, by omega⟩⟩
      refine ⟨_, rfl, _, rfl, wa, _, rfl, .inr (SqT.of hwa4), _, rfl, ra, _, rfl, .inr (SqT.of hra4), _, rfl, _, rfl, ra, _, rfl, .inr (SqT.of hra4), rfl, .inr ⟨_, rfl, _, _, rfl, rfl, ?_⟩⟩
      refine ⟨d, sa, ns, p.ws.length, N', (by rw [← hN', ← List.length_map (f := V.int) (as := p.ws)]; rfl), L4.ent.ent, w8, by omega, by omega, fun t6 v6 e6 why H5 C5 ht6 hv6 rb => ?_⟩
      have L5 := L4.dice C5
      have hwa5 := C5.kp _ _ hwa4
      have hra5 := C5.kp _ _ hra4
      refine ⟨t6, _, rfl, SqT.of ht6, rfl, _, _, rfl, _, _, rfl, rfl, ?_⟩
      dsimp only [gName]
      refine ⟨_, rfl, _, rfl, _, rfl, _, rfl, ra, _, rfl, hra5, fun t7 H7 s7 e7 => ?_⟩
      rw [zcut_to] at e7
      refine ⟨_, rfl, (by show 1 ≤ sizeLine; decide), fun t8 ht8 => ?_⟩
      refine alloc ht8 fun H8 s8 e8 => ?_
      refine ⟨t7, t8, _, _, rfl, rfl, s8 _ _ e7, e8, sz (by rw [List.length_take, hlb]; show _ + 1 ≤ _; omega), fun t9 H9 s9 e9 => ?_⟩
      have s79 := s7.trans (s8.trans s9)
      refine ⟨_, rfl, _, rfl, _, _, rfl, rfl, _, rfl, ra, _, rfl, s79 _ _ hra5, fun t10 H10 s10 e10 => ?_⟩
      rw [show ((at' : Int) + 1) = ((at' + 1 : Nat) : Int) by omega, dropn] at e10
      refine ⟨t9, t10, _, _, rfl, rfl, s10 _ _ e9, e10, sz (by rw [List.length_append, List.length_take, List.length_drop, hlb]; show _ + 1 + _ ≤ _; omega), fun t11 H11 s11 e11 => ?_⟩
      refine ⟨(by show 2 ≤ sizeLine; decide), fun o1 ho1 => ?_⟩
      refine alloc ho1 fun H12 s12 eo1 => ?_
      have s12' : Same1 H5 H12 := (s79.trans s10).trans (s11.trans s12)
      dsimp only [gName]
      refine ⟨_, rfl, _, rfl, (by show 3 ≤ sizeLine; decide), fun t12 ht12 => ?_⟩
      refine alloc ht12 fun H13 s13 e13 => ?_
      have L13 := (L5.same s12').same s13
      dsimp only [gName]
      obtain ⟨e0, he0⟩ : ∃ e0 : DL.D, e0 = .tup ((p.rows.map rowDD).take at' ++ e6 :: (p.rows.map rowDD).drop (at' + 1)) := ⟨_, rfl⟩
      have S12 : Same1 H11 H13 := s12.trans s13
      have a11 : At H13 (.ref t11) e0 := by
        rw [he0]
        refine zat_tup (S12 _ _ e11) ?_
        have hb : Ats H13 (bs.map V.ref) (p.rows.map rowDD) := at_rows (RowsAt.kp (RowsAt.kp hR (C4.kp.trans C5.kp)) (Kp.same (s12'.trans s13)))
        rw [List.append_assoc]
        exact zats_app (zats_take _ hb) (zats_cons (At.sm0 (s12'.trans s13) _ _ hv6) (zats_drop _ hb))
      have aw : At H13 (.ref wa) (.tup (p.ws.map .int)) := zat_tup ((s12'.trans s13) _ _ hwa5) (at_ints _)
      have ao : At H13 (.ref o1) (.tup [.tup (p.ws.map .int), e0]) := zat_tup (s13 _ _ eo1) (zats_cons aw (zats_cons a11 zats_nil))
      have rfl_ : ∀ x ∈ p.rows.map rowDD, x.flat ∧ x.fit := fun x hx => by
        obtain ⟨r, _, rfl⟩ := List.mem_map.mp hx
        exact ⟨by unfold rowDD; cases r <;> simp [D.flat, flatD, argsD], fit_row r⟩
      have mem0 : ∀ x ∈ (p.rows.map rowDD).take at' ++ e6 :: (p.rows.map rowDD).drop (at' + 1), x.flat ∧ x.fit := fun x hx => by
        rcases List.mem_append.mp hx with q | q
        · exact rfl_ x (List.mem_of_mem_take q)
        · rcases List.mem_cons.mp q with rfl | q
          · exact ⟨rb.flat, rb.fit⟩
          · exact rfl_ x (List.mem_of_mem_drop q)
      have len0 : ((p.rows.map rowDD).take at' ++ e6 :: (p.rows.map rowDD).drop (at' + 1)).length = N' := by
        rw [List.length_append, List.length_cons, List.length_take, List.length_drop, List.length_map]
        omega
      have flw : (DL.D.tup (p.ws.map .int)).flat := flat_tup fun x hx => by
        obtain ⟨i, _, rfl⟩ := List.mem_map.mp hx
        simp [D.flat]
      have fiw : (DL.D.tup (p.ws.map .int)).fit := fit_ints (by omega)
      have fle0 : e0.flat := by rw [he0]; exact flat_tup fun x hx => (mem0 x hx).1
      have fie0 : e0.fit := by rw [he0]; exact fit_tup (by omega) fun x hx => (mem0 x hx).2
      have wgood : worthsF (.tup (p.ws.map .int)) = none := worthsF_good g.w8 g.num
      have pe0 : progF (.tup [.tup (p.ws.map .int), e0]) = some ((at' : Int), why) := by
        rw [he0, progF_row wgood (List.length_map _) len0 (by omega) (fun a ha => ?_) rb.bad, List.length_take, List.length_map]
        · congr 2
          omega
        · obtain ⟨r, hr, rfl⟩ := List.mem_map.mp (List.mem_of_mem_take ha)
          exact rowF_dd (Row.ok.mono hN1 (g.ok r hr))
      have fl2 : ∀ {a b : DL.D}, a.flat → b.flat → (DL.D.tup [a, b]).flat := fun ha hb => flat_tup fun x hx => by
        rcases List.mem_cons.mp hx with rfl | hx
        · exact ha
        · rw [List.mem_singleton.mp hx]; exact hb
      have fi2 : ∀ {a b : DL.D}, a.fit → b.fit → (DL.D.tup [a, b]).fit := fun ha hb => fit_tup (by show 2 ≤ 100000; decide) fun x hx => by
        rcases List.mem_cons.mp hx with rfl | hx
        · exact ha
        · rw [List.mem_singleton.mp hx]; exact hb
      refine seq_elim (fun σ' H' => ∃ (z3 z4 z5 z6 z7 z10 z11 z12 z13 z14 z15 z16 z17 : Option V) (o t : Addr) (e : DL.D) (r : Int) (y : Str), σ' = [some (.ref sa), some (.ref d), some (.int (0 + (i : Int))), z3, z4, z5, z6, z7, some (.ref o), some (.ref t), z10, z11, z12, z13, z14, z15, z16, z17] ∧ Ct2 K (noTb H1) H' d sa Pt Pd ns ∧
        At H' (.ref o) e ∧ e.fit ∧ e.flat ∧ H' t = some (.tup [.str "program", .int r, .str y]) ∧ Gd z10 e r y) ?_ ?_
      · rintro σ' H14 ⟨z3, z4, z5, z6, z7, z10, z11, z12, z13, z14, z15, z16, z17, o, t, e, r, y, rfl, L14, ae, fe, fle, et, gd⟩
        refine if_elim (fun b H' => H' = H14 ∧ (b = true → progF e = some (r, y))) ?_ ?_
        · rintro b H' ⟨rfl, hb⟩
          cases b with
          | false => exact iteF ⟨_, _, _, _, _, _, _, _, _, _, _, _, _, _, _, _, rfl, L14⟩
          | true =>
            have pe := hb rfl
            refine iteT ⟨_, rfl, Nat.zero_le _, fun a1 ha1 => ?_⟩
            refine alloc ha1 fun H15 s15 e15 => ?_
            refine ⟨Nat.zero_le _, fun a2 ha2 => ?_⟩
            refine alloc ha2 fun H16 s16 e16 => ?_
            refine ⟨(by show 3 ≤ sizeLine; decide), fun a3 ha3 => ?_⟩
            refine alloc ha3 fun H17 s17 e17 => ?_
            refine ⟨(by show 3 ≤ sizeLine; decide), fun a4 ha4 => ?_⟩
            refine alloc ha4 fun H18 s18 e18 => ?_
            refine ⟨(by show 1 ≤ sizeLine; decide), fun a5 ha5 => ?_⟩
            refine alloc ha5 fun H19 s19 e19 => ?_
            have s1519 := s15.trans (s16.trans (s17.trans (s18.trans s19)))
            have L19 := L14.same s1519
            refine ⟨_, _, _, e, r, y, rfl, fe, pe, L19.tabs, fun wl ws CM σ0 H20 x20 T20 hwl hwn CF hD => ?_⟩
            have L20 := L19.ext x20 T20
            have ae20 : At H20 (.ref o) e := At.keep ((Kp.same s1519).trans (Kp.ext x20)) _ _ fle ae
            have et20 : H20 t = some (.tup [.str "program", .int r, .str y]) := Kp.ext x20 _ _ (s1519 _ _ et)
            refine ⟨wl, rfl, ⟨_, SqL.of hwl⟩, ?_⟩
            refine for_list (K := K) (a := wl) (xs := ws) (fun j σ H' => ∃ z15' : Option V, σ = [some (.ref sa), some (.ref d), some (.int (0 + (i : Int))), z3, z4, z5, z6, z7, some (.ref o), some (.ref t), z10, z11, z12, z13, z14, z15', z16, z17] ∧ Same1 H20 H')
              ⟨z15, rfl, Same.refl _⟩ (fun j σ H' _ ⟨_, _, q⟩ => SqL.of (q _ _ hwl)) ?_ ?_
            · rintro j v σ H21 hv ⟨z15', rfl, s21⟩
              obtain ⟨tt, ⟨f1, c1, o1', sc1, cl1, dT1, rfl, l1, l2, l3, l4, l5⟩, run⟩ := hD v (List.mem_of_getElem? hv)
              have CF21 := CF.keep fun b o h _ _ => s21 b o h
              have l3' : DvAt H21 dT1 := by
                cases dT1 with
                | none => exact True.intro
                | some T => exact s21 _ _ l3
              refine ⟨.ref f1, rfl, CM, σ0, f1, c1, o1', sc1, cl1, dT1, tt, rfl, s21 _ _ l2, l4, l5, s21 _ _ l1, l3', CF21, ?_⟩
              refine run _ _ _ (At.keep CF21.cels.kp _ _ fle (At.sm0 s21 _ _ ae20)) fun d22 H22 nd22 s22 e22 => fun fr => toldX_bp kBP (wi_at fr e22) fun t23 H23 s23 e23 => ?_
              have s2123 : Same1 H21 H23 := fun b o h => s23 b o (wi_same s22 b o h)
              refine ⟨_, rfl, ?_⟩
              have at3 : ∀ {H' : Hp} {t' : Addr}, H' t' = some (.tup [.str "program", .int r, .str y]) → At H' (.ref t') (.tup [.str "program", .int r, .str y]) := fun h => zat_tup h (zats_cons (by simp only [At]) (zats_cons zat_int (zats_cons (by simp only [At]) zats_nil)))
              refine ⟨.ref t23, .ref t, .tup [.str "program", .int r, .str y], rfl, at3 e23, at3 (s2123 _ _ (s21 _ _ et20)), by simp [D.dep, depL], by simp [D.fit, fitL], ?_⟩
              refine ⟨_, rfl, iteF ?_⟩
              exact ⟨_, rfl, s21.trans s2123⟩
            · rintro σ H21 ⟨z15', rfl, s21⟩
              exact ⟨_, _, _, _, _, _, _, _, _, _, _, _, _, _, _, _, rfl, L20.same s21⟩
        · intro F' hF
          refine ⟨_, rfl, t, _, _, _, rfl, rfl, SqT.of et, at2, rfl, _, rfl, ite2 (fun c => ?_) (fun c => ?_)⟩
          · refine hF true _ ⟨rfl, fun _ => ?_⟩
            rcases gd with ⟨_, q⟩ | ⟨q, _⟩
            · exact q
            · rw [q] at c
              exact absurd c (by decide +kernel)
          · have ey : y = ("number" : Str) := by
              by_cases q : y = ("number" : Str)
              · exact q
              · exact absurd (by rw [decide_eq_false (fun z => q (V.str.inj z))]; rfl) c
            obtain ⟨far, ws, e2, rfl, rfl, hp⟩ : ∃ (far : Int) (ws : List Int) (e2 : DL.D), z10 = some (.int far) ∧ e = .tup [.tup (ws.map .int), e2] ∧ (far ∈ ws → progF e = some (r, y)) := by
              rcases gd with ⟨q, _⟩ | ⟨_, q⟩
              · exact absurd ey q
              · exact q
            obtain ⟨oo, us, eo, h1, h2⟩ := zat_tupI ae
            cases eo
            match us, h2 with
            | [u1, u2], h2 =>
              obtain ⟨wq, vs, rfl, h3, h4⟩ := zat_tupI (zats_un h2).1
              rw [ats_ints h4] at h3
              refine ⟨_, rfl, _, rfl, o, _, _, _, rfl, rfl, SqT.of h1, at0, wq, _, rfl, .inr (SqT.of h3), rfl, List.all_eq_true.mpr fun z hz => ?_, _, rfl, hF _ _ ⟨rfl, fun hb => hp ?_⟩⟩
              · obtain ⟨i, _, rfl⟩ := List.mem_map.mp hz
                rfl
              · obtain ⟨z, hz, q⟩ := List.any_eq_true.mp (show (ws.map V.int).any (fun y => eqV y (.int far)) = true from hb)
                obtain ⟨i, hi, rfl⟩ := List.mem_map.mp hz
                have q : (i == far) = true := q
                rw [← eq_of_beq q]
                exact hi
      · intro N hN
        refine ⟨_, rfl, d, sa, ns, _, rfl, L13.ent.ent, by decide, by decide, fun n14 H14 a14 b14 C14 => ?_⟩
        have L14 := L13.dice C14
        refine ⟨rfl, _, rfl, ite2 (fun c => ?_) (fun c => ?_)⟩
        · refine LtA.ixAsg (ds := [.int (10 ^ (6 : Int).toNat + 1), .int (-(10 ^ (6 : Int).toNat) - 1), .int (10 ^ (18 : Int).toNat)]) (lt_cons (lt_op (lt_pow ⟨by decide, by decide, by decide⟩) lt_int) (lt_cons (lt_op (lt_un (lt_pow ⟨by decide, by decide, by decide⟩)) lt_int) (lt_cons (lt_pow ⟨by decide, by decide, by decide⟩) lt_nil))) fun l15 vs15 H15 s15 n15 e15 r15 => ?_
          have L15 := L14.same s15
          have ev15 : vs15 = ([10 ^ (6 : Int).toNat + 1, -(10 ^ (6 : Int).toNat) - 1, 10 ^ (18 : Int).toNat] : List Int).map V.int := ats_ints r15
          subst ev15
          refine ⟨_, rfl, d, sa, ns, _, rfl, L15.ent.ent, by decide, by decide, fun n16 H16 a16 b16 C16 => ?_⟩
          have L16 := L15.dice C16
          obtain ⟨far, hfar, hfb⟩ : ∃ far : Int, atI (([10 ^ (6 : Int).toNat + 1, -(10 ^ (6 : Int).toNat) - 1, 10 ^ (18 : Int).toNat] : List Int).map V.int) n16 = some (.int far) ∧ ¬ (-1000000 ≤ far ∧ far ≤ 1000000) := by
            rcases (show n16 = 0 ∨ n16 = 1 ∨ n16 = 2 by omega) with q | q | q
            · exact ⟨_, by rw [q]; exact at0, by decide⟩
            · exact ⟨_, by rw [q]; exact at1, by decide⟩
            · exact ⟨_, by rw [q]; exact at2, by decide⟩
          refine ⟨l15, _, _, _, rfl, rfl, SqL.of (C16.but _ _ (L14.ent.ned (L14.ent.here n15)) e15), hfar, ?_⟩
          dsimp only [gName]
          have K16 : Kp H13 H16 := (C14.kp.trans (Kp.same s15)).trans C16.kp
          have hwa16 := K16 _ _ ((s12'.trans s13) _ _ hwa5)
          refine ⟨_, rfl, _, rfl, wa, _, rfl, .inr (SqT.of hwa16), _, _, rfl, rfl, d, sa, ns, _, rfl, L16.ent.ent, by omega, by rw [List.length_map]; omega, fun n17 H17 a17 b17 C17 => ?_⟩
          rw [List.length_map] at b17
          obtain ⟨pl, rfl⟩ : ∃ j : Nat, n17 = (j : Int) := ⟨n17.toNat, by omega⟩
          have L17 := L16.dice C17
          have K17 := K16.trans C17.kp
          have aw17 := At.keep K17 _ _ flw aw
          have ao17 := At.keep K17 _ _ (fl2 flw fle0) ao
          dsimp only [gName]
          have hwl : (p.ws.map DL.D.int).length = p.ws.length := List.length_map _
          refine LtA.asgL (lt_cons (lt_tup (lt_cons (lt_rep (K := K) (n := 9) (lt_tup (lt_cons lt_int lt_nil)) lt_int (by decide) (by decide) (by decide)) (lt_cons (lt_ixT (K := K) (j := 1) rfl ao17 rfl) (lt_cons lt_str lt_nil))))
            (lt_cons (lt_tup (lt_cons (lt_last (n := 8) (by decide) (lt_catS (lt_catS (lt_take (lt_var rfl aw17) rfl) (lt_tup (lt_cons (lt_var rfl zat_int) lt_nil)) (by rw [List.length_take, hwl]; show _ + 1 ≤ _; omega)) (lt_drop (lt_var rfl aw17) rfl) (by rw [List.length_append, List.length_take, List.length_drop, hwl]; show _ + 1 + _ ≤ _; omega))) (lt_cons (lt_ixT (K := K) (j := 1) rfl ao17 rfl) (lt_cons lt_str lt_nil)))) lt_nil)) fun l18 vs18 H18 s18 n18 e18 r18 => ?_
          dsimp only [gName]
          have L18 := L17.same s18
          refine ⟨_, rfl, _, rfl, Nat.zero_le _, fun t19 ht19 => ?_⟩
          refine alloc ht19 fun H19 s19 e19 => ?_
          refine ⟨(by show 3 ≤ sizeLine; decide), fun t20 ht20 => ?_⟩
          refine alloc ht20 fun H20 s20 e20 => ?_
          refine ⟨_, rfl, (by show 1 ≤ sizeLine; decide), fun t21 ht21 => ?_⟩
          refine alloc ht21 fun H21 s21 e21 => ?_
          refine ⟨(by show 1 ≤ sizeLine; decide), fun t22 ht22 => ?_⟩
          refine alloc ht22 fun H22 s22 e22 => ?_
          have s1922 := s19.trans (s20.trans (s21.trans s22))
          have L22 := L18.same s1922
          refine ⟨_, rfl, d, sa, ns, _, rfl, L22.ent.ent, by decide, by decide, fun n23 H23 a23 b23 C23 => ?_⟩
          have L23 := L22.dice C23
          obtain ⟨m, rfl⟩ : ∃ j : Nat, n23 = (j : Int) := ⟨n23.toNat, by omega⟩
          refine ⟨_, _, rfl, rfl, t22, _, _, rfl, rfl, C23.kp _ _ e22, by simp, by omega, by omega, by show 1 ≤ 1000; decide, fun t24 H24 s24 e24 => ?_⟩
          rw [show ((41 : Int) + (m : Int)).toNat = 41 + m by omega] at e24
          refine ⟨(by show 3 ≤ sizeLine; decide), fun t25 ht25 => ?_⟩
          refine alloc ht25 fun H25 s25 e25 => ?_
          refine ⟨(by show 2 ≤ sizeLine; decide), fun l26 hl26 => ?_⟩
          refine alloc hl26 fun H26 s26 e26 => ?_
          have s2426 := s24.trans (s25.trans s26)
          have L26 := L23.same s2426
          have hl18 : H26 l18 = some (.lst vs18) := s2426 _ _ (C23.but _ _ (L17.ent.ned (L17.ent.here n18)) (s1922 _ _ e18))
          have q18 := r18.len
          refine ⟨l18, l26, _, _, rfl, rfl, hl18, e26, sz (by rw [q18]; show 2 + 2 ≤ _; decide), fun l27 hl27 => ?_⟩
          refine alloc hl27 fun H27 s27 e27 => ?_
          have L27 := L26.same s27
          have K27 : Kp H18 H27 := ((Kp.same s1922).trans C23.kp).trans (Kp.same (s2426.trans s27))
          have K2227 : Kp H22 H27 := C23.kp.trans (Kp.same (s2426.trans s27))
          have aw27 := At.keep K27 _ _ flw (At.sm0 s18 _ _ aw17)
          have c19 : At H27 (.ref t19) (.tup []) := zat_tup (K2227 _ _ ((s20.trans (s21.trans s22)) _ _ e19)) zats_nil
          have c20 : At H27 (.ref t20) (.tup [.tup (p.ws.map .int), .tup [], .str "rows"]) := zat_tup (K2227 _ _ ((s21.trans s22) _ _ e20)) (zats_cons aw27 (zats_cons c19 (zats_cons (by simp only [At]) zats_nil)))
          have c21 : At H27 (.ref t21) (.tup [.str "stop"]) := zat_tup (K2227 _ _ (s22 _ _ e21)) (zats_cons (by simp only [At]) zats_nil)
          have c24 : At H27 (.ref t24) (.tup (List.replicate (41 + m) [DL.D.tup [.str "stop"]]).flatten) := zat_tup ((s25.trans (s26.trans s27)) _ _ e24) (zats_rep (zats_cons c21 zats_nil) _)
          have c25 : At H27 (.ref t25) (.tup [.tup (p.ws.map .int), .tup (List.replicate (41 + m) [DL.D.tup [.str "stop"]]).flatten, .str "rows"]) := zat_tup ((s26.trans s27) _ _ e25) (zats_cons aw27 (zats_cons c24 (zats_cons (by simp only [At]) zats_nil)))
          have fstop : ∀ x ∈ (List.replicate (41 + m) [DL.D.tup [.str "stop"]]).flatten, x.flat ∧ x.fit := fun x hx => by
            obtain ⟨l, hl, hx⟩ := List.mem_flatten.mp hx
            rw [List.eq_of_mem_replicate hl] at hx
            rw [List.mem_singleton.mp hx]
            exact ⟨by simp [D.flat, flatD], by simp [D.fit, fitL]⟩
          have lstop : (List.replicate (41 + m) [DL.D.tup [.str "stop"]]).flatten.length = 41 + m := by rw [List.flatten_replicate_singleton, List.length_replicate]
          have ecut : ((p.ws.map DL.D.int).take pl ++ [DL.D.int far] ++ (p.ws.map DL.D.int).drop pl).drop (((p.ws.map DL.D.int).take pl ++ [DL.D.int far] ++ (p.ws.map DL.D.int).drop pl).length - 8) = ((p.ws.take pl ++ [far] ++ p.ws.drop pl).drop ((p.ws.take pl ++ [far] ++ p.ws.drop pl).length - 8)).map .int := by
            have e : (p.ws.map DL.D.int).take pl ++ [DL.D.int far] ++ (p.ws.map DL.D.int).drop pl = (p.ws.take pl ++ [far] ++ p.ws.drop pl).map .int := by rw [List.map_append, List.map_append, List.map_take, List.map_drop]; rfl
            rw [e, List.length_map, List.map_drop]
          have lcut : ((p.ws.take pl ++ [far] ++ p.ws.drop pl).drop ((p.ws.take pl ++ [far] ++ p.ws.drop pl).length - 8)).length ≤ 8 := by
            rw [List.length_drop]
            omega
          have ints_flat : ∀ ws : List Int, (DL.D.tup (ws.map .int)).flat := fun ws => flat_tup fun x hx => by
            obtain ⟨i, _, rfl⟩ := List.mem_map.mp hx
            simp [D.flat]
          have b18 : ∀ x ∈ ([.tup [.tup (List.replicate 9 [DL.D.int 0]).flatten, e0, .str "worths"], .tup [.tup (((p.ws.map DL.D.int).take pl ++ [DL.D.int far] ++ (p.ws.map DL.D.int).drop pl).drop (((p.ws.map DL.D.int).take pl ++ [DL.D.int far] ++ (p.ws.map DL.D.int).drop pl).length - 8)), e0, .str "number"]] : List DL.D), TrB far x := by
            intro x hx
            simp only [List.mem_cons, List.not_mem_nil, or_false] at hx
            rcases hx with rfl | rfl
            · exact ⟨_, _, _, rfl, fi2 (by simp [D.fit, fitL]) fie0, fl2 (by simp [D.flat, flatD]) fle0, .inl ⟨by decide +kernel, progF_worths worths9⟩⟩
            · refine ⟨_, _, _, rfl, fi2 ?_ fie0, fl2 ?_ fle0, .inr ⟨rfl, far, _, e0, rfl, by rw [ecut], fun hf => ?_⟩⟩
              · rw [ecut]; exact fit_ints (by omega)
              · rw [ecut]; exact ints_flat _
              · rw [ecut]; exact progF_worths (worthsF_far lcut hf hfb)
          have b27 : ∀ x ∈ ([.tup [.tup (p.ws.map .int), .tup [], .str "rows"], .tup [.tup (p.ws.map .int), .tup (List.replicate (41 + m) [DL.D.tup [.str "stop"]]).flatten, .str "rows"]] : List DL.D), TrB far x := by
            intro x hx
            simp only [List.mem_cons, List.not_mem_nil, or_false] at hx
            rcases hx with rfl | rfl
            · exact ⟨_, _, _, rfl, fi2 fiw (by simp [D.fit, fitL]), fl2 flw (by simp [D.flat, flatD]), .inl ⟨by decide +kernel, progF_rows wgood (by intro z; exact absurd z.1 (by decide))⟩⟩
            · exact ⟨_, _, _, rfl, fi2 fiw (fit_tup (by omega) fun x hx => (fstop x hx).2), fl2 flw (flat_tup fun x hx => (fstop x hx).1), .inl ⟨by decide +kernel, progF_rows wgood (by intro z; omega)⟩⟩
          obtain ⟨ds18, eds18⟩ : ∃ ds, ds = ([.tup [.tup (List.replicate 9 [DL.D.int 0]).flatten, e0, .str "worths"], .tup [.tup (((p.ws.map DL.D.int).take pl ++ [DL.D.int far] ++ (p.ws.map DL.D.int).drop pl).drop (((p.ws.map DL.D.int).take pl ++ [DL.D.int far] ++ (p.ws.map DL.D.int).drop pl).length - 8)), e0, .str "number"]] : List DL.D) := ⟨_, rfl⟩
          have h18 : Ats H18 vs18 ds18 := by rw [eds18]; exact r18
          rw [← eds18] at b18
          have n18' : ds18.length = 2 := by rw [eds18]; rfl
          have h27 : Ats H27 (vs18 ++ [.ref t20, .ref t25]) (ds18 ++ [.tup [.tup (p.ws.map .int), .tup [], .str "rows"], .tup [.tup (p.ws.map .int), .tup (List.replicate (41 + m) [DL.D.tup [.str "stop"]]).flatten, .str "rows"]]) :=
            zats_app (Ats.keep K27 _ _ (flatD_iff.mpr fun x hx => (b18 x hx).flat) h18) (zats_cons c20 (zats_cons c25 zats_nil))
          refine ⟨_, rfl, _, rfl, d, sa, ns, _, rfl, L27.ent.ent, by decide, by decide, fun n28 H28 a28 b28 C28 => ?_⟩
          have L28 := L27.dice C28
          obtain ⟨j, rfl⟩ : ∃ j : Nat, n28 = (j : Int) := ⟨n28.toNat, by omega⟩
          obtain ⟨v28, x28, g1, g2, g3⟩ := h27.get j (by rw [List.length_append, n18']; show j < 2 + 2; omega)
          have tb : TrB far x28 := by
            rcases List.mem_append.mp (List.mem_of_getElem? g2) with q | q
            · exact b18 _ q
            · exact b27 _ q
          have g3 := At.keep C28.kp _ _ tb.flat g3
          refine ⟨l27, _, _, _, rfl, rfl, SqL.of (C28.but _ _ (L26.ent.ned (L26.ent.here hl27)) e27), atI_nat g1, ?_⟩
          obtain ⟨f1, f2, y, rfl, fit12, fl12, gd⟩ := tb
          obtain ⟨t28, us, rfl, h1, h2⟩ := zat_tupI g3
          match us, h2 with
          | [u1, u2, u3], h2 =>
            have p1 := (zats_un h2).1
            have p2 := (zats_un (zats_un h2).2).1
            have p3 : At H28 u3 (.str y) := (zats_un (zats_un (zats_un h2).2).2).1
            have e3 : u3 = .str y := by simpa [At] using p3
            rw [e3] at h1
            refine ⟨t28, _, rfl, SqT.of h1, rfl, _, _, rfl, _, _, rfl, _, _, rfl, rfl, ?_⟩
            dsimp only [gName]
            refine ⟨_, rfl, _, rfl, (by show 2 ≤ sizeLine; decide), fun o2 ho2 => ?_⟩
            refine alloc ho2 fun H29 s29 e29 => ?_
            dsimp only [gName]
            refine ⟨_, rfl, _, rfl, (by show 3 ≤ sizeLine; decide), fun t30 ht30 => ?_⟩
            refine alloc ht30 fun H30 s30 e30 => ?_
            have s2930 := s29.trans s30
            exact hN _ _ ⟨_, _, _, _, _, _, _, _, _, _, _, _, _, o2, t30, _, -1, y, rfl, L28.same s2930, zat_tup (s30 _ _ e29) (zats_cons (At.sm0 s2930 _ _ p1) (zats_cons (At.sm0 s2930 _ _ p2) zats_nil)), fit12, fl12, e30, gd⟩
        · exact hN _ _ ⟨_, _, _, _, _, _, _, _, _, _, _, _, _, o1, t12, _, at', why, rfl, L14, At.keep C14.kp _ _ (fl2 flw fle0) ao, fi2 fiw fie0, fl2 flw fle0, C14.kp _ _ e13, .inl ⟨by rcases rb.why with rfl | rfl | rfl <;> decide +kernel, pe0⟩⟩
    · rintro σ H2 ⟨x2, x3, x4, x5, x6, x7, x8, x9, x10, x11, x12, x13, x14, x15, x16, x17, rfl, L2⟩
      refine ⟨_, _, rfl, rfl, ⟨by decide, by decide, by decide⟩, _, _, rfl, rfl, ⟨by decide, by decide, by decide⟩, _, rfl, (by show 8 ≤ sizeLine; decide), fun wf hwf => ?_⟩
      refine alloc hwf fun H3 s3 e3 => ?_
      refine ⟨1, 40, rfl, by decide, fun lc hlc => ?_⟩
      refine lc_range (lo := 1) (n := ((40 : Int) - 1).toNat) (fun k H' => ∃ bs : List Addr, Same1 H3 H' ∧ H' lc = some (.lst (bs.map V.ref)) ∧ bs.length = k ∧ RowsAt H' bs ((List.range k).map fun k => Row.add 7 (k + 1))) ⟨[], Same.new hlc, upd_same, rfl, .nil⟩ ?_ ?_
      · rintro k H4 hk ⟨bs, s4, e4, bl, hR⟩
        refine ⟨rfl, ?_⟩
        dsimp only [tYes]
        rw [if_pos rfl]
        refine ⟨_, rfl, (by show 3 ≤ sizeLine; decide), fun p hp => ?_⟩
        have nD : lc ≠ p := ne_of_none e4 hp
        have e5 : (upd H4 p (.tup [.str "add", .int 7, .int (1 + (k : Int))])) lc = some (.lst (bs.map V.ref)) := by rw [upd_ne nD]; exact e4
        have kp : Kp H4 (upd (upd H4 p (.tup [.str "add", .int 7, .int (1 + (k : Int))])) lc (.lst ((bs ++ [p]).map V.ref))) := (Kp.new hp).trans (Kp.lst e5)
        have hk39 : k < 39 := hk
        refine ⟨bs.map V.ref, e5, szl (by rw [List.length_map, bl]; omega), bs ++ [p], Same.mut (s4.trans (Same.new hp)) hlc, ?_, by rw [List.length_append, bl]; rfl, ?_⟩
        · rw [upd_same, List.map_append]
          rfl
        · rw [List.range_succ, List.map_append]
          rw [List.map_append] at kp
          refine Paired.app (RowsAt.kp hR kp) (Paired.one ?_)
          show (upd (upd H4 p _) lc _) p = some (.tup (rowVs (Row.add 7 (k + 1))))
          rw [upd_ne nD.symm, upd_same]
          show some (HO.tup [.str "add", .int 7, .int (1 + (k : Int))]) = some (.tup [.str "add", nI 7, nI (k + 1)])
          rw [show (1 + (k : Int)) = ((k + 1 : Nat) : Int) by omega]
          rfl
      · rintro H4 ⟨bs, s4, e4, bl, hR⟩
        refine ⟨lc, _, rfl, .inl ⟨SqL.of e4, fun ra hra => ?_⟩⟩
        refine alloc hra fun H5 s5 e5 => ?_
        refine ⟨(by show 1 ≤ sizeLine; decide), fun t6 ht6 => ?_⟩
        refine alloc ht6 fun H6 s6 e6 => ?_
        refine ⟨(by show 1 ≤ sizeLine; decide), fun t7 ht7 => ?_⟩
        refine alloc ht7 fun H7 s7 e7 => ?_
        refine ⟨ra, t7, _, _, rfl, rfl, (s6.trans s7) _ _ e5, e7, sz (by rw [List.length_map, bl]; show 39 + 1 ≤ _; decide), fun t8 H8 s8 e8 => ?_⟩
        refine ⟨(by show 2 ≤ sizeLine; decide), fun pf hpf => ?_⟩
        refine alloc hpf fun H9 s9 e9 => ?_
        have S49 := s5.trans (s6.trans (s7.trans (s8.trans s9)))
        have hP : ProgAt H9 pf fullP := by
          refine ⟨wf, t8, bs ++ [t6], e9, (s4.trans S49) _ _ e3, ?_, Paired.app (RowsAt.kp hR (Kp.same S49)) (Paired.one ((s7.trans (s8.trans s9)) _ _ e6))⟩
          rw [s9 _ _ e8, List.map_append]
          rfl
        have L9 := (L2.same s3).same (s4.trans S49)
        dsimp only [gName]
        refine seq_elim (fun σ' H' => σ' = [some (.ref sa), some (.ref d), x2, x3, x4, x5, x6, x7, x8, x9, x10, x11, x12, x13, x14, x15, some (.ref pf), x17] ∧ Same1 H9 H') ?_ ?_
        · rintro σ' H10 ⟨rfl, s10⟩
          have L10 := L9.same s10
          have hP10 := hP.kp (Kp.same s10)
          refine LtA.ixAsg (ds := [.int (-1), .int 5001, .int (-(10 ^ (9 : Int).toNat)), .int (10 ^ (9 : Int).toNat)]) (lt_cons lt_min (lt_cons lt_int (lt_cons (lt_un (lt_pow ⟨by decide, by decide, by decide⟩)) (lt_cons (lt_pow ⟨by decide, by decide, by decide⟩) lt_nil)))) fun l11 vs11 H11 s11 n11 e11 r11 => ?_
          have L11 := L10.same s11
          have ev11 : vs11 = ([-1, 5001, -(10 ^ (9 : Int).toNat), 10 ^ (9 : Int).toNat] : List Int).map V.int := ats_ints r11
          subst ev11
          refine ⟨_, rfl, d, sa, ns, _, rfl, L11.ent.ent, by decide, by decide, fun n12 H12 a12 b12 C12 => ?_⟩
          have L12 := L11.dice C12
          obtain ⟨o, ho, hob⟩ : ∃ o : Int, atI (([-1, 5001, -(10 ^ (9 : Int).toNat), 10 ^ (9 : Int).toNat] : List Int).map V.int) n12 = some (.int o) ∧ ¬ (0 ≤ o ∧ o ≤ 5000) := by
            rcases (show n12 = 0 ∨ n12 = 1 ∨ n12 = 2 ∨ n12 = 3 by omega) with q | q | q | q
            · exact ⟨_, by rw [q]; exact at0, by decide⟩
            · exact ⟨_, by rw [q]; exact at1, by decide⟩
            · exact ⟨_, by rw [q]; exact at2, by decide⟩
            · exact ⟨_, by rw [q]; exact at3, by decide⟩
          refine ⟨l11, _, _, _, rfl, rfl, SqL.of (C12.but _ _ (L10.ent.ned (L10.ent.here n11)) e11), ho, ?_⟩
          dsimp only [gName]
          have hP12 := hP10.kp ((Kp.same s11).trans C12.kp)
          refine ⟨L12.tabs, fun v13 H13 e13 T13 V13 => ?_⟩
          obtain ⟨f1, c1, o1, sc1, dT1, rfl, l1, l2, l3, l4, l5⟩ := V13
          have hP13 := hP12.kp (Kp.ext e13)
          refine ⟨f1, c1, o1, sc1, dT1, _, rfl, l2, l4, l5, l1, l3, ?_⟩
          refine ⟨_, rfl, _, rfl, pf, fullP, o, rfl, hP13, full_good, hob, fun H14 s14 => toldX_fuel kBF fun t15 H15 s15 e15 => ?_⟩
          refine ⟨(by show 1 ≤ sizeLine; decide), fun t16 ht16 => ?_⟩
          refine alloc ht16 fun H16 s16 e16 => ?_
          refine ⟨.tuple [.str "fuel"], .tuple [.str "fuel"], .tup (SqT.of (s16 _ _ e15)) (.cons (.str _) .nil), .tup (SqT.of e16) (.cons (.str _) .nil), by decide +kernel, by decide +kernel, ?_⟩
          rw [show PyData.eqv (.tuple [.str "fuel"]) (.tuple [.str "fuel"]) = true by decide +kernel]
          refine ⟨_, rfl, iteT ?_⟩
          have hP16 := hP13.kp (Kp.same (s14.trans (s15.trans s16)))
          refine ⟨_, rfl, pf, fullP, 5000, rfl, hP16, full_good, by decide, fun a ls le ld lg ys L H17 res => ?_⟩
          refine ⟨a, _, _, _, rfl, rfl, SqT.of res.top, at1, (by show 1 ≤ sizeLine; decide), fun t18 ht18 => ?_⟩
          refine alloc ht18 fun H18 s18 e18 => ?_
          have efin : H18 le = some (.tup [.str "stop"]) := by
            rw [s18 _ _ res.fin, if_pos full_stop2]
          refine ⟨.tuple [.str "stop"], .tuple [.str "stop"], .tup (SqT.of efin) (.cons (.str _) .nil), .tup (SqT.of e18) (.cons (.str _) .nil), by decide +kernel, by decide +kernel, ?_⟩
          rw [show PyData.eqv (.tuple [.str "stop"]) (.tuple [.str "stop"]) = true by decide +kernel]
          exact kq _
        · intro N hN
          refine ⟨_, rfl, pf, fullP, 40, rfl, hP, full_good, by decide, fun a ls le ld lg ys L H10 res => ?_⟩
          refine ⟨a, _, _, _, rfl, rfl, SqT.of res.top, at1, (by show 1 ≤ sizeLine; decide), fun t11 ht11 => ?_⟩
          refine alloc ht11 fun H11 s11 e11 => ?_
          have efin : H11 le = some (.tup [.str "stop"]) := by
            rw [s11 _ _ res.fin, if_pos full_stop]
          refine ⟨.tuple [.str "stop"], .tuple [.str "stop"], .tup (SqT.of efin) (.cons (.str _) .nil), .tup (SqT.of e11) (.cons (.str _) .nil), by decide +kernel, by decide +kernel, ?_⟩
          rw [show (!PyData.eqv (.tuple [.str "stop"]) (.tuple [.str "stop"])) = false by decide +kernel]
          refine ⟨_, rfl, iteF ?_⟩
          have s911 := res.same.trans s11
          have hP11 := hP.kp (Kp.same s911)
          refine ⟨_, rfl, (by show 1 ≤ sizeLine; decide), fun z1 hz1 => ?_⟩
          refine alloc hz1 fun H12 s12 e12 => ?_
          refine ⟨z1, _, _, rfl, rfl, e12, by simp, by decide, by decide, by show 1 ≤ 1000; decide, fun po H13 s13 e13 => ?_⟩
          refine ⟨(by show 2 ≤ sizeLine; decide), fun z2 hz2 => ?_⟩
          refine alloc hz2 fun H14 s14 e14 => ?_
          refine ⟨(by show 1 ≤ sizeLine; decide), fun z3 hz3 => ?_⟩
          refine alloc hz3 fun H15 s15 e15 => ?_
          refine ⟨z3, _, _, rfl, rfl, e15, by simp, by decide, by decide, by show 1 ≤ 1000; decide, fun ho H16 s16 e16 => ?_⟩
          refine ⟨(by show 3 ≤ sizeLine; decide), fun yo hyo => ?_⟩
          refine alloc hyo fun H17 s17 e17 => ?_
          have s1317 := s14.trans (s15.trans (s16.trans s17))
          have hY : LayAt H17 yo fullY := by
            refine ⟨po, ho, List.replicate 8 z2, e17, ?_, ?_, homes_rep ((s15.trans (s16.trans s17)) _ _ e14) 8⟩
            · rw [s1317 _ _ e13]
              exact congrArg (fun l => some (HO.tup l)) (rep_map 40 0 nI)
            · rw [s17 _ _ e16]
              exact congrArg (fun l => some (HO.tup l)) (rep_map 8 z2 V.ref)
          have s1217 := s12.trans (s13.trans s1317)
          refine ⟨pf, yo, fullP, fullY, rfl, hP11.kp (Kp.same s1217), full_good, hY, full_lay, fun t sp cl bs' o H18 s18 ord e18 e19 n20 e20 cells => ?_⟩
          refine ⟨t, _, _, _, rfl, rfl, SqT.of e18, at2, cl, _, rfl, .inl (SqL.of e20), rfl, ?_⟩
          have hl : o.length = 56 := by
            rw [ord.perm.length_eq, List.length_range, List.length_map, full_cells]
          rw [List.length_map, hl]
          refine ⟨_, rfl, iteF ?_⟩
          exact hN _ _ ⟨rfl, s911.trans (s1217.trans s18)⟩
end
end DL
namespace DL
open PySem PySem.Spec L2 DLR TL LamX
theorem ns_none {K : Frg} {d : Addr} {es : Array DictEntry} {n : Nat} {z1 z2 z3 z4 z5 z6 z7 : Tok} (pL : K.lookup d = some ⟨.type "dict", none, .dict es n, #[]⟩)
    (pE : es.toList.map (·.key) = [.str "load" z1, .str "add" z2, .str "take" z3, .str "store" z4, .str "say" z5, .str "test" z6, .str "stop" z7]) {x : Str} (hx : partsOf x = none) : PySem.W.nsIn K d x = some none := by
  have hn : ∀ p ∈ words7, (x == p.1) = false := fun p hp => by
    cases h : x == p.1 with
    | false => rfl
    | true =>
      exfalso
      have q := List.lookup_eq_none_iff.mp hx p hp
      rw [bne, h] at q
      cases q
  have hk : ∀ e ∈ es.toList, ∃ (p : Str × List Str) (t : Tok), p ∈ words7 ∧ e.key = .str p.1 t := fun e he => by
    have m : e.key ∈ es.toList.map (·.key) := List.mem_map_of_mem he
    rw [pE] at m
    simp only [List.mem_cons, List.not_mem_nil, or_false] at m
    have c : ∀ (k : Nat) (wd : Str) (z : Tok), (words7.map (·.1))[k]? = some wd → e.key = .str wd z → ∃ (p : Str × List Str) (t : Tok), p ∈ words7 ∧ e.key = .str p.1 t := fun k wd z h q => by
      obtain ⟨p, hp, rfl⟩ := List.mem_map.mp (List.mem_of_getElem? h)
      exact ⟨p, z, hp, q⟩
    rcases m with q | q | q | q | q | q | q
    · exact c 0 _ _ rfl q
    · exact c 1 _ _ rfl q
    · exact c 2 _ _ rfl q
    · exact c 3 _ _ rfl q
    · exact c 4 _ _ rfl q
    · exact c 5 _ _ rfl q
    · exact c 6 _ _ rfl q
  have h1 : es.toList.find? (·.key.isStr x) = none := List.find?_eq_none.mpr fun e he => by
    obtain ⟨p, t, hp, hk'⟩ := hk e he
    have q := hn p hp
    rw [hk']
    show ¬ (p.1 == x) = true
    intro z
    rw [beq_iff_eq] at z
    rw [← z] at q
    simp at q
  have h2 : es.toList.any (·.refKey) = false := by
    rw [List.any_eq_false]
    intro e he
    obtain ⟨p, t, hp, hk'⟩ := hk e he
    unfold DictEntry.refKey
    rw [hk']
    simp
  unfold PySem.W.nsIn
  rw [pL]
  dsimp only
  rw [h1, h2]
  rfl
end DL
namespace DL
open PySem PySem.Spec PyProof.Rows L2 LamX
/-! ### the end of a law where other defs make lambdas, too -/
def OwnTabs (K : PySem.W.Frag) (names : List Str) (mg : Str → Option Value) (h : Heap) : Prop := ∀ y ∈ names, ∀ g, mg y = some (.ref g) → OwnTab K g h
theorem walk_tabs {law : PySem.W.OpenLaw} {most k : Nat} {q : Program} {free : List Str} {XP : (Str → Option Value) → Heap → Prop} {YP : World → Heap → Prop} {dr : DefRec} {KK : Params → PySem.W.Frag} {CC : World → CXT} {arg : Str} (names : List Str)
    (hmost : law.most = some most) (hfit : most ≤ sizeLine)
    (hplain : dr.params.defaults = []) (hroom : Room k callerA)
    (hnames : (names.all fun y => (recsOf q).any fun e => e.name == y) = true)
    (hYP : ∀ (w : World) (hp : Heap), YP w hp → (KK w.params).In hp)
    (FF : ∀ (w : World) (mg : Str → Option Value) (fa : Addr) (hp : Heap), YP w hp → (KK w.params).In hp → hp.Ns mainGlobals mg → mg dr.name = some (.ref fa) → OwnTabs (KK w.params) names mg hp → LawAtS law w (KK w.params) (CC w) k most arg mg fa hp)
    (hno : ∀ (w : World) (Hq : Hp) (sq : Shared) (ev : Value) (sv : Shared), CC w [] Hq sq (fun _ _ _ => False) ev sv → False) :
    PySem.W.WalkO q free XP YP law.row.toRowW dr [] (fun f vs => PySem.call f vs) := by
  refine Att.attach_callB hmost hplain fun w st0 st1 mg mb fa ob pm cd doc ad us ns GG YY ho hd hcd hmg hobj hints hlen hbits hgens => ?_
  have KI := hYP w _ YY
  have ot : OwnTabs (KK w.params) names mg st1.heap := fun y hy g hg c P o1 fd1 e dd vs1 sl k1 k2 k3 k4 k5 => by
    obtain ⟨dl, hdl, hnm⟩ := List.any_eq_true.mp (List.all_eq_true.mp hnames y hy)
    obtain ⟨a2, o2, fd2, c2, P2, z1, z2, z3, z4, z5, ⟨⟨oc, vc, z6, _, z7, z8⟩, z9⟩⟩ := GG.T.tab dl hdl
    rw [eq_of_beq hnm] at z1
    have z1 := z1.symm.trans hg
    cases z1
    have z2 := z2.symm.trans (KI _ _ k1)
    cases z2
    have z3 := z3.symm.trans k2
    cases z3
    have z4 := z4.symm.trans k3
    cases z4
    have z6 := z6.symm.trans (KI _ _ k4)
    cases z6
    cases z7
    have z8 := z8.symm.trans k5
    cases z8
    exact z9
  obtain ⟨fd, cs, sp, g1, g2, g3, g4, g5, g6⟩ := FF w mg fa _ YY KI GG.T.g hmg ot
  exact law_callTs KI GG.T.g GG.T.b GG.T.builtins GG.T.nolimit hgens g1 g2 g3 GG.T.bmain hobj hints (Nat.le_trans hlen hfit) hroom g6 g4
    (fun Hq h1 h2 => g5 Hq ad ns hlen hbits h1 h2) fun Hq ev sv => hno w Hq st1 ev sv
end DL
namespace DL
open PySem L2 DLR
theorem tup_lit {K : Frg} {H : Hp} {t : Addr} {dd : Option Addr} {its : Array Value} {n : Nat} {sl : Array (Option Value)} {l : List Str} (h : K.lookup t = some ⟨.type "tuple", dd, .seq its n, sl⟩) (e : Vals (l.map V.str) its.toList) (hl : l.length ≤ 1000) : SqT K H t (l.map V.str) := by
  refine .inr ⟨_, its, n, h, rfl, rfl, ?_, e⟩
  have q : its.size = l.length := by
    have z := e.length
    rw [List.length_map] at z
    exact z.symm
  rw [q]
  exact sz (by omega)
theorem kit_cls' {K : Frg} {t : Value} {C : Addr} {b : Bool} (i : PySem.W.isClsIn K C = true) (ty : PySem.W.typeIn K (.ref C) = some (.type "type")) (s : PySem.W.subIn K t (.ref C) = some b) : PySem.W.kitCls K t (.ref C) = some b := by
  unfold PySem.W.kitCls
  have h : ((PySem.W.clsIn K C).isSome && PySem.W.typeIn K (.ref C) == some (.type "type")) = true := by
    rw [ty, show (PySem.W.clsIn K C).isSome = true from i]
    rfl
  dsimp only
  rw [if_pos h]
  exact s
theorem kit_no {K : Frg} {D C : Addr} {b : Bool} (n : (D == C) = false) (i : PySem.W.isClsIn K C = true) (ty : PySem.W.typeIn K (.ref C) = some (.type "type")) (s : PySem.W.subIn K (.ref D) (.ref C) = some b) : PySem.W.kitOne K (.ref D) (.ref C) = some b := by
  unfold PySem.W.kitOne
  have ne : ¬ (Value.ref D == Value.ref C) = true := fun z => by
    have e : Value.ref D = Value.ref C := by simpa using z
    injection e with e
    exact ne_of_beq_false n e
  rw [if_neg ne]
  exact kit_cls' i ty s
theorem kit_self {K : Frg} {D : Addr} : PySem.W.kitOne K (.ref D) (.ref D) = some true := by
  unfold PySem.W.kitOne
  rw [if_pos (by simp)]
theorem kit_type {K : Frg} {D : Addr} {T : String} {b : Bool} (m : PySem.W.kitMeta T = true) (s : PySem.W.subIn K (.ref D) (.type T) = some b) : PySem.W.kitOne K (.ref D) (.type T) = some b := by
  unfold PySem.W.kitOne
  have ne : ¬ (Value.ref D == Value.type T) = true := fun z => by
    have e : Value.ref D = Value.type T := by simpa using z
    cases e
  rw [if_neg ne]
  unfold PySem.W.kitCls
  dsimp only
  rw [if_pos m]
  exact s
theorem exm_sub {K : Frg} {D C : Addr} {b : Bool} (bb : PySem.W.subIn K (.ref C) (.type "BaseException") = some true) (i : PySem.W.isClsIn K C = true) (ty : PySem.W.typeIn K (.ref C) = some (.type "type")) (s : PySem.W.subIn K (.ref D) (.ref C) = some b) : PySem.W.exmOne K (.ref D) (.ref C) = some b := by
  unfold PySem.W.exmOne
  rw [bb, if_pos (by rfl)]
  exact kit_cls' i ty s
theorem all_mk {P : Program} {w : World} {K : PySem.W.Frag} {h : Heap} {mg : Str → Option Value} {fa : Addr} (X : K.In h) (G : h.Ns mainGlobals mg) (hfa : mg "law" = some (.ref fa))
    {af0 af1 af2 af3 af4 af5 af6 af7 af8 af9 af10 af11 af12 af13 af14 af15 af16 af17 af18 af19 af20 af21 af22 af23 af24 af25 af26 af27 af28 af29 af30 af31 af32 af33 af34 af35 af36 af37 af38 af39 af40 af41 af42 af43 af44 C amC0 amC1 amC2 amC3 U amU0 amU1 amU2 amU3 amU4 eBP eBL eBF eBG eBE eTM_ eOV eBT eDE axBP axBL cc tP cc0 tP0 d p_load p_add p_take p_store p_say p_test p_stop e : Addr} {odf0 anf0 odf1 anf1 odf2 anf2 odf3 anf3 odf4 anf4 odf5 anf5 odf6 anf6 odf7 anf7 odf8 anf8 odf9 anf9 odf10 anf10 odf11 anf11 odf12 anf12 odf13 anf13 odf14 anf14 odf15 anf15 odf16 anf16 odf17 anf17 odf18 anf18 odf19 anf19 odf20 anf20 odf21 anf21 odf22 anf22 odf23 anf23 odf24 anf24 odf25 anf25 odf26 anf26 odf27 anf27 odf28 anf28 odf29 anf29 odf30 anf30 odf31 anf31 odf32 anf32 odf33 anf33 odf34 anf34 odf35 anf35 odf36 anf36 odf37 anf37 odf38 anf38 odf39 anf39 odf40 anf40 odf41 anf41 odf42 anf42 odf43 anf43 odf44 anf44 odmC0 anmC0 odmC1 anmC1 odmC2 anmC2 odmC3 anmC3 odmU0 anmU0 odmU1 anmU1 odmU2 anmU2 odmU3 anmU3 odmU4 anmU4 odxBP anxBP odxBL anxBL ddc ddc0 pd_load pd_add pd_take pd_store pd_say pd_test pd_stop : Option Addr} {slf0 slf1 slf2 slf3 slf4 slf5 slf6 slf7 slf8 slf9 slf10 slf11 slf12 slf13 slf14 slf15 slf16 slf17 slf18 slf19 slf20 slf21 slf22 slf23 slf24 slf25 slf26 slf27 slf28 slf29 slf30 slf31 slf32 slf33 slf34 slf35 slf36 slf37 slf38 slf39 slf40 slf41 slf42 slf43 slf44 slmC0 slmC1 slmC2 slmC3 slmU0 slmU1 slmU2 slmU3 slmU4 slxBP slxBL slc slc0 ps_load ps_add ps_take ps_store ps_say ps_test ps_stop : Array (Option Value)} {its_load its_add its_take its_store its_say its_test its_stop : Array Value} {ocf0 kVf0 dcf0 pmf0 cdf0 ctf0 ocf1 kVf1 dcf1 pmf1 cdf1 ctf1 ocf2 kVf2 dcf2 pmf2 cdf2 ctf2 ocf3 kVf3 dcf3 pmf3 cdf3 ctf3 ocf4 kVf4 dcf4 pmf4 cdf4 ctf4 ocf5 kVf5 dcf5 pmf5 cdf5 ctf5 ocf6 kVf6 dcf6 pmf6 cdf6 ctf6 ocf7 kVf7 dcf7 pmf7 cdf7 ctf7 ocf8 kVf8 dcf8 pmf8 cdf8 ctf8 ocf9 kVf9 dcf9 pmf9 cdf9 ctf9 ocf10 kVf10 dcf10 pmf10 cdf10 ctf10 ocf11 kVf11 dcf11 pmf11 cdf11 ctf11 ocf12 kVf12 dcf12 pmf12 cdf12 ctf12 ocf13 kVf13 dcf13 pmf13 cdf13 ctf13 ocf14 kVf14 dcf14 pmf14 cdf14 ctf14 ocf15 kVf15 dcf15 pmf15 cdf15 ctf15 ocf16 kVf16 dcf16 pmf16 cdf16 ctf16 ocf17 kVf17 dcf17 pmf17 cdf17 ctf17 ocf18 kVf18 dcf18 pmf18 cdf18 ctf18 ocf19 kVf19 dcf19 pmf19 cdf19 ctf19 ocf20 kVf20 dcf20 pmf20 cdf20 ctf20 ocf21 kVf21 dcf21 pmf21 cdf21 ctf21 ocf22 kVf22 dcf22 pmf22 cdf22 ctf22 ocf23 kVf23 dcf23 pmf23 cdf23 ctf23 ocf24 kVf24 dcf24 pmf24 cdf24 ctf24 ocf25 kVf25 dcf25 pmf25 cdf25 ctf25 ocf26 kVf26 dcf26 pmf26 cdf26 ctf26 ocf27 kVf27 dcf27 pmf27 cdf27 ctf27 ocf28 kVf28 dcf28 pmf28 cdf28 ctf28 ocf29 kVf29 dcf29 pmf29 cdf29 ctf29 ocf30 kVf30 dcf30 pmf30 cdf30 ctf30 ocf31 kVf31 dcf31 pmf31 cdf31 ctf31 ocf32 kVf32 dcf32 pmf32 cdf32 ctf32 ocf33 kVf33 dcf33 pmf33 cdf33 ctf33 ocf34 kVf34 dcf34 pmf34 cdf34 ctf34 ocf35 kVf35 dcf35 pmf35 cdf35 ctf35 ocf36 kVf36 dcf36 pmf36 cdf36 ctf36 ocf37 kVf37 dcf37 pmf37 cdf37 ctf37 ocf38 kVf38 dcf38 pmf38 cdf38 ctf38 ocf39 kVf39 dcf39 pmf39 cdf39 ctf39 ocf40 kVf40 dcf40 pmf40 ctf40 ocf41 kVf41 dcf41 pmf41 cdf41 ctf41 ocf42 kVf42 dcf42 pmf42 cdf42 ctf42 ocf43 kVf43 dcf43 pmf43 cdf43 ctf43 ocf44 kVf44 dcf44 pmf44 ctf44 ocmC0 kVmC0 dcmC0 pmmC0 cdmC0 ctmC0 ocmC1 kVmC1 dcmC1 pmmC1 cdmC1 ctmC1 ocmC2 kVmC2 dcmC2 pmmC2 cdmC2 ctmC2 ocmC3 kVmC3 dcmC3 pmmC3 cdmC3 ctmC3 ocmU0 kVmU0 dcmU0 pmmU0 cdmU0 ctmU0 ocmU1 kVmU1 dcmU1 pmmU1 cdmU1 ctmU1 ocmU2 kVmU2 dcmU2 pmmU2 cdmU2 ctmU2 ocmU3 kVmU3 dcmU3 pmmU3 cdmU3 ctmU3 ocmU4 kVmU4 dcmU4 pmmU4 cdmU4 ctmU4 ocxBP kVxBP dcxBP pmxBP cdxBP ctxBP ocxBL kVxBL dcxBL pmxBL cdxBL ctxBL : Value} {es es2 : Array DictEntry} {n pn_load pn_add pn_take pn_store pn_say pn_test pn_stop n2 : Nat} {tW tR tN tF tL tC t2 t24 t3 t5 tG tS zz1 zz2 zz3 zz4 zz5 zz6 zz7 tx_load tx_add tx_take tx_store tx_say tx_test tx_stop : Tok} {vsc : Array Value} {file18 : Str} {tf18 tg7 tt10 : Tok} {fl7 tx10 : Int} {in9 : Bool} {vsc0 : Array Value} {file180 : Str} {tf180 tg70 tt100 : Tok} {fl70 tx100 : Int} {in90 : Bool}
    (nf0 : PySem.W.nsIn K mainGlobals "_law_next" = some (some (.ref af0)))
    (lf0 : K.lookup af0 = some ⟨ocf0, odf0, .func (PySem.W.fnOf "_law_next" "_law_next" (defArgs sNext) (defBody sNext) (defScope sNext) .none kVf0 dcf0 pmf0 anf0 cdf0 ctf0), slf0⟩)
    (cf0 : PySem.W.codeIn K cdf0 "_law_next" = true)
    (kf0 : PySem.W.keepIn K (.ref af0) = true)
    (nf1 : PySem.W.nsIn K mainGlobals "_law_straight" = some (some (.ref af1)))
    (lf1 : K.lookup af1 = some ⟨ocf1, odf1, .func (PySem.W.fnOf "_law_straight" "_law_straight" (defArgs sStraight) (defBody sStraight) (defScope sStraight) .none kVf1 dcf1 pmf1 anf1 cdf1 ctf1), slf1⟩)
    (cf1 : PySem.W.codeIn K cdf1 "_law_straight" = true)
    (kf1 : PySem.W.keepIn K (.ref af1) = true)
    (nf2 : PySem.W.nsIn K mainGlobals "_law_fork" = some (some (.ref af2)))
    (lf2 : K.lookup af2 = some ⟨ocf2, odf2, .func (PySem.W.fnOf "_law_fork" "_law_fork" (defArgs sFork) (defBody sFork) (defScope sFork) .none kVf2 dcf2 pmf2 anf2 cdf2 ctf2), slf2⟩)
    (cf2 : PySem.W.codeIn K cdf2 "_law_fork" = true)
    (kf2 : PySem.W.keepIn K (.ref af2) = true)
    (nf3 : PySem.W.nsIn K mainGlobals "_law_body" = some (some (.ref af3)))
    (lf3 : K.lookup af3 = some ⟨ocf3, odf3, .func (PySem.W.fnOf "_law_body" "_law_body" (defArgs sBody) (defBody sBody) (defScope sBody) .none kVf3 dcf3 pmf3 anf3 cdf3 ctf3), slf3⟩)
    (cf3 : PySem.W.codeIn K cdf3 "_law_body" = true)
    (kf3 : PySem.W.keepIn K (.ref af3) = true)
    (nf4 : PySem.W.nsIn K mainGlobals "_law_mixed" = some (some (.ref af4)))
    (lf4 : K.lookup af4 = some ⟨ocf4, odf4, .func (PySem.W.fnOf "_law_mixed" "_law_mixed" (defArgs sMixed) (defBody sMixed) (defScope sMixed) .none kVf4 dcf4 pmf4 anf4 cdf4 ctf4), slf4⟩)
    (cf4 : PySem.W.codeIn K cdf4 "_law_mixed" = true)
    (kf4 : PySem.W.keepIn K (.ref af4) = true)
    (nf5 : PySem.W.nsIn K mainGlobals "_law_stopping" = some (some (.ref af5)))
    (lf5 : K.lookup af5 = some ⟨ocf5, odf5, .func (PySem.W.fnOf "_law_stopping" "_law_stopping" (defArgs sStopping) (defBody sStopping) (defScope sStopping) .none kVf5 dcf5 pmf5 anf5 cdf5 ctf5), slf5⟩)
    (cf5 : PySem.W.codeIn K cdf5 "_law_stopping" = true)
    (kf5 : PySem.W.keepIn K (.ref af5) = true)
    (nf6 : PySem.W.nsIn K mainGlobals "_law_any" = some (some (.ref af6)))
    (lf6 : K.lookup af6 = some ⟨ocf6, odf6, .func (PySem.W.fnOf "_law_any" "_law_any" (defArgs sAny) (defBody sAny) (defScope sAny) .none kVf6 dcf6 pmf6 anf6 cdf6 ctf6), slf6⟩)
    (cf6 : PySem.W.codeIn K cdf6 "_law_any" = true)
    (kf6 : PySem.W.keepIn K (.ref af6) = true)
    (nf7 : PySem.W.nsIn K mainGlobals "is_number" = some (some (.ref af7)))
    (lf7 : K.lookup af7 = some ⟨ocf7, odf7, .func (PySem.W.fnOf "is_number" "is_number" (defArgs sIsNumber) (defBody sIsNumber) (defScope sIsNumber) .none kVf7 dcf7 pmf7 anf7 cdf7 ctf7), slf7⟩)
    (cf7 : PySem.W.codeIn K cdf7 "is_number" = true)
    (kf7 : PySem.W.keepIn K (.ref af7) = true)
    (nf8 : PySem.W.nsIn K mainGlobals "is_between" = some (some (.ref af8)))
    (lf8 : K.lookup af8 = some ⟨ocf8, odf8, .func (PySem.W.fnOf "is_between" "is_between" (defArgs sIsBetween) (defBody sIsBetween) (defScope sIsBetween) .none kVf8 dcf8 pmf8 anf8 cdf8 ctf8), slf8⟩)
    (cf8 : PySem.W.codeIn K cdf8 "is_between" = true)
    (kf8 : PySem.W.keepIn K (.ref af8) = true)
    (nf9 : PySem.W.nsIn K mainGlobals "part" = some (some (.ref af9)))
    (lf9 : K.lookup af9 = some ⟨ocf9, odf9, .func (PySem.W.fnOf "part" "part" (defArgs sPart) (defBody sPart) (defScope sPart) .none kVf9 dcf9 pmf9 anf9 cdf9 ctf9), slf9⟩)
    (cf9 : PySem.W.codeIn K cdf9 "part" = true)
    (kf9 : PySem.W.keepIn K (.ref af9) = true)
    (nf10 : PySem.W.nsIn K mainGlobals "check_worths" = some (some (.ref af10)))
    (lf10 : K.lookup af10 = some ⟨ocf10, odf10, .func (PySem.W.fnOf "check_worths" "check_worths" (defArgs sCheckWorths) (defBody sCheckWorths) (defScope sCheckWorths) .none kVf10 dcf10 pmf10 anf10 cdf10 ctf10), slf10⟩)
    (cf10 : PySem.W.codeIn K cdf10 "check_worths" = true)
    (kf10 : PySem.W.keepIn K (.ref af10) = true)
    (nf11 : PySem.W.nsIn K mainGlobals "check_fuel" = some (some (.ref af11)))
    (lf11 : K.lookup af11 = some ⟨ocf11, odf11, .func (PySem.W.fnOf "check_fuel" "check_fuel" (defArgs sCheckFuel) (defBody sCheckFuel) (defScope sCheckFuel) .none kVf11 dcf11 pmf11 anf11 cdf11 ctf11), slf11⟩)
    (cf11 : PySem.W.codeIn K cdf11 "check_fuel" = true)
    (kf11 : PySem.W.keepIn K (.ref af11) = true)
    (nf12 : PySem.W.nsIn K mainGlobals "on_desk" = some (some (.ref af12)))
    (lf12 : K.lookup af12 = some ⟨ocf12, odf12, .func (PySem.W.fnOf "on_desk" "on_desk" (defArgs sOnDesk) (defBody sOnDesk) (defScope sOnDesk) .none kVf12 dcf12 pmf12 anf12 cdf12 ctf12), slf12⟩)
    (cf12 : PySem.W.codeIn K cdf12 "on_desk" = true)
    (kf12 : PySem.W.keepIn K (.ref af12) = true)
    (nf13 : PySem.W.nsIn K mainGlobals "has_shape" = some (some (.ref af13)))
    (lf13 : K.lookup af13 = some ⟨ocf13, odf13, .func (PySem.W.fnOf "has_shape" "has_shape" (defArgs sHasShape) (defBody sHasShape) (defScope sHasShape) .none kVf13 dcf13 pmf13 anf13 cdf13 ctf13), slf13⟩)
    (cf13 : PySem.W.codeIn K cdf13 "has_shape" = true)
    (kf13 : PySem.W.keepIn K (.ref af13) = true)
    (nf14 : PySem.W.nsIn K mainGlobals "check_row" = some (some (.ref af14)))
    (lf14 : K.lookup af14 = some ⟨ocf14, odf14, .func (PySem.W.fnOf "check_row" "check_row" (defArgs sCheckRow) (defBody sCheckRow) (defScope sCheckRow) .none kVf14 dcf14 pmf14 anf14 cdf14 ctf14), slf14⟩)
    (cf14 : PySem.W.codeIn K cdf14 "check_row" = true)
    (kf14 : PySem.W.keepIn K (.ref af14) = true)
    (nf15 : PySem.W.nsIn K mainGlobals "check_program" = some (some (.ref af15)))
    (lf15 : K.lookup af15 = some ⟨ocf15, odf15, .func (PySem.W.fnOf "check_program" "check_program" (defArgs sCheckProgram) (defBody sCheckProgram) (defScope sCheckProgram) .none kVf15 dcf15 pmf15 anf15 cdf15 ctf15), slf15⟩)
    (cf15 : PySem.W.codeIn K cdf15 "check_program" = true)
    (kf15 : PySem.W.keepIn K (.ref af15) = true)
    (nf16 : PySem.W.nsIn K mainGlobals "uses_worth" = some (some (.ref af16)))
    (lf16 : K.lookup af16 = some ⟨ocf16, odf16, .func (PySem.W.fnOf "uses_worth" "uses_worth" (defArgs sUsesWorth) (defBody sUsesWorth) (defScope sUsesWorth) .none kVf16 dcf16 pmf16 anf16 cdf16 ctf16), slf16⟩)
    (cf16 : PySem.W.codeIn K cdf16 "uses_worth" = true)
    (kf16 : PySem.W.keepIn K (.ref af16) = true)
    (nf17 : PySem.W.nsIn K mainGlobals "check_wide" = some (some (.ref af17)))
    (lf17 : K.lookup af17 = some ⟨ocf17, odf17, .func (PySem.W.fnOf "check_wide" "check_wide" (defArgs sCheckWide) (defBody sCheckWide) (defScope sCheckWide) .none kVf17 dcf17 pmf17 anf17 cdf17 ctf17), slf17⟩)
    (cf17 : PySem.W.codeIn K cdf17 "check_wide" = true)
    (kf17 : PySem.W.keepIn K (.ref af17) = true)
    (nf18 : PySem.W.nsIn K mainGlobals "check_places" = some (some (.ref af18)))
    (lf18 : K.lookup af18 = some ⟨ocf18, odf18, .func (PySem.W.fnOf "check_places" "check_places" (defArgs sCheckPlaces) (defBody sCheckPlaces) (defScope sCheckPlaces) .none kVf18 dcf18 pmf18 anf18 cdf18 ctf18), slf18⟩)
    (cf18 : PySem.W.codeIn K cdf18 "check_places" = true)
    (kf18 : PySem.W.keepIn K (.ref af18) = true)
    (nf19 : PySem.W.nsIn K mainGlobals "check_homes" = some (some (.ref af19)))
    (lf19 : K.lookup af19 = some ⟨ocf19, odf19, .func (PySem.W.fnOf "check_homes" "check_homes" (defArgs sCheckHomes) (defBody sCheckHomes) (defScope sCheckHomes) .none kVf19 dcf19 pmf19 anf19 cdf19 ctf19), slf19⟩)
    (cf19 : PySem.W.codeIn K cdf19 "check_homes" = true)
    (kf19 : PySem.W.keepIn K (.ref af19) = true)
    (nf20 : PySem.W.nsIn K mainGlobals "are_homes" = some (some (.ref af20)))
    (lf20 : K.lookup af20 = some ⟨ocf20, odf20, .func (PySem.W.fnOf "are_homes" "are_homes" (defArgs sAreHomes) (defBody sAreHomes) (defScope sAreHomes) .none kVf20 dcf20 pmf20 anf20 cdf20 ctf20), slf20⟩)
    (cf20 : PySem.W.codeIn K cdf20 "are_homes" = true)
    (kf20 : PySem.W.keepIn K (.ref af20) = true)
    (nf21 : PySem.W.nsIn K mainGlobals "check_laying" = some (some (.ref af21)))
    (lf21 : K.lookup af21 = some ⟨ocf21, odf21, .func (PySem.W.fnOf "check_laying" "check_laying" (defArgs sCheckLaying) (defBody sCheckLaying) (defScope sCheckLaying) .none kVf21 dcf21 pmf21 anf21 cdf21 ctf21), slf21⟩)
    (cf21 : PySem.W.codeIn K cdf21 "check_laying" = true)
    (kf21 : PySem.W.keepIn K (.ref af21) = true)
    (nf22 : PySem.W.nsIn K mainGlobals "nexts" = some (some (.ref af22)))
    (lf22 : K.lookup af22 = some ⟨ocf22, odf22, .func (PySem.W.fnOf "nexts" "nexts" (defArgs sNexts) (defBody sNexts) (defScope sNexts) .none kVf22 dcf22 pmf22 anf22 cdf22 ctf22), slf22⟩)
    (cf22 : PySem.W.codeIn K cdf22 "nexts" = true)
    (kf22 : PySem.W.keepIn K (.ref af22) = true)
    (nf23 : PySem.W.nsIn K mainGlobals "costs" = some (some (.ref af23)))
    (lf23 : K.lookup af23 = some ⟨ocf23, odf23, .func (PySem.W.fnOf "costs" "costs" (defArgs sCosts) (defBody sCosts) (defScope sCosts) .none kVf23 dcf23 pmf23 anf23 cdf23 ctf23), slf23⟩)
    (cf23 : PySem.W.codeIn K cdf23 "costs" = true)
    (kf23 : PySem.W.keepIn K (.ref af23) = true)
    (nf24 : PySem.W.nsIn K mainGlobals "take_spots" = some (some (.ref af24)))
    (lf24 : K.lookup af24 = some ⟨ocf24, odf24, .func (PySem.W.fnOf "take_spots" "take_spots" (defArgs sTakeSpots) (defBody sTakeSpots) (defScope sTakeSpots) .none kVf24 dcf24 pmf24 anf24 cdf24 ctf24), slf24⟩)
    (cf24 : PySem.W.codeIn K cdf24 "take_spots" = true)
    (kf24 : PySem.W.keepIn K (.ref af24) = true)
    (nf25 : PySem.W.nsIn K mainGlobals "spots_of" = some (some (.ref af25)))
    (lf25 : K.lookup af25 = some ⟨ocf25, odf25, .func (PySem.W.fnOf "spots_of" "spots_of" (defArgs sSpotsOf) (defBody sSpotsOf) (defScope sSpotsOf) .none kVf25 dcf25 pmf25 anf25 cdf25 ctf25), slf25⟩)
    (cf25 : PySem.W.codeIn K cdf25 "spots_of" = true)
    (kf25 : PySem.W.keepIn K (.ref af25) = true)
    (nf26 : PySem.W.nsIn K mainGlobals "row_cell" = some (some (.ref af26)))
    (lf26 : K.lookup af26 = some ⟨ocf26, odf26, .func (PySem.W.fnOf "row_cell" "row_cell" (defArgs sRowCell) (defBody sRowCell) (defScope sRowCell) .none kVf26 dcf26 pmf26 anf26 cdf26 ctf26), slf26⟩)
    (cf26 : PySem.W.codeIn K cdf26 "row_cell" = true)
    (kf26 : PySem.W.keepIn K (.ref af26) = true)
    (nf27 : PySem.W.nsIn K mainGlobals "tracks" = some (some (.ref af27)))
    (lf27 : K.lookup af27 = some ⟨ocf27, odf27, .func (PySem.W.fnOf "tracks" "tracks" (defArgs sTracks) (defBody sTracks) (defScope sTracks) .none kVf27 dcf27 pmf27 anf27 cdf27 ctf27), slf27⟩)
    (cf27 : PySem.W.codeIn K cdf27 "tracks" = true)
    (kf27 : PySem.W.keepIn K (.ref af27) = true)
    (nf28 : PySem.W.nsIn K mainGlobals "image" = some (some (.ref af28)))
    (lf28 : K.lookup af28 = some ⟨ocf28, odf28, .func (PySem.W.fnOf "image" "image" (defArgs sImage) (defBody sImage) (defScope sImage) .none kVf28 dcf28 pmf28 anf28 cdf28 ctf28), slf28⟩)
    (cf28 : PySem.W.codeIn K cdf28 "image" = true)
    (kf28 : PySem.W.keepIn K (.ref af28) = true)
    (nf29 : PySem.W.nsIn K mainGlobals "beats" = some (some (.ref af29)))
    (lf29 : K.lookup af29 = some ⟨ocf29, odf29, .func (PySem.W.fnOf "beats" "beats" (defArgs sBeatsX) (defBody sBeatsX) (defScope sBeatsX) .none kVf29 dcf29 pmf29 anf29 cdf29 ctf29), slf29⟩)
    (cf29 : PySem.W.codeIn K cdf29 "beats" = true)
    (kf29 : PySem.W.keepIn K (.ref af29) = true)
    (nf30 : PySem.W.nsIn K mainGlobals "spun" = some (some (.ref af30)))
    (lf30 : K.lookup af30 = some ⟨ocf30, odf30, .func (PySem.W.fnOf "spun" "spun" (defArgs sSpunX) (defBody sSpunX) (defScope sSpunX) .none kVf30 dcf30 pmf30 anf30 cdf30 ctf30), slf30⟩)
    (cf30 : PySem.W.codeIn K cdf30 "spun" = true)
    (kf30 : PySem.W.keepIn K (.ref af30) = true)
    (nf31 : PySem.W.nsIn K mainGlobals "loop_beats" = some (some (.ref af31)))
    (lf31 : K.lookup af31 = some ⟨ocf31, odf31, .func (PySem.W.fnOf "loop_beats" "loop_beats" (defArgs sLoopBeatsX) (defBody sLoopBeatsX) (defScope sLoopBeatsX) .none kVf31 dcf31 pmf31 anf31 cdf31 ctf31), slf31⟩)
    (cf31 : PySem.W.codeIn K cdf31 "loop_beats" = true)
    (kf31 : PySem.W.keepIn K (.ref af31) = true)
    (nf32 : PySem.W.nsIn K mainGlobals "loops" = some (some (.ref af32)))
    (lf32 : K.lookup af32 = some ⟨ocf32, odf32, .func (PySem.W.fnOf "loops" "loops" (defArgs sLoopsX) (defBody sLoopsX) (defScope sLoopsX) .none kVf32 dcf32 pmf32 anf32 cdf32 ctf32), slf32⟩)
    (cf32 : PySem.W.codeIn K cdf32 "loops" = true)
    (kf32 : PySem.W.keepIn K (.ref af32) = true)
    (nf33 : PySem.W.nsIn K mainGlobals "run" = some (some (.ref af33)))
    (lf33 : K.lookup af33 = some ⟨ocf33, odf33, .func (PySem.W.fnOf "run" "run" (defArgs sRunX) (defBody sRunX) (defScope sRunX) .none kVf33 dcf33 pmf33 anf33 cdf33 ctf33), slf33⟩)
    (cf33 : PySem.W.codeIn K cdf33 "run" = true)
    (kf33 : PySem.W.keepIn K (.ref af33) = true)
    (nf34 : PySem.W.nsIn K mainGlobals "written" = some (some (.ref af34)))
    (lf34 : K.lookup af34 = some ⟨ocf34, odf34, .func (PySem.W.fnOf "written" "written" (defArgs sWrittenX) (defBody sWrittenX) (defScope sWrittenX) .none kVf34 dcf34 pmf34 anf34 cdf34 ctf34), slf34⟩)
    (cf34 : PySem.W.codeIn K cdf34 "written" = true)
    (kf34 : PySem.W.keepIn K (.ref af34) = true)
    (nf35 : PySem.W.nsIn K mainGlobals "check_wide_and_goes" = some (some (.ref af35)))
    (lf35 : K.lookup af35 = some ⟨ocf35, odf35, .func (PySem.W.fnOf "check_wide_and_goes" "check_wide_and_goes" (defArgs sCheckWGX) (defBody sCheckWGX) (defScope sCheckWGX) .none kVf35 dcf35 pmf35 anf35 cdf35 ctf35), slf35⟩)
    (cf35 : PySem.W.codeIn K cdf35 "check_wide_and_goes" = true)
    (kf35 : PySem.W.keepIn K (.ref af35) = true)
    (nf36 : PySem.W.nsIn K mainGlobals "best" = some (some (.ref af36)))
    (lf36 : K.lookup af36 = some ⟨ocf36, odf36, .func (PySem.W.fnOf "best" "best" (defArgs sBestX) (defBody sBestX) (defScope sBestX) .none kVf36 dcf36 pmf36 anf36 cdf36 ctf36), slf36⟩)
    (cf36 : PySem.W.codeIn K cdf36 "best" = true)
    (kf36 : PySem.W.keepIn K (.ref af36) = true)
    (nf37 : PySem.W.nsIn K mainGlobals "bound" = some (some (.ref af37)))
    (lf37 : K.lookup af37 = some ⟨ocf37, odf37, .func (PySem.W.fnOf "bound" "bound" (defArgs sBoundX) (defBody sBoundX) (defScope sBoundX) .none kVf37 dcf37 pmf37 anf37 cdf37 ctf37), slf37⟩)
    (cf37 : PySem.W.codeIn K cdf37 "bound" = true)
    (kf37 : PySem.W.keepIn K (.ref af37) = true)
    (nf38 : PySem.W.nsIn K mainGlobals "paper" = some (some (.ref af38)))
    (lf38 : K.lookup af38 = some ⟨ocf38, odf38, .func (PySem.W.fnOf "paper" "paper" (defArgs sPaperX) (defBody sPaperX) (defScope sPaperX) .none kVf38 dcf38 pmf38 anf38 cdf38 ctf38), slf38⟩)
    (cf38 : PySem.W.codeIn K cdf38 "paper" = true)
    (kf38 : PySem.W.keepIn K (.ref af38) = true)
    (nf39 : PySem.W.nsIn K mainGlobals "_law_row_bad" = some (some (.ref af39)))
    (lf39 : K.lookup af39 = some ⟨ocf39, odf39, .func (PySem.W.fnOf "_law_row_bad" "_law_row_bad" (defArgs sRowBad) (defBody sRowBad) (defScope sRowBad) .none kVf39 dcf39 pmf39 anf39 cdf39 ctf39), slf39⟩)
    (cf39 : PySem.W.codeIn K cdf39 "_law_row_bad" = true)
    (kf39 : PySem.W.keepIn K (.ref af39) = true)
    (nf40 : PySem.W.nsIn K mainGlobals "_law_doors" = some (some (.ref af40)))
    (lf40 : K.lookup af40 = some ⟨ocf40, odf40, .func (PySem.W.fnOf "_law_doors" "_law_doors" (defArgs sDoors) (defBody sDoors) (defScope sDoors) .none kVf40 dcf40 pmf40 anf40 (.ref cc0) ctf40), slf40⟩)
    (cf40 : PySem.W.codeIn K (.ref cc0) "_law_doors" = true)
    (kf40 : PySem.W.keepIn K (.ref af40) = true)
    (nf41 : PySem.W.nsIn K mainGlobals "_law_dice" = some (some (.ref af41)))
    (lf41 : K.lookup af41 = some ⟨ocf41, odf41, .func (PySem.W.fnOf "_law_dice" "_law_dice" (defArgs sDice) (defBody sDice) (defScope sDice) .none kVf41 dcf41 pmf41 anf41 cdf41 ctf41), slf41⟩)
    (cf41 : PySem.W.codeIn K cdf41 "_law_dice" = true)
    (kf41 : PySem.W.keepIn K (.ref af41) = true)
    (nf42 : PySem.W.nsIn K mainGlobals "_law_like" = some (some (.ref af42)))
    (lf42 : K.lookup af42 = some ⟨ocf42, odf42, .func (PySem.W.fnOf "_law_like" "_law_like" (defArgs sLike) (defBody sLike) (defScope sLike) .none kVf42 dcf42 pmf42 anf42 cdf42 ctf42), slf42⟩)
    (cf42 : PySem.W.codeIn K cdf42 "_law_like" = true)
    (kf42 : PySem.W.keepIn K (.ref af42) = true)
    (nf43 : PySem.W.nsIn K mainGlobals "_law_told" = some (some (.ref af43)))
    (lf43 : K.lookup af43 = some ⟨ocf43, odf43, .func (PySem.W.fnOf "_law_told" "_law_told" (defArgs sTold) (defBody sTold) (defScope sTold) .none kVf43 dcf43 pmf43 anf43 cdf43 ctf43), slf43⟩)
    (cf43 : PySem.W.codeIn K cdf43 "_law_told" = true)
    (kf43 : PySem.W.keepIn K (.ref af43) = true)
    (nf44 : PySem.W.nsIn K mainGlobals "law" = some (some (.ref af44)))
    (lf44 : K.lookup af44 = some ⟨ocf44, odf44, .func (PySem.W.fnOf "law" "law" (defArgs sLaw) (defBody sLaw) (defScope sLaw) .none kVf44 dcf44 pmf44 anf44 (.ref cc) ctf44), slf44⟩)
    (cf44 : PySem.W.codeIn K (.ref cc) "law" = true)
    (kf44 : PySem.W.keepIn K (.ref af44) = true)
    (nCC : PySem.W.nsIn K mainGlobals "Desk" = some (some (.ref C)))
    (nmC0 : PySem.W.findIn K (.ref C) "__init__" = some (some (.ref amC0)))
    (imC0 : PySem.W.isFn K (.ref amC0) = true)
    (lmC0 : K.lookup amC0 = some ⟨ocmC0, odmC0, .func (PySem.W.fnOf "__init__" "Desk.__init__" (defArgs sDInit) (defBody sDInit) (defScope sDInit) .none kVmC0 dcmC0 pmmC0 anmC0 cdmC0 ctmC0), slmC0⟩)
    (cmC0 : PySem.W.codeIn K cdmC0 "Desk.__init__" = true)
    (kmC0 : PySem.W.keepIn K (.ref amC0) = true)
    (nmC1 : PySem.W.findIn K (.ref C) "step" = some (some (.ref amC1)))
    (imC1 : PySem.W.isFn K (.ref amC1) = true)
    (lmC1 : K.lookup amC1 = some ⟨ocmC1, odmC1, .func (PySem.W.fnOf "step" "Desk.step" (defArgs sDStep) (defBody sDStep) (defScope sDStep) .none kVmC1 dcmC1 pmmC1 anmC1 cdmC1 ctmC1), slmC1⟩)
    (cmC1 : PySem.W.codeIn K cdmC1 "Desk.step" = true)
    (kmC1 : PySem.W.keepIn K (.ref amC1) = true)
    (nmC2 : PySem.W.findIn K (.ref C) "use" = some (some (.ref amC2)))
    (imC2 : PySem.W.isFn K (.ref amC2) = true)
    (lmC2 : K.lookup amC2 = some ⟨ocmC2, odmC2, .func (PySem.W.fnOf "use" "Desk.use" (defArgs sDUse) (defBody sDUse) (defScope sDUse) .none kVmC2 dcmC2 pmmC2 anmC2 cdmC2 ctmC2), slmC2⟩)
    (cmC2 : PySem.W.codeIn K cdmC2 "Desk.use" = true)
    (kmC2 : PySem.W.keepIn K (.ref amC2) = true)
    (nmC3 : PySem.W.findIn K (.ref C) "onward" = some (some (.ref amC3)))
    (imC3 : PySem.W.isFn K (.ref amC3) = true)
    (lmC3 : K.lookup amC3 = some ⟨ocmC3, odmC3, .func (PySem.W.fnOf "onward" "Desk.onward" (defArgs sDOnward) (defBody sDOnward) (defScope sDOnward) .none kVmC3 dcmC3 pmmC3 anmC3 cdmC3 ctmC3), slmC3⟩)
    (cmC3 : PySem.W.codeIn K cdmC3 "Desk.onward" = true)
    (kmC3 : PySem.W.keepIn K (.ref amC3) = true)
    (pgC : PySem.W.plainGet K C Str.empty = true)
    (hdC : PySem.W.hasDictIn K C = true)
    (poC : PySem.W.plainOver K C = true)
    (saC : PySem.W.findIn K (.ref C) "__setattr__" = some (some (.builtin "object.__setattr__")))
    (mkC : PySem.W.makesIn K C = true)
    (kcC : PySem.W.keepIn K (.ref C) = true)
    (zC_number : PySem.W.findIn K (.ref C) "number" = some none)
    (zC_worths : PySem.W.findIn K (.ref C) "worths" = some none)
    (zC_said : PySem.W.findIn K (.ref C) "said" = some none)
    (nCU : PySem.W.nsIn K mainGlobals "Drum" = some (some (.ref U)))
    (nmU0 : PySem.W.findIn K (.ref U) "__init__" = some (some (.ref amU0)))
    (imU0 : PySem.W.isFn K (.ref amU0) = true)
    (lmU0 : K.lookup amU0 = some ⟨ocmU0, odmU0, .func (PySem.W.fnOf "__init__" "Drum.__init__" (defArgs sUInit) (defBody sUInit) (defScope sUInit) .none kVmU0 dcmU0 pmmU0 anmU0 cdmU0 ctmU0), slmU0⟩)
    (cmU0 : PySem.W.codeIn K cdmU0 "Drum.__init__" = true)
    (kmU0 : PySem.W.keepIn K (.ref amU0) = true)
    (nmU1 : PySem.W.findIn K (.ref U) "turn" = some (some (.ref amU1)))
    (imU1 : PySem.W.isFn K (.ref amU1) = true)
    (lmU1 : K.lookup amU1 = some ⟨ocmU1, odmU1, .func (PySem.W.fnOf "turn" "Drum.turn" (defArgs sUTurn) (defBody sUTurn) (defScope sUTurn) .none kVmU1 dcmU1 pmmU1 anmU1 cdmU1 ctmU1), slmU1⟩)
    (cmU1 : PySem.W.codeIn K cdmU1 "Drum.turn" = true)
    (kmU1 : PySem.W.keepIn K (.ref amU1) = true)
    (nmU2 : PySem.W.findIn K (.ref U) "beat" = some (some (.ref amU2)))
    (imU2 : PySem.W.isFn K (.ref amU2) = true)
    (lmU2 : K.lookup amU2 = some ⟨ocmU2, odmU2, .func (PySem.W.fnOf "beat" "Drum.beat" (defArgs sUBeat) (defBody sUBeat) (defScope sUBeat) .none kVmU2 dcmU2 pmmU2 anmU2 cdmU2 ctmU2), slmU2⟩)
    (cmU2 : PySem.W.codeIn K cdmU2 "Drum.beat" = true)
    (kmU2 : PySem.W.keepIn K (.ref amU2) = true)
    (nmU3 : PySem.W.findIn K (.ref U) "says" = some (some (.ref amU3)))
    (imU3 : PySem.W.isFn K (.ref amU3) = true)
    (lmU3 : K.lookup amU3 = some ⟨ocmU3, odmU3, .func (PySem.W.fnOf "says" "Drum.says" (defArgs sUSays) (defBody sUSays) (defScope sUSays) .none kVmU3 dcmU3 pmmU3 anmU3 cdmU3 ctmU3), slmU3⟩)
    (cmU3 : PySem.W.codeIn K cdmU3 "Drum.says" = true)
    (kmU3 : PySem.W.keepIn K (.ref amU3) = true)
    (nmU4 : PySem.W.findIn K (.ref U) "is_over" = some (some (.ref amU4)))
    (imU4 : PySem.W.isFn K (.ref amU4) = true)
    (lmU4 : K.lookup amU4 = some ⟨ocmU4, odmU4, .func (PySem.W.fnOf "is_over" "Drum.is_over" (defArgs sUOver) (defBody sUOver) (defScope sUOver) .none kVmU4 dcmU4 pmmU4 anmU4 cdmU4 ctmU4), slmU4⟩)
    (cmU4 : PySem.W.codeIn K cdmU4 "Drum.is_over" = true)
    (kmU4 : PySem.W.keepIn K (.ref amU4) = true)
    (pgU : PySem.W.plainGet K U Str.empty = true)
    (hdU : PySem.W.hasDictIn K U = true)
    (poU : PySem.W.plainOver K U = true)
    (saU : PySem.W.findIn K (.ref U) "__setattr__" = some (some (.builtin "object.__setattr__")))
    (mkU : PySem.W.makesIn K U = true)
    (kcU : PySem.W.keepIn K (.ref U) = true)
    (zU_rows : PySem.W.findIn K (.ref U) "rows" = some none)
    (zU_laying : PySem.W.findIn K (.ref U) "laying" = some none)
    (zU_desk : PySem.W.findIn K (.ref U) "desk" = some none)
    (zU_row : PySem.W.findIn K (.ref U) "row" = some none)
    (zU_now : PySem.W.findIn K (.ref U) "now" = some none)
    (mBP : PySem.W.nsIn K mainGlobals "BadProgram" = some (some (.ref eBP)))
    (mBL : PySem.W.nsIn K mainGlobals "BadLaying" = some (some (.ref eBL)))
    (mBF : PySem.W.nsIn K mainGlobals "BadFuel" = some (some (.ref eBF)))
    (mBG : PySem.W.nsIn K mainGlobals "BadGoes" = some (some (.ref eBG)))
    (mBE : PySem.W.nsIn K mainGlobals "BadPaper" = some (some (.ref eBE)))
    (mTM_ : PySem.W.nsIn K mainGlobals "TooMany" = some (some (.ref eTM_)))
    (mOV : PySem.W.nsIn K mainGlobals "Over" = some (some (.ref eOV)))
    (mBT : PySem.W.nsIn K mainGlobals "BadText" = some (some (.ref eBT)))
    (mDE : PySem.W.nsIn K mainGlobals "DrumError" = some (some (.ref eDE)))
    (b_ValueError : PySem.W.nsIn K mainGlobals "ValueError" = some none)
    (iBP : PySem.W.isClsIn K eBP = true)
    (tBP : PySem.W.typeIn K (.ref eBP) = some (.type "type"))
    (iBL : PySem.W.isClsIn K eBL = true)
    (tBL : PySem.W.typeIn K (.ref eBL) = some (.type "type"))
    (iBF : PySem.W.isClsIn K eBF = true)
    (tBF : PySem.W.typeIn K (.ref eBF) = some (.type "type"))
    (iBG : PySem.W.isClsIn K eBG = true)
    (tBG : PySem.W.typeIn K (.ref eBG) = some (.type "type"))
    (iBE : PySem.W.isClsIn K eBE = true)
    (tBE : PySem.W.typeIn K (.ref eBE) = some (.type "type"))
    (iTM_ : PySem.W.isClsIn K eTM_ = true)
    (tTM_ : PySem.W.typeIn K (.ref eTM_) = some (.type "type"))
    (iOV : PySem.W.isClsIn K eOV = true)
    (tOV : PySem.W.typeIn K (.ref eOV) = some (.type "type"))
    (iBT : PySem.W.isClsIn K eBT = true)
    (tBT : PySem.W.typeIn K (.ref eBT) = some (.type "type"))
    (iDE : PySem.W.isClsIn K eDE = true)
    (tDE : PySem.W.typeIn K (.ref eDE) = some (.type "type"))
    (bDE : PySem.W.subIn K (.ref eDE) (.type "BaseException") = some true)
    (BF_hg : PySem.W.findIn K (.ref eBF) "__getattribute__" = some (some (.builtin "BaseException.__getattribute__")))
    (BF_hk : PySem.W.findIn K (.ref eBF) "__getattr__" = some none)
    (BF_hs : PySem.W.subIn K (.ref eBF) (.type "BaseException") = some true)
    (BF_hd : PySem.W.hasDictIn K eBF = true)
    (BF_ha : PySem.W.findIn K (.ref eBF) "__class__" = some (some (.builtin "object.__class__")))
    (BF_hn : PySem.W.specialIn K (.builtin "object.__class__") "__get__" = some (some (.builtin "getset_descriptor.__get__")))
    (BF_ht : PySem.W.takesIn K (.builtin "object.__class__") = some true)
    (BF_hm : PySem.W.mroIn K eBF (.type "object") = some true)
    (BF_sDE : PySem.W.subIn K (.ref eBF) (.ref eDE) = some true)
    (BF_sVE : PySem.W.subIn K (.ref eBF) (.type "ValueError") = some true)
    (BF_s0 : PySem.W.subIn K (.ref eBF) (.ref eBP) = some false)
    (BF_s1 : PySem.W.subIn K (.ref eBF) (.ref eBL) = some false)
    (BF_s3 : PySem.W.subIn K (.ref eBF) (.ref eBG) = some false)
    (BF_s4 : PySem.W.subIn K (.ref eBF) (.ref eBE) = some false)
    (BF_s5 : PySem.W.subIn K (.ref eBF) (.ref eTM_) = some false)
    (BF_s6 : PySem.W.subIn K (.ref eBF) (.ref eOV) = some false)
    (BF_s7 : PySem.W.subIn K (.ref eBF) (.ref eBT) = some false)
    (BF_n0 : (eBF == eBP) = false)
    (BF_n1 : (eBF == eBL) = false)
    (BF_n3 : (eBF == eBG) = false)
    (BF_n4 : (eBF == eBE) = false)
    (BF_n5 : (eBF == eTM_) = false)
    (BF_n6 : (eBF == eOV) = false)
    (BF_n7 : (eBF == eBT) = false)
    (BF_rx : PySem.W.excIn K eBF [.type "ValueError", .type "Exception", .type "BaseException", .type "object"] "ValueError.__new__" = true)
    (BF_rk : PySem.W.keepIn K (.ref eBF) = true)
    (BF_rt : PySem.W.typeIn K (.ref eBF) = some (.type "type"))
    (de_sp : PySem.W.specialIn K (.ref eDE) "__getattribute__" = some (some (.builtin "type.__getattribute__")))
    (de_rd : PySem.W.readsIn K eDE (.type "type") = true)
    (de_fi : PySem.W.findCls K (.ref eDE) (.type "type") "__init__" = some (.val (.builtin "ValueError.__init__")))
    (BP_hg : PySem.W.findIn K (.ref eBP) "__getattribute__" = some (some (.builtin "BaseException.__getattribute__")))
    (BP_hk : PySem.W.findIn K (.ref eBP) "__getattr__" = some none)
    (BP_hs : PySem.W.subIn K (.ref eBP) (.type "BaseException") = some true)
    (BP_hd : PySem.W.hasDictIn K eBP = true)
    (BP_ha : PySem.W.findIn K (.ref eBP) "__class__" = some (some (.builtin "object.__class__")))
    (BP_hn : PySem.W.specialIn K (.builtin "object.__class__") "__get__" = some (some (.builtin "getset_descriptor.__get__")))
    (BP_ht : PySem.W.takesIn K (.builtin "object.__class__") = some true)
    (BP_hm : PySem.W.mroIn K eBP (.type "object") = some true)
    (BP_sDE : PySem.W.subIn K (.ref eBP) (.ref eDE) = some true)
    (BP_sVE : PySem.W.subIn K (.ref eBP) (.type "ValueError") = some true)
    (BP_s1 : PySem.W.subIn K (.ref eBP) (.ref eBL) = some false)
    (BP_s2 : PySem.W.subIn K (.ref eBP) (.ref eBF) = some false)
    (BP_s3 : PySem.W.subIn K (.ref eBP) (.ref eBG) = some false)
    (BP_s4 : PySem.W.subIn K (.ref eBP) (.ref eBE) = some false)
    (BP_s5 : PySem.W.subIn K (.ref eBP) (.ref eTM_) = some false)
    (BP_s6 : PySem.W.subIn K (.ref eBP) (.ref eOV) = some false)
    (BP_s7 : PySem.W.subIn K (.ref eBP) (.ref eBT) = some false)
    (BP_n1 : (eBP == eBL) = false)
    (BP_n2 : (eBP == eBF) = false)
    (BP_n3 : (eBP == eBG) = false)
    (BP_n4 : (eBP == eBE) = false)
    (BP_n5 : (eBP == eTM_) = false)
    (BP_n6 : (eBP == eOV) = false)
    (BP_n7 : (eBP == eBT) = false)
    (BP_sa : PySem.W.findIn K (.ref eBP) "__setattr__" = some (some (.builtin "object.__setattr__")))
    (BP_rk : PySem.W.keepIn K (.ref eBP) = true)
    (BP_rt : PySem.W.typeIn K (.ref eBP) = some (.type "type"))
    (BP_wrow : PySem.W.findIn K (.ref eBP) "row" = some none)
    (BP_wwhy : PySem.W.findIn K (.ref eBP) "why" = some none)
    (BP_wat : PySem.W.findIn K (.ref eBP) "at" = some none)
    (BP_wline : PySem.W.findIn K (.ref eBP) "line" = some none)
    (BP_cl : ∃ nm q N bs bm sn sub ab col dd k0 k1 k2 k3 k5, K.lookup eBP = some (excClassObj nm q eBP N bs bm true sn sub ab col dd k0 k1 k2 k3 k5 "ValueError.__new__") ∧ PySem.HandSPX.refsVE bm = true)
    (nxBP : PySem.W.findIn K (.ref eBP) "__init__" = some (some (.ref axBP)))
    (tyxBP : PySem.W.typeIn K (.ref axBP) = some (.type "function"))
    (lxBP : K.lookup axBP = some ⟨ocxBP, odxBP, .func (PySem.W.fnOf "__init__" "BadProgram.__init__" (defArgs sBPInit) (defBody sBPInit) (defScope sBPInit) .none kVxBP dcxBP pmxBP anxBP cdxBP ctxBP), slxBP⟩)
    (cxBP : PySem.W.codeIn K cdxBP "BadProgram.__init__" = true)
    (kxBP : PySem.W.keepIn K (.ref axBP) = true)
    (BL_hg : PySem.W.findIn K (.ref eBL) "__getattribute__" = some (some (.builtin "BaseException.__getattribute__")))
    (BL_hk : PySem.W.findIn K (.ref eBL) "__getattr__" = some none)
    (BL_hs : PySem.W.subIn K (.ref eBL) (.type "BaseException") = some true)
    (BL_hd : PySem.W.hasDictIn K eBL = true)
    (BL_ha : PySem.W.findIn K (.ref eBL) "__class__" = some (some (.builtin "object.__class__")))
    (BL_hn : PySem.W.specialIn K (.builtin "object.__class__") "__get__" = some (some (.builtin "getset_descriptor.__get__")))
    (BL_ht : PySem.W.takesIn K (.builtin "object.__class__") = some true)
    (BL_hm : PySem.W.mroIn K eBL (.type "object") = some true)
    (BL_sDE : PySem.W.subIn K (.ref eBL) (.ref eDE) = some true)
    (BL_sVE : PySem.W.subIn K (.ref eBL) (.type "ValueError") = some true)
    (BL_s0 : PySem.W.subIn K (.ref eBL) (.ref eBP) = some false)
    (BL_s2 : PySem.W.subIn K (.ref eBL) (.ref eBF) = some false)
    (BL_s3 : PySem.W.subIn K (.ref eBL) (.ref eBG) = some false)
    (BL_s4 : PySem.W.subIn K (.ref eBL) (.ref eBE) = some false)
    (BL_s5 : PySem.W.subIn K (.ref eBL) (.ref eTM_) = some false)
    (BL_s6 : PySem.W.subIn K (.ref eBL) (.ref eOV) = some false)
    (BL_s7 : PySem.W.subIn K (.ref eBL) (.ref eBT) = some false)
    (BL_n0 : (eBL == eBP) = false)
    (BL_n2 : (eBL == eBF) = false)
    (BL_n3 : (eBL == eBG) = false)
    (BL_n4 : (eBL == eBE) = false)
    (BL_n5 : (eBL == eTM_) = false)
    (BL_n6 : (eBL == eOV) = false)
    (BL_n7 : (eBL == eBT) = false)
    (BL_sa : PySem.W.findIn K (.ref eBL) "__setattr__" = some (some (.builtin "object.__setattr__")))
    (BL_rk : PySem.W.keepIn K (.ref eBL) = true)
    (BL_rt : PySem.W.typeIn K (.ref eBL) = some (.type "type"))
    (BL_wrow : PySem.W.findIn K (.ref eBL) "row" = some none)
    (BL_wwhy : PySem.W.findIn K (.ref eBL) "why" = some none)
    (BL_wat : PySem.W.findIn K (.ref eBL) "at" = some none)
    (BL_wline : PySem.W.findIn K (.ref eBL) "line" = some none)
    (BL_cl : ∃ nm q N bs bm sn sub ab col dd k0 k1 k2 k3 k5, K.lookup eBL = some (excClassObj nm q eBL N bs bm true sn sub ab col dd k0 k1 k2 k3 k5 "ValueError.__new__") ∧ PySem.HandSPX.refsVE bm = true)
    (nxBL : PySem.W.findIn K (.ref eBL) "__init__" = some (some (.ref axBL)))
    (tyxBL : PySem.W.typeIn K (.ref axBL) = some (.type "function"))
    (lxBL : K.lookup axBL = some ⟨ocxBL, odxBL, .func (PySem.W.fnOf "__init__" "BadLaying.__init__" (defArgs sBLInit) (defBody sBLInit) (defScope sBLInit) .none kVxBL dcxBL pmxBL anxBL cdxBL ctxBL), slxBL⟩)
    (cxBL : PySem.W.codeIn K cdxBL "BadLaying.__init__" = true)
    (kxBL : PySem.W.keepIn K (.ref axBL) = true)
    (cK : K.lookup cc = some ⟨.type "code", ddc, .fields vsc, slc⟩)
    (c11 : vsc[11]? = some (.ref tP))
    (g11 : vsc.getD 11 .none = .ref tP)
    (g18 : vsc.getD 18 .none = .str file18 tf18)
    (g7 : vsc.getD 7 .none = .int fl7 tg7)
    (g9 : vsc.getD 9 .none = .bool in9)
    (g10 : vsc.getD 10 .none = .int tx10 tt10)
    (cP : (cc == tP) = false)
    (nP : K.lookup tP = none)
    (cK0 : K.lookup cc0 = some ⟨.type "code", ddc0, .fields vsc0, slc0⟩)
    (c110 : vsc0[11]? = some (.ref tP0))
    (g110 : vsc0.getD 11 .none = .ref tP0)
    (g180 : vsc0.getD 18 .none = .str file180 tf180)
    (g70 : vsc0.getD 7 .none = .int fl70 tg70)
    (g90 : vsc0.getD 9 .none = .bool in90)
    (g100 : vsc0.getD 10 .none = .int tx100 tt100)
    (cP0 : (cc0 == tP0) = false)
    (nP0 : K.lookup tP0 = none)
    (ne0 : (tP == tP0) = false)
    (b_len : PySem.W.nsIn K mainGlobals "len" = some none)
    (b_int : PySem.W.nsIn K mainGlobals "int" = some none)
    (b_range : PySem.W.nsIn K mainGlobals "range" = some none)
    (b_isinstance : PySem.W.nsIn K mainGlobals "isinstance" = some none)
    (b_tuple : PySem.W.nsIn K mainGlobals "tuple" = some none)
    (b_list : PySem.W.nsIn K mainGlobals "list" = some none)
    (b_sorted : PySem.W.nsIn K mainGlobals "sorted" = some none)
    (b_sum : PySem.W.nsIn K mainGlobals "sum" = some none)
    (b_max : PySem.W.nsIn K mainGlobals "max" = some none)
    (b_enumerate : PySem.W.nsIn K mainGlobals "enumerate" = some none)
    (b_zip : PySem.W.nsIn K mainGlobals "zip" = some none)
    (b_all : PySem.W.nsIn K mainGlobals "all" = some none)
    (b_bool : PySem.W.nsIn K mainGlobals "bool" = some none)
    (b_str : PySem.W.nsIn K mainGlobals "str" = some none)
    (b_set : PySem.W.nsIn K mainGlobals "set" = some none)
    (b_min : PySem.W.nsIn K mainGlobals "min" = some none)
    (b_dict : PySem.W.nsIn K mainGlobals "dict" = some none)
    (qW : PySem.W.nsIn K mainGlobals "MOST_WORTHS" = some (some (.int 8 tW)))
    (qR : PySem.W.nsIn K mainGlobals "MOST_ROWS" = some (some (.int 40 tR)))
    (qN : PySem.W.nsIn K mainGlobals "MOST_NUMBER" = some (some (.int 1000000 tN)))
    (qF : PySem.W.nsIn K mainGlobals "MOST_FUEL" = some (some (.int 5000 tF)))
    (qL : PySem.W.nsIn K mainGlobals "DESK_LOW" = some (some (.int (-1000000000) tL)))
    (qC : PySem.W.nsIn K mainGlobals "DESK_COUNT" = some (some (.int 2000000000 tC)))
    (q2 : PySem.W.nsIn K mainGlobals "LEAST_WIDE" = some (some (.int 2 t2)))
    (q24 : PySem.W.nsIn K mainGlobals "MOST_WIDE" = some (some (.int 24 t24)))
    (q3 : PySem.W.nsIn K mainGlobals "MOST_HOMES" = some (some (.int 3 t3)))
    (q5 : PySem.W.nsIn K mainGlobals "MOST_CORES" = some (some (.int 5000 t5)))
    (qG : PySem.W.nsIn K mainGlobals "MOST_LOOPS" = some (some (.int 100 tG)))
    (qS : PySem.W.nsIn K mainGlobals "MOST_STRETCHES" = some (some (.int 3000 tS)))
    (pD : PySem.W.nsIn K mainGlobals "PARTS" = some (some (.ref d)))
    (pL : K.lookup d = some ⟨.type "dict", none, .dict es n, #[]⟩)
    (pK : PySem.W.KeysLit w.params es.toList)
    (pE : es.toList.map (·.key) = [.str "load" zz1, .str "add" zz2, .str "take" zz3, .str "store" zz4, .str "say" zz5, .str "test" zz6, .str "stop" zz7])
    (w_load : PySem.W.nsIn K d "load" = some (some (.ref p_load)))
    (u_load : K.lookup p_load = some ⟨.type "tuple", pd_load, .seq its_load pn_load, ps_load⟩)
    (v_load : Vals ((["worth", "next"] : List Str).map V.str) its_load.toList)
    (w_add : PySem.W.nsIn K d "add" = some (some (.ref p_add)))
    (u_add : K.lookup p_add = some ⟨.type "tuple", pd_add, .seq its_add pn_add, ps_add⟩)
    (v_add : Vals ((["worth", "next"] : List Str).map V.str) its_add.toList)
    (w_take : PySem.W.nsIn K d "take" = some (some (.ref p_take)))
    (u_take : K.lookup p_take = some ⟨.type "tuple", pd_take, .seq its_take pn_take, ps_take⟩)
    (v_take : Vals ((["worth", "next"] : List Str).map V.str) its_take.toList)
    (w_store : PySem.W.nsIn K d "store" = some (some (.ref p_store)))
    (u_store : K.lookup p_store = some ⟨.type "tuple", pd_store, .seq its_store pn_store, ps_store⟩)
    (v_store : Vals ((["worth", "next"] : List Str).map V.str) its_store.toList)
    (w_say : PySem.W.nsIn K d "say" = some (some (.ref p_say)))
    (u_say : K.lookup p_say = some ⟨.type "tuple", pd_say, .seq its_say pn_say, ps_say⟩)
    (v_say : Vals ((["next"] : List Str).map V.str) its_say.toList)
    (w_test : PySem.W.nsIn K d "test" = some (some (.ref p_test)))
    (u_test : K.lookup p_test = some ⟨.type "tuple", pd_test, .seq its_test pn_test, ps_test⟩)
    (v_test : Vals ((["next", "next"] : List Str).map V.str) its_test.toList)
    (w_stop : PySem.W.nsIn K d "stop" = some (some (.ref p_stop)))
    (u_stop : K.lookup p_stop = some ⟨.type "tuple", pd_stop, .seq its_stop pn_stop, ps_stop⟩)
    (v_stop : Vals (([] : List Str).map V.str) its_stop.toList)
    (lo : (d == sysModules) = false)
    (pW : PySem.W.nsIn K mainGlobals "WORK" = some (some (.ref e)))
    (pWL : K.lookup e = some ⟨.type "dict", none, .dict es2 n2, #[]⟩)
    (pWK : PySem.W.KeysLit w.params es2.toList)
    (x_load : PySem.W.nsIn K e "load" = some (some (.int 1 tx_load)))
    (x_add : PySem.W.nsIn K e "add" = some (some (.int 2 tx_add)))
    (x_take : PySem.W.nsIn K e "take" = some (some (.int 2 tx_take)))
    (x_store : PySem.W.nsIn K e "store" = some (some (.int 1 tx_store)))
    (x_say : PySem.W.nsIn K e "say" = some (some (.int 3 tx_say)))
    (x_test : PySem.W.nsIn K e "test" = some (some (.int 1 tx_test)))
    (x_stop : PySem.W.nsIn K e "stop" = some (some (.int 0 tx_stop)))
    (lo2 : (e == sysModules) = false)
    (own : OwnTabs K ["law", "_law_doors"] mg h) :
    ∃ (fd : FuncData) (cs : List (Addr × Addr)) (sp : Sp), (∀ p ∈ cs, h.get? p.2 = some { cls := .none, data := .fields #[] }) ∧ (∀ p ∈ cs, K.lookup p.2 = none) ∧ (∀ p ∈ cs, PySem.W.CodeHd h p.1 p.2) ∧ (∀ (s : Shared) (u : Value), BindsTo s fd ⟨[u], []⟩ [("_law_script", u)]) ∧
    (∀ (H : Hp) (a : Addr) (ns : List Int), ns.length ≤ 63 → (∀ z ∈ ns, Builtin.Int.intBits z ≤ 1048576) → (∀ p ∈ cs, H p.2 = some (.tbl #[])) → SqL K H a (ns.map V.int) → sp [.ref a] H (fun v _ => v = .bl true) fun _ _ _ => False) ∧
    ∀ base : Heap, K.In base → base.Ns mainGlobals mg → (∀ p ∈ cs, LamX.TabB base mg p.1 p.2) → FnOk P w K mg base CX0 11 fa fd ["_law_script"] sp := by
  have e := hfa.symm.trans (PySem.W.mg_of X G nf44)
  cases e
  have Ff0 := fun_mk (st := sNext) lf0 cf0 kf0
  have bf0 := Ff0.binds (ps := ["_law_dice_here", "_law_many"]) fun _ _ _ _ _ _ us hl => match us, hl with | [_, _], _ => rfl
  let cNext : Fd K mg "_law_next" sNext ["_law_dice_here", "_law_many"] := ⟨_, _, Ff0, bf0, PySem.W.mg_of X G nf0⟩
  have Ff1 := fun_mk (st := sStraight) lf1 cf1 kf1
  have bf1 := Ff1.binds (ps := ["_law_d", "_law_at"]) fun _ _ _ _ _ _ us hl => match us, hl with | [_, _], _ => rfl
  let cStraight : Fd K mg "_law_straight" sStraight ["_law_d", "_law_at"] := ⟨_, _, Ff1, bf1, PySem.W.mg_of X G nf1⟩
  have Ff2 := fun_mk (st := sFork) lf2 cf2 kf2
  have bf2 := Ff2.binds (ps := ["_law_d", "_law_at"]) fun _ _ _ _ _ _ us hl => match us, hl with | [_, _], _ => rfl
  let cFork : Fd K mg "_law_fork" sFork ["_law_d", "_law_at"] := ⟨_, _, Ff2, bf2, PySem.W.mg_of X G nf2⟩
  have Ff3 := fun_mk (st := sBody) lf3 cf3 kf3
  have bf3 := Ff3.binds (ps := ["_law_d", "_law_at", "_law_deep"]) fun _ _ _ _ _ _ us hl => match us, hl with | [_, _, _], _ => rfl
  let cBody : Fd K mg "_law_body" sBody ["_law_d", "_law_at", "_law_deep"] := ⟨_, _, Ff3, bf3, PySem.W.mg_of X G nf3⟩
  have Ff4 := fun_mk (st := sMixed) lf4 cf4 kf4
  have bf4 := Ff4.binds (ps := ["_law_d", "_law_program"]) fun _ _ _ _ _ _ us hl => match us, hl with | [_, _], _ => rfl
  let cMixed : Fd K mg "_law_mixed" sMixed ["_law_d", "_law_program"] := ⟨_, _, Ff4, bf4, PySem.W.mg_of X G nf4⟩
  have Ff5 := fun_mk (st := sStopping) lf5 cf5 kf5
  have bf5 := Ff5.binds (ps := ["_law_d", "_law_deep"]) fun _ _ _ _ _ _ us hl => match us, hl with | [_, _], _ => rfl
  let cStopping : Fd K mg "_law_stopping" sStopping ["_law_d", "_law_deep"] := ⟨_, _, Ff5, bf5, PySem.W.mg_of X G nf5⟩
  have Ff6 := fun_mk (st := sAny) lf6 cf6 kf6
  have bf6 := Ff6.binds (ps := ["_law_d"]) fun _ _ _ _ _ _ us hl => match us, hl with | [_], _ => rfl
  let cAny : Fd K mg "_law_any" sAny ["_law_d"] := ⟨_, _, Ff6, bf6, PySem.W.mg_of X G nf6⟩
  have Ff7 := fun_mk (st := sIsNumber) lf7 cf7 kf7
  have bf7 := Ff7.binds (ps := ["thing"]) fun _ _ _ _ _ _ us hl => match us, hl with | [_], _ => rfl
  let cIsNumber : Fd K mg "is_number" sIsNumber ["thing"] := ⟨_, _, Ff7, bf7, PySem.W.mg_of X G nf7⟩
  have Ff8 := fun_mk (st := sIsBetween) lf8 cf8 kf8
  have bf8 := Ff8.binds (ps := ["thing", "low", "high"]) fun _ _ _ _ _ _ us hl => match us, hl with | [_, _, _], _ => rfl
  let cIsBetween : Fd K mg "is_between" sIsBetween ["thing", "low", "high"] := ⟨_, _, Ff8, bf8, PySem.W.mg_of X G nf8⟩
  have Ff9 := fun_mk (st := sPart) lf9 cf9 kf9
  have bf9 := Ff9.binds (ps := ["whole", "at"]) fun _ _ _ _ _ _ us hl => match us, hl with | [_, _], _ => rfl
  let cPart : Fd K mg "part" sPart ["whole", "at"] := ⟨_, _, Ff9, bf9, PySem.W.mg_of X G nf9⟩
  have Ff10 := fun_mk (st := sCheckWorths) lf10 cf10 kf10
  have bf10 := Ff10.binds (ps := ["worths"]) fun _ _ _ _ _ _ us hl => match us, hl with | [_], _ => rfl
  let cCheckWorths : Fd K mg "check_worths" sCheckWorths ["worths"] := ⟨_, _, Ff10, bf10, PySem.W.mg_of X G nf10⟩
  have Ff11 := fun_mk (st := sCheckFuel) lf11 cf11 kf11
  have bf11 := Ff11.binds (ps := ["fuel"]) fun _ _ _ _ _ _ us hl => match us, hl with | [_], _ => rfl
  let cCheckFuel : Fd K mg "check_fuel" sCheckFuel ["fuel"] := ⟨_, _, Ff11, bf11, PySem.W.mg_of X G nf11⟩
  have Ff12 := fun_mk (st := sOnDesk) lf12 cf12 kf12
  have bf12 := Ff12.binds (ps := ["number"]) fun _ _ _ _ _ _ us hl => match us, hl with | [_], _ => rfl
  let cOnDesk : Fd K mg "on_desk" sOnDesk ["number"] := ⟨_, _, Ff12, bf12, PySem.W.mg_of X G nf12⟩
  have Ff13 := fun_mk (st := sHasShape) lf13 cf13 kf13
  have bf13 := Ff13.binds (ps := ["row"]) fun _ _ _ _ _ _ us hl => match us, hl with | [_], _ => rfl
  let cHasShape : Fd K mg "has_shape" sHasShape ["row"] := ⟨_, _, Ff13, bf13, PySem.W.mg_of X G nf13⟩
  have Ff14 := fun_mk (st := sCheckRow) lf14 cf14 kf14
  have bf14 := Ff14.binds (ps := ["row", "number", "counts"]) fun _ _ _ _ _ _ us hl => match us, hl with | [_, _, _], _ => rfl
  let cCheckRow : Fd K mg "check_row" sCheckRow ["row", "number", "counts"] := ⟨_, _, Ff14, bf14, PySem.W.mg_of X G nf14⟩
  have Ff15 := fun_mk (st := sCheckProgram) lf15 cf15 kf15
  have bf15 := Ff15.binds (ps := ["program"]) fun _ _ _ _ _ _ us hl => match us, hl with | [_], _ => rfl
  let cCheckProgram : Fd K mg "check_program" sCheckProgram ["program"] := ⟨_, _, Ff15, bf15, PySem.W.mg_of X G nf15⟩
  have Ff16 := fun_mk (st := sUsesWorth) lf16 cf16 kf16
  have bf16 := Ff16.binds (ps := ["row"]) fun _ _ _ _ _ _ us hl => match us, hl with | [_], _ => rfl
  let cUsesWorth : Fd K mg "uses_worth" sUsesWorth ["row"] := ⟨_, _, Ff16, bf16, PySem.W.mg_of X G nf16⟩
  have Ff17 := fun_mk (st := sCheckWide) lf17 cf17 kf17
  have bf17 := Ff17.binds (ps := ["wide"]) fun _ _ _ _ _ _ us hl => match us, hl with | [_], _ => rfl
  let cCheckWide : Fd K mg "check_wide" sCheckWide ["wide"] := ⟨_, _, Ff17, bf17, PySem.W.mg_of X G nf17⟩
  have Ff18 := fun_mk (st := sCheckPlaces) lf18 cf18 kf18
  have bf18 := Ff18.binds (ps := ["places", "count", "wide"]) fun _ _ _ _ _ _ us hl => match us, hl with | [_, _, _], _ => rfl
  let cCheckPlaces : Fd K mg "check_places" sCheckPlaces ["places", "count", "wide"] := ⟨_, _, Ff18, bf18, PySem.W.mg_of X G nf18⟩
  have Ff19 := fun_mk (st := sCheckHomes) lf19 cf19 kf19
  have bf19 := Ff19.binds (ps := ["homes", "count", "wide"]) fun _ _ _ _ _ _ us hl => match us, hl with | [_, _, _], _ => rfl
  let cCheckHomes : Fd K mg "check_homes" sCheckHomes ["homes", "count", "wide"] := ⟨_, _, Ff19, bf19, PySem.W.mg_of X G nf19⟩
  have Ff20 := fun_mk (st := sAreHomes) lf20 cf20 kf20
  have bf20 := Ff20.binds (ps := ["places", "wide"]) fun _ _ _ _ _ _ us hl => match us, hl with | [_, _], _ => rfl
  let cAreHomes : Fd K mg "are_homes" sAreHomes ["places", "wide"] := ⟨_, _, Ff20, bf20, PySem.W.mg_of X G nf20⟩
  have Ff21 := fun_mk (st := sCheckLaying) lf21 cf21 kf21
  have bf21 := Ff21.binds (ps := ["program", "laying"]) fun _ _ _ _ _ _ us hl => match us, hl with | [_, _], _ => rfl
  let cCheckLaying : Fd K mg "check_laying" sCheckLaying ["program", "laying"] := ⟨_, _, Ff21, bf21, PySem.W.mg_of X G nf21⟩
  have Ff22 := fun_mk (st := sNexts) lf22 cf22 kf22
  have bf22 := Ff22.binds (ps := ["row"]) fun _ _ _ _ _ _ us hl => match us, hl with | [_], _ => rfl
  let cNexts : Fd K mg "nexts" sNexts ["row"] := ⟨_, _, Ff22, bf22, PySem.W.mg_of X G nf22⟩
  have Ff23 := fun_mk (st := sCosts) lf23 cf23 kf23
  have bf23 := Ff23.binds (ps := ["program", "laying"]) fun _ _ _ _ _ _ us hl => match us, hl with | [_, _], _ => rfl
  let cCosts : Fd K mg "costs" sCosts ["program", "laying"] := ⟨_, _, Ff23, bf23, PySem.W.mg_of X G nf23⟩
  have Ff24 := fun_mk (st := sTakeSpots) lf24 cf24 kf24
  have bf24 := Ff24.binds (ps := ["places", "used"]) fun _ _ _ _ _ _ us hl => match us, hl with | [_, _], _ => rfl
  let cTakeSpots : Fd K mg "take_spots" sTakeSpots ["places", "used"] := ⟨_, _, Ff24, bf24, PySem.W.mg_of X G nf24⟩
  have Ff25 := fun_mk (st := sSpotsOf) lf25 cf25 kf25
  have bf25 := Ff25.binds (ps := ["laying"]) fun _ _ _ _ _ _ us hl => match us, hl with | [_], _ => rfl
  let cSpotsOf : Fd K mg "spots_of" sSpotsOf ["laying"] := ⟨_, _, Ff25, bf25, PySem.W.mg_of X G nf25⟩
  have Ff26 := fun_mk (st := sRowCell) lf26 cf26 kf26
  have bf26 := Ff26.binds (ps := ["row", "rows", "worths"]) fun _ _ _ _ _ _ us hl => match us, hl with | [_, _, _], _ => rfl
  let cRowCell : Fd K mg "row_cell" sRowCell ["row", "rows", "worths"] := ⟨_, _, Ff26, bf26, PySem.W.mg_of X G nf26⟩
  have Ff27 := fun_mk (st := sTracks) lf27 cf27 kf27
  have bf27 := Ff27.binds (ps := ["program", "laying"]) fun _ _ _ _ _ _ us hl => match us, hl with | [_, _], _ => rfl
  let cTracks : Fd K mg "tracks" sTracks ["program", "laying"] := ⟨_, _, Ff27, bf27, PySem.W.mg_of X G nf27⟩
  have Ff28 := fun_mk (st := sImage) lf28 cf28 kf28
  have bf28 := Ff28.binds (ps := ["program", "laying"]) fun _ _ _ _ _ _ us hl => match us, hl with | [_, _], _ => rfl
  let cImage : Fd K mg "image" sImage ["program", "laying"] := ⟨_, _, Ff28, bf28, PySem.W.mg_of X G nf28⟩
  have Ff29 := fun_mk (st := sBeatsX) lf29 cf29 kf29
  have bf29 := Ff29.binds (ps := ["program", "laying", "goes"]) fun _ _ _ _ _ _ us hl => match us, hl with | [_, _, _], _ => rfl
  let cBeatsX : Fd K mg "beats" sBeatsX ["program", "laying", "goes"] := ⟨_, _, Ff29, bf29, PySem.W.mg_of X G nf29⟩
  have Ff30 := fun_mk (st := sSpunX) lf30 cf30 kf30
  have bf30 := Ff30.binds (ps := ["program", "laying", "fuel"]) fun _ _ _ _ _ _ us hl => match us, hl with | [_, _, _], _ => rfl
  let cSpunX : Fd K mg "spun" sSpunX ["program", "laying", "fuel"] := ⟨_, _, Ff30, bf30, PySem.W.mg_of X G nf30⟩
  have Ff31 := fun_mk (st := sLoopBeatsX) lf31 cf31 kf31
  have bf31 := Ff31.binds (ps := ["program", "laying"]) fun _ _ _ _ _ _ us hl => match us, hl with | [_, _], _ => rfl
  let cLoopBeatsX : Fd K mg "loop_beats" sLoopBeatsX ["program", "laying"] := ⟨_, _, Ff31, bf31, PySem.W.mg_of X G nf31⟩
  have Ff32 := fun_mk (st := sLoopsX) lf32 cf32 kf32
  have bf32 := Ff32.binds (ps := ["program"]) fun _ _ _ _ _ _ us hl => match us, hl with | [_], _ => rfl
  let cLoopsX : Fd K mg "loops" sLoopsX ["program"] := ⟨_, _, Ff32, bf32, PySem.W.mg_of X G nf32⟩
  have Ff33 := fun_mk (st := sRunX) lf33 cf33 kf33
  have bf33 := Ff33.binds (ps := ["program", "fuel"]) fun _ _ _ _ _ _ us hl => match us, hl with | [_, _], _ => rfl
  let cRunX : Fd K mg "run" sRunX ["program", "fuel"] := ⟨_, _, Ff33, bf33, PySem.W.mg_of X G nf33⟩
  have Ff34 := fun_mk (st := sWrittenX) lf34 cf34 kf34
  have bf34 := Ff34.binds (ps := ["program"]) fun _ _ _ _ _ _ us hl => match us, hl with | [_], _ => rfl
  let cWrittenX : Fd K mg "written" sWrittenX ["program"] := ⟨_, _, Ff34, bf34, PySem.W.mg_of X G nf34⟩
  have Ff35 := fun_mk (st := sCheckWGX) lf35 cf35 kf35
  have bf35 := Ff35.binds (ps := ["program", "wide", "goes"]) fun _ _ _ _ _ _ us hl => match us, hl with | [_, _, _], _ => rfl
  let cCheckWGX : Fd K mg "check_wide_and_goes" sCheckWGX ["program", "wide", "goes"] := ⟨_, _, Ff35, bf35, PySem.W.mg_of X G nf35⟩
  have Ff36 := fun_mk (st := sBestX) lf36 cf36 kf36
  have bf36 := Ff36.binds (ps := ["program", "wide", "goes"]) fun _ _ _ _ _ _ us hl => match us, hl with | [_, _, _], _ => rfl
  let cBestX : Fd K mg "best" sBestX ["program", "wide", "goes"] := ⟨_, _, Ff36, bf36, PySem.W.mg_of X G nf36⟩
  have Ff37 := fun_mk (st := sBoundX) lf37 cf37 kf37
  have bf37 := Ff37.binds (ps := ["program", "wide", "goes", "told"]) fun _ _ _ _ _ _ us hl => match us, hl with | [_, _, _, _], _ => rfl
  let cBoundX : Fd K mg "bound" sBoundX ["program", "wide", "goes", "told"] := ⟨_, _, Ff37, bf37, PySem.W.mg_of X G nf37⟩
  have Ff38 := fun_mk (st := sPaperX) lf38 cf38 kf38
  have bf38 := Ff38.binds (ps := ["program", "wide", "goes"]) fun _ _ _ _ _ _ us hl => match us, hl with | [_, _, _], _ => rfl
  let cPaperX : Fd K mg "paper" sPaperX ["program", "wide", "goes"] := ⟨_, _, Ff38, bf38, PySem.W.mg_of X G nf38⟩
  have Ff39 := fun_mk (st := sRowBad) lf39 cf39 kf39
  have bf39 := Ff39.binds (ps := ["_law_d", "_law_worths", "_law_rows"]) fun _ _ _ _ _ _ us hl => match us, hl with | [_, _, _], _ => rfl
  let cRowBad : Fd K mg "_law_row_bad" sRowBad ["_law_d", "_law_worths", "_law_rows"] := ⟨_, _, Ff39, bf39, PySem.W.mg_of X G nf39⟩
  have Ff40 := fun_mk (st := sDoors) lf40 cf40 kf40
  have bf40 := Ff40.binds (ps := ["_law_bad", "_law_laying", "_law_goes"]) fun _ _ _ _ _ _ us hl => match us, hl with | [_, _, _], _ => rfl
  let cDoors : Fd K mg "_law_doors" sDoors ["_law_bad", "_law_laying", "_law_goes"] := ⟨_, _, Ff40, bf40, PySem.W.mg_of X G nf40⟩
  have Ff41 := fun_mk (st := sDice) lf41 cf41 kf41
  have bf41 := Ff41.binds (ps := ["_law_script"]) fun _ _ _ _ _ _ us hl => match us, hl with | [_], _ => rfl
  let cDice : Fd K mg "_law_dice" sDice ["_law_script"] := ⟨_, _, Ff41, bf41, PySem.W.mg_of X G nf41⟩
  have Ff42 := fun_mk (st := sLike) lf42 cf42 kf42
  have bf42 := Ff42.binds (ps := ["_law_found", "_law_due"]) fun _ _ _ _ _ _ us hl => match us, hl with | [_, _], _ => rfl
  let cLike : Fd K mg "_law_like" sLike ["_law_found", "_law_due"] := ⟨_, _, Ff42, bf42, PySem.W.mg_of X G nf42⟩
  have Ff43 := fun_mk (st := sTold) lf43 cf43 kf43
  have bf43 := Ff43.binds (ps := ["_law_work"]) fun _ _ _ _ _ _ us hl => match us, hl with | [_], _ => rfl
  let cTold : Fd K mg "_law_told" sTold ["_law_work"] := ⟨_, _, Ff43, bf43, PySem.W.mg_of X G nf43⟩
  have Ff44 := fun_mk (st := sLaw) lf44 cf44 kf44
  have bf44 := Ff44.binds (ps := ["_law_script"]) fun _ _ _ _ _ _ us hl => match us, hl with | [_], _ => rfl
  have T : Bt mg := ⟨PySem.W.mg_none_of X G b_len, PySem.W.mg_none_of X G b_int, PySem.W.mg_none_of X G b_range, PySem.W.mg_none_of X G b_isinstance, PySem.W.mg_none_of X G b_tuple, PySem.W.mg_none_of X G b_list, PySem.W.mg_none_of X G b_sorted, PySem.W.mg_none_of X G b_sum, PySem.W.mg_none_of X G b_max, PySem.W.mg_none_of X G b_enumerate, PySem.W.mg_none_of X G b_zip, PySem.W.mg_none_of X G b_all, PySem.W.mg_none_of X G b_bool, PySem.W.mg_none_of X G b_str⟩
  have TS : Bs mg := ⟨PySem.W.mg_none_of X G b_set⟩
  have TM : Bm mg := ⟨PySem.W.mg_none_of X G b_min⟩
  let Cc : Cn mg := ⟨_, _, _, PySem.W.mg_of X G qW, PySem.W.mg_of X G qR, PySem.W.mg_of X G qN⟩
  let CF : Cf mg := ⟨_, PySem.W.mg_of X G qF⟩
  let CD : Cd mg := ⟨_, _, PySem.W.mg_of X G qL, PySem.W.mg_of X G qC⟩
  let CL : Cl mg := ⟨_, _, PySem.W.mg_of X G q2, PySem.W.mg_of X G q24⟩
  let LH : Ch mg := ⟨_, PySem.W.mg_of X G q3⟩
  let E : Er mg := ⟨_, _, _, _, _, _, _, _, _, PySem.W.mg_of X G mBP, PySem.W.mg_of X G mBL, PySem.W.mg_of X G mBF, PySem.W.mg_of X G mBG, PySem.W.mg_of X G mBE, PySem.W.mg_of X G mTM_, PySem.W.mg_of X G mOV, PySem.W.mg_of X G mBT, PySem.W.mg_of X G mDE, PySem.W.mg_none_of X G b_ValueError⟩
  have kBF : Knd K E E.BF 2 := ⟨⟨BF_hg, BF_hk, BF_hs, BF_hd, BF_ha, BF_hn, BF_ht, BF_hm⟩, exm_sub bDE iDE tDE BF_sDE, kit_type (by decide +kernel) BF_sVE, kit_no BF_n0 iBP tBP BF_s0, kit_no BF_n1 iBL tBL BF_s1, kit_self, kit_no BF_n3 iBG tBG BF_s3, kit_no BF_n4 iBE tBE BF_s4, kit_no BF_n5 iTM_ tTM_ BF_s5, kit_no BF_n6 iOV tOV BF_s6, kit_no BF_n7 iBT tBT BF_s7, by decide⟩
  have rBF : OvK K E.BF := ⟨BF_rx, BF_rk, BF_hs, BF_rt⟩
  have DEK : DeK K mg E.DE := ⟨E.mDE, de_sp, tDE, de_rd, de_fi⟩
  have FxBP := fun_mk (st := sBPInit) lxBP cxBP kxBP
  have bxBP := FxBP.binds (ps := ["self", "row", "why"]) fun _ _ _ _ _ _ us hl => match us, hl with | [_, _, _], _ => rfl
  have JBP : ErI K mg "BadProgram" "BadProgram.__init__" eBP sBPInit ["self", "row", "why"] := ⟨_, _, FxBP, bxBP, nxBP, tyxBP, ⟨BP_cl, BP_sa, BP_hs, BP_rt, BP_rk⟩, PySem.W.mg_of X G mBP⟩
  have KFBP : KnF K E eBP 0 := ⟨⟨BP_hg, BP_hk, BP_hs, BP_hd, BP_ha, BP_hn, BP_ht, BP_hm⟩, exm_sub bDE iDE tDE BP_sDE, kit_type (by decide +kernel) BP_sVE, kit_self, kit_no BP_n1 iBL tBL BP_s1, kit_no BP_n2 iBF tBF BP_s2, kit_no BP_n3 iBG tBG BP_s3, kit_no BP_n4 iBE tBE BP_s4, kit_no BP_n5 iTM_ tTM_ BP_s5, kit_no BP_n6 iOV tOV BP_s6, kit_no BP_n7 iBT tBT BP_s7, by decide, ⟨BP_hg, BP_hk, BP_hs, BP_hd⟩, BP_wrow, BP_wwhy, BP_wat, BP_wline⟩
  have FxBL := fun_mk (st := sBLInit) lxBL cxBL kxBL
  have bxBL := FxBL.binds (ps := ["self", "why", "at"]) fun _ _ _ _ _ _ us hl => match us, hl with | [_, _, _], _ => rfl
  have JBL : ErI K mg "BadLaying" "BadLaying.__init__" eBL sBLInit ["self", "why", "at"] := ⟨_, _, FxBL, bxBL, nxBL, tyxBL, ⟨BL_cl, BL_sa, BL_hs, BL_rt, BL_rk⟩, PySem.W.mg_of X G mBL⟩
  have KFBL : KnF K E eBL 1 := ⟨⟨BL_hg, BL_hk, BL_hs, BL_hd, BL_ha, BL_hn, BL_ht, BL_hm⟩, exm_sub bDE iDE tDE BL_sDE, kit_type (by decide +kernel) BL_sVE, kit_no BL_n0 iBP tBP BL_s0, kit_self, kit_no BL_n2 iBF tBF BL_s2, kit_no BL_n3 iBG tBG BL_s3, kit_no BL_n4 iBE tBE BL_s4, kit_no BL_n5 iTM_ tTM_ BL_s5, kit_no BL_n6 iOV tOV BL_s6, kit_no BL_n7 iBT tBT BL_s7, by decide, ⟨BL_hg, BL_hk, BL_hs, BL_hd⟩, BL_wrow, BL_wwhy, BL_wat, BL_wline⟩
  have FmC0 := fun_mk (st := sDInit) lmC0 cmC0 kmC0
  have bmC0 := FmC0.binds (ps := ["self", "worths"]) fun _ _ _ _ _ _ us hl => match us, hl with | [_, _], _ => rfl
  have FmC1 := fun_mk (st := sDStep) lmC1 cmC1 kmC1
  have bmC1 := FmC1.binds (ps := ["self", "row"]) fun _ _ _ _ _ _ us hl => match us, hl with | [_, _], _ => rfl
  have FmC2 := fun_mk (st := sDUse) lmC2 cmC2 kmC2
  have bmC2 := FmC2.binds (ps := ["self", "word", "worth"]) fun _ _ _ _ _ _ us hl => match us, hl with | [_, _, _], _ => rfl
  have FmC3 := fun_mk (st := sDOnward) lmC3 cmC3 kmC3
  have bmC3 := FmC3.binds (ps := ["self", "row"]) fun _ _ _ _ _ _ us hl => match us, hl with | [_, _], _ => rfl
  have TC : Dk K mg C := ⟨⟨pgC, hdC, poC, saC⟩, zC_number, zC_worths, zC_said, PySem.W.mg_of X G nCC⟩
  let DM : DkM K mg := ⟨C, TC, _, _, FmC0, bmC0, ⟨mkC, nmC0, imC0, kcC⟩, _, _, FmC1, bmC1, ⟨nmC1, imC1, kmC1⟩, _, _, FmC2, bmC2, ⟨nmC2, imC2, kmC2⟩, _, _, FmC3, bmC3, ⟨nmC3, imC3, kmC3⟩⟩
  have FmU0 := fun_mk (st := sUInit) lmU0 cmU0 kmU0
  have bmU0 := FmU0.binds (ps := ["self", "program", "laying"]) fun _ _ _ _ _ _ us hl => match us, hl with | [_, _, _], _ => rfl
  have FmU1 := fun_mk (st := sUTurn) lmU1 cmU1 kmU1
  have bmU1 := FmU1.binds (ps := ["self"]) fun _ _ _ _ _ _ us hl => match us, hl with | [_], _ => rfl
  have FmU2 := fun_mk (st := sUBeat) lmU2 cmU2 kmU2
  have bmU2 := FmU2.binds (ps := ["self"]) fun _ _ _ _ _ _ us hl => match us, hl with | [_], _ => rfl
  have FmU3 := fun_mk (st := sUSays) lmU3 cmU3 kmU3
  have bmU3 := FmU3.binds (ps := ["self"]) fun _ _ _ _ _ _ us hl => match us, hl with | [_], _ => rfl
  have FmU4 := fun_mk (st := sUOver) lmU4 cmU4 kmU4
  have bmU4 := FmU4.binds (ps := ["self"]) fun _ _ _ _ _ _ us hl => match us, hl with | [_], _ => rfl
  have TU : Uk K mg U := ⟨⟨pgU, hdU, poU, saU⟩, zU_rows, zU_laying, zU_desk, zU_row, zU_now, PySem.W.mg_of X G nCU⟩
  let UM : UkM K mg := ⟨U, TU, _, _, FmU0, bmU0, ⟨mkU, nmU0, imU0, kcU⟩, _, _, FmU1, bmU1, ⟨nmU1, imU1, kmU1⟩, _, _, FmU2, bmU2, ⟨nmU2, imU2, kmU2⟩, _, _, FmU3, bmU3, ⟨nmU3, imU3, kmU3⟩, _, _, FmU4, bmU4, ⟨nmU4, imU4, kmU4⟩⟩
  let Z : Pt K w mg := ⟨d, es, n, PySem.W.mg_of X G pD, ⟨pL, pK, lo⟩, fun r => by
    cases r with
    | load _ _ => exact ⟨p_load, w_load, fun H => tup_lit u_load v_load (by show 2 ≤ 1000; decide)⟩
    | add _ _ => exact ⟨p_add, w_add, fun H => tup_lit u_add v_add (by show 2 ≤ 1000; decide)⟩
    | take _ _ => exact ⟨p_take, w_take, fun H => tup_lit u_take v_take (by show 2 ≤ 1000; decide)⟩
    | store _ _ => exact ⟨p_store, w_store, fun H => tup_lit u_store v_store (by show 2 ≤ 1000; decide)⟩
    | say _ => exact ⟨p_say, w_say, fun H => tup_lit u_say v_say (by show 1 ≤ 1000; decide)⟩
    | test _ _ => exact ⟨p_test, w_test, fun H => tup_lit u_test v_test (by show 2 ≤ 1000; decide)⟩
    | stop  => exact ⟨p_stop, w_stop, fun H => tup_lit u_stop v_stop (by show 0 ≤ 1000; decide)⟩⟩
  have O : PtO K Z := ⟨fun x hx => ns_none pL pE hx⟩
  let ZW : Pw K w mg := ⟨e, es2, n2, PySem.W.mg_of X G pW, ⟨pWL, pWK, lo2⟩, fun r => by
    cases r with
    | load _ _ => exact ⟨_, x_load⟩
    | add _ _ => exact ⟨_, x_add⟩
    | take _ _ => exact ⟨_, x_take⟩
    | store _ _ => exact ⟨_, x_store⟩
    | say _ => exact ⟨_, x_say⟩
    | test _ _ => exact ⟨_, x_test⟩
    | stop  => exact ⟨_, x_stop⟩⟩
  have hA := fun base : Heap => ok_any (P := P) (w := w) (base := base) cAny cStopping cMixed cBody cFork cStraight cNext T
  have hCP := fun base : Heap => ok_checkProgram (P := P) (w := w) (base := base) cCheckProgram cCheckRow cCheckWorths cHasShape cPart cIsBetween cIsNumber T Cc Z
  have hCL := fun base : Heap => ok_checkLaying (P := P) (w := w) (base := base) cCheckLaying cCheckWide cCheckPlaces cCheckHomes cAreHomes cPart cIsBetween cIsNumber T TS CL LH
  have hCF := fun base : Heap => ok_checkFuel (P := P) (w := w) (base := base) cCheckFuel cIsBetween cIsNumber T CF
  have hUI := fun base : Heap => ok_uinit (P := P) (w := w) (base := base) UM.FI cCheckProgram cCheckLaying T UM.d DM.d DM.FI DM.bI DM.mkd (hCP base) (hCL base)
  have hSO := fun base : Heap => ok_spotsOf (P := P) (w := w) (base := base) cSpotsOf cTakeSpots T
  have hRC := fun base : Heap => ok_rowCell (P := P) (w := w) (base := base) cRowCell cNexts cUsesWorth T Z
  have hIm := fun base : Heap => ok_image (P := P) (w := w) (base := base) cImage cCheckProgram cCheckLaying cSpotsOf cRowCell T (hCP base) (hCL base) (hSO base) (hRC base)
  have hBPi := fun base : Heap => ok_BPInit (P := P) (w := w) (base := base) JBP DEK BP_wrow BP_wwhy
  have hBLi := fun base : Heap => ok_BLInit (P := P) (w := w) (base := base) JBL DEK BL_wwhy BL_wat
  have hCPD := fun base : Heap => ok_checkProgramD (P := P) (w := w) (base := base) JBP (hBPi base) cCheckProgram cCheckRow cCheckWorths cHasShape cPart cIsBetween cIsNumber T Cc Z O
  have hCLD := fun base : Heap => ok_checkLayingD (P := P) (w := w) (base := base) JBL (hBLi base) cCheckLaying cCheckWide cCheckPlaces cCheckHomes cAreHomes cPart cIsBetween cIsNumber T TS CL LH
  have hCWD := fun base : Heap => ok_checkWideD (P := P) (w := w) (base := base) JBL (hBLi base) cCheckWide cIsBetween cIsNumber T CL
  have hXCo := fun base : Heap => ok_doorCosts (P := P) (w := w) (base := base) cCosts cCheckProgram cCheckLaying (hCPD base) (hCLD base)
  have hXBe := fun base : Heap => ok_doorBeats (P := P) (w := w) (base := base) cBeatsX cCheckProgram cCheckLaying (hCPD base) (hCLD base)
  have hXTr := fun base : Heap => ok_doorTracks (P := P) (w := w) (base := base) cTracks cCheckProgram cCheckLaying (hCPD base) (hCLD base)
  have hXIm := fun base : Heap => ok_doorImage (P := P) (w := w) (base := base) cImage cCheckProgram cCheckLaying (hCPD base) (hCLD base)
  have hXLb := fun base : Heap => ok_doorLoopBeats (P := P) (w := w) (base := base) cLoopBeatsX cCheckProgram cCheckLaying (hCPD base) (hCLD base)
  have hXUI := fun base : Heap => ok_doorUInit (P := P) (w := w) (base := base) UM.FI cCheckProgram cCheckLaying (hCPD base) (hCLD base)
  have hZSp := fun base : Heap => ok_doorSpun (P := P) (w := w) (base := base) cSpunX UM.mkd UM.bI UM.d.m (hXUI base)
  have hXWG := fun base : Heap => ok_doorCheckWG (P := P) (w := w) (base := base) cCheckWGX cCheckProgram cCheckWide (hCPD base) (hCWD base)
  have hXBs := fun base : Heap => ok_doorBest (P := P) (w := w) (base := base) cBestX cCheckWGX (hXWG base)
  have hXBo := fun base : Heap => ok_doorBound (P := P) (w := w) (base := base) cBoundX cCheckWGX (hXWG base)
  have hXPa := fun base : Heap => ok_doorPaper (P := P) (w := w) (base := base) cPaperX cCheckWGX (hXWG base)
  have hXLo := fun base : Heap => ok_doorLoops (P := P) (w := w) (base := base) cLoopsX cCheckProgram (hCPD base)
  have hYRu := fun base : Heap => ok_doorRun (P := P) (w := w) (base := base) cRunX cCheckProgram (hCPD base)
  have hXWr := fun base : Heap => ok_doorWritten (P := P) (w := w) (base := base) cWrittenX cCheckProgram (hCPD base)
  have hFX := fun base : Heap => ok_fuelX (P := P) (w := w) (base := base) rBF E.mBF cCheckFuel cIsBetween cIsNumber T CF
  have hYRun := fun base : Heap => ok_prun (P := P) (w := w) (base := base) cRunX cCheckProgram cCheckFuel cCheckRow cCheckWorths cHasShape cPart cIsBetween cIsNumber cOnDesk cUsesWorth DM T Cc CF CD Z
  have hZRF := fun base : Heap => ok_runF (P := P) (w := w) (base := base) cRunX cCheckProgram cCheckFuel (hCP base) (hFX base)
  have hDo := fun (base : Heap) (hTd : LamX.TabB base mg cc0 tP0) => ok_doors (P := P) (w := w) (base := base) lf40 cf40 hTd (ne_of_beq_false ne0) cRunX cCosts cBeatsX cSpunX cBestX cBoundX cPaperX cLoopsX cLoopBeatsX cTracks cImage cWrittenX UM (hYRu base) (hXCo base) (hXBe base) (hXUI base) (hZSp base) (hXBs base) (hXBo base) (hXPa base) (hXLo base) (hXLb base) (hXTr base) (hXIm base) (hXWr base)
  refine ⟨_, [(cc, tP), (cc0, tP0)], spLaw K tP tP0, fun p hp => ?_, fun p hp => ?_, fun p hp => ?_, ?_, fun H a ns hl _ hT hS => ⟨a, ns, rfl, hS, hl, hT _ (List.mem_cons_self), hT _ (List.mem_cons_of_mem _ (List.mem_cons_self)), fun _ => rfl⟩, fun base _ _ hT => ok_law lf44 cf44 (hT _ (List.mem_cons_self)) (ne_of_beq_false ne0) cDice cNext cAny cLike cTold cRowBad cRunX cImage T E KFBP kBF cDoors.m cDoors.F.kp cDoors.b (hA base) (hDo base (hT _ (List.mem_cons_of_mem _ (List.mem_cons_self)))) (hYRun base) (hZRF base) (hIm base)⟩
  · simp only [List.mem_cons, List.not_mem_nil, or_false] at hp
    rcases hp with rfl | rfl
    · exact own _ (List.mem_cons_self) _ (PySem.W.mg_of X G nf44) cc tP _ _ _ _ _ _ lf44 rfl rfl cK c11
    · exact own _ (List.mem_cons_of_mem _ (List.mem_cons_self)) _ (PySem.W.mg_of X G nf40) cc0 tP0 _ _ _ _ _ _ lf40 rfl rfl cK0 c110
  · simp only [List.mem_cons, List.not_mem_nil, or_false] at hp
    rcases hp with rfl | rfl
    · exact nP
    · exact nP0
  · simp only [List.mem_cons, List.not_mem_nil, or_false] at hp
    rcases hp with rfl | rfl
    · exact ⟨_, vsc, _, _, _, _, _, _, _, X _ _ cK, rfl, rfl, c11, g11, g18, g7, g9, g10, ne_of_beq_false cP⟩
    · exact ⟨_, vsc0, _, _, _, _, _, _, _, X _ _ cK0, rfl, rfl, c110, g110, g180, g70, g90, g100, ne_of_beq_false cP0⟩
  · exact fun s v => .of_eq rfl
end DL
namespace HL
open PySem PySem.W PySem.Calls PyProof.Rows
def names0 : List PySem.Str := ["heappop", "heappush", "_wall", "DrumError", "BadProgram", "BadLaying", "BadFuel", "BadGoes", "BadPaper", "TooMany", "Over", "BadText", "MOST_WORTHS", "MOST_ROWS", "MOST_NUMBER", "PARTS", "is_number", "is_between", "part", "uses_worth", "nexts", "rows_ahead", "goes_that_may_be", "check_program", "check_worths", "check_row", "has_shape", "MOST_FUEL", "DESK_LOW", "DESK_COUNT"]
def names1 : List PySem.Str := ["Desk", "on_desk", "check_fuel", "run", "LEAST_WIDE", "MOST_WIDE", "MOST_HOMES", "WORK", "check_laying", "check_wide", "check_places", "check_homes", "are_homes", "first_beat", "beats_of_use", "beat_of_use", "beat_behind", "cost", "costs", "check_goes", "check_wide_and_goes", "is_go", "goes_agree", "rows_found", "times_done", "beats", "beats_by", "MOST_CORES", "best", "core_worths"]
def names2 : List PySem.Str := ["core_rows", "cores", "core_places", "homes_of", "rows_at", "links_beside_core", "laid", "Drum", "spun", "tracks", "image", "spots_of", "take_spots", "row_cell", "bound", "halves_done", "is_entry", "is_way", "use_one_worth", "halves", "take_halves", "least_half", "least_beats", "in_rounds", "paper", "ways_to_take", "sort_of", "shortest_ways", "MOST_LOOPS", "MOST_STRETCHES"]
def names3 : List PySem.Str := ["loops", "loop_beats", "written", "_law_dice", "_law_next", "_law_like", "_law_straight", "_law_fork", "_law_body", "_law_mixed", "_law_stopping", "_law_any", "_law_told", "_law_row_bad"]
def names : List PySem.Str := names0 ++ names1 ++ names2 ++ names3
abbrev qv : Program := view (PySem.W.OpenLaw.row PySem.Challenge.rw_drumlay_k01_programs_refused).prog [0, 114, 115]
end HL
open PySem PySem.W PySem.Calls PyProof.Rows in
local macro_rules
  | `(tactic| o_head ($f:ident $k $a $e $t)) => `(tactic| (exact False.elim (by assumption)))
set_option maxHeartbeats 0 in
open PySem PySem.W PyProof.Rows in
theorem HL.hd0 (hf : False) : PySem.Challenge.rw_drumlay_k01_programs_refused.Holds := by
  w_on; o_law; k_head
set_option maxHeartbeats 0 in
open PySem PySem.W PySem.Calls PyProof.Rows in
theorem HL.runF (w : World) : HandSHeadRun.RunEqI (PySem.W.OpenLaw.row PySem.Challenge.rw_drumlay_k01_programs_refused) HL.qv (kmHook HL.hd0.heap_39 [2, 3, 43, 45, 46, 48, 49, 50, 57, 58, 59, 60, 63, 70, 72, 73, 75, 76, 77, 78, 79, 82, 89, 91, 92, 94, 95, 96, 97, 98, 101, 108, 109, 110, 113, 120, 121, 122, 125, 132, 134, 135, 137, 138, 139, 140, 141, 144, 151, 152, 153, 156, 163, 164, 165, 168, 175, 177, 178, 180, 181, 182, 183, 184, 187, 188, 189, 190, 191, 192, 193, 194, 195, 197, 198, 200, 201, 202, 204, 205, 207, 208, 209, 211, 212, 214, 215, 216, 218, 219, 221, 222, 223, 225, 226, 228, 229, 230, 232, 233, 235, 236, 237, 240, 241, 242, 244, 245, 247, 248, 249, 251, 252, 254, 255, 256, 258, 259, 261, 262, 263, 266, 267, 275, 277, 278, 280, 281, 282, 284, 285, 287, 288, 289, 291, 292, 294, 295, 296, 298, 299, 301, 302, 303, 304, 305, 306, 307, 310, 312, 313, 315, 316, 317, 319, 320, 322, 323, 324, 327, 328, 329, 330, 332, 333, 335, 336, 337, 339, 340, 342, 343, 344, 346, 347, 349, 350, 351, 353, 354, 356, 357, 358, 361, 362, 363, 365, 366, 368, 369, 370, 373, 374, 375, 377, 378, 380, 381, 382, 384, 385, 387, 388, 389, 391, 392, 394, 395, 396, 399, 400, 401, 404, 405, 406, 408, 409, 411, 412, 413, 416, 417, 418, 421, 422, 423, 425, 426, 428, 429, 430, 432, 433, 435, 436, 437, 439, 440, 442, 443, 444, 447, 448, 449, 451, 452, 454, 455, 456, 459, 460, 461, 464, 465, 466, 468, 469, 471, 472, 473, 475, 476, 478, 479, 480, 482, 483, 485, 486, 487, 489, 490, 492, 493, 494, 497, 498, 499, 502, 503, 511, 513, 514, 516, 517, 518, 520, 521, 523, 524, 525, 527, 528, 530, 531, 532, 534, 535, 537, 538, 539, 541, 542, 544, 545, 546, 548, 549, 551, 552, 553, 554, 555, 556, 557, 560, 562, 563, 565, 566, 567, 569, 570, 572, 573, 574, 577, 578, 579, 581, 582, 584, 585, 586, 588, 589, 591, 592, 593, 596, 597, 598, 601, 602, 603, 606, 607, 608, 610, 611, 613, 614, 615, 618, 619, 620, 622, 623, 625, 626, 627, 630, 631, 632, 634, 635, 637, 638, 639, 641, 642, 644, 645, 646, 649, 650, 651, 653, 654, 656, 657, 658, 661, 662, 663, 665, 666, 668, 669, 670, 672, 673, 675, 676, 677, 679, 680, 682, 683, 684, 687, 688, 689, 692, 693, 694, 697, 698, 699, 701, 702, 704, 705, 706, 708, 709, 711, 712, 713, 715, 716, 718, 719, 720, 722, 723, 725, 726, 727, 730, 731, 732, 734, 735, 737, 738, 739, 742, 743, 744, 747, 748, 749, 752, 753, 754, 756, 757, 759, 760, 761, 764, 765, 766, 768, 769, 771, 772, 773, 776, 777] (fun _ => by kernel_rfl) [767, 774]) (fun s => (List.map (HandSHeadRun.getT s) [2, 3, 43, 45, 46, 48, 49, 50, 57, 58, 59, 60, 63, 70, 72, 73, 75, 76, 77, 78, 79, 82, 89, 91, 92, 94, 95, 96, 97, 98, 101, 108, 109, 110, 113, 120, 121, 122, 125, 132, 134, 135, 137, 138, 139, 140, 141, 144, 151, 152, 153, 156, 163, 164, 165, 168, 175, 177, 178, 180, 181, 182, 183, 184, 187, 188, 189, 190, 191, 192, 193, 194, 195, 197, 198, 200, 201, 202, 204, 205, 207, 208, 209, 211, 212, 214, 215, 216, 218, 219, 221, 222, 223, 225, 226, 228, 229, 230, 232, 233, 235, 236, 237, 240, 241, 242, 244, 245, 247, 248, 249, 251, 252, 254, 255, 256, 258, 259, 261, 262, 263, 266, 267, 275, 277, 278, 280, 281, 282, 284, 285, 287, 288, 289, 291, 292, 294, 295, 296, 298, 299, 301, 302, 303, 304, 305, 306, 307, 310, 312, 313, 315, 316, 317, 319, 320, 322, 323, 324, 327, 328, 329, 330, 332, 333, 335, 336, 337, 339, 340, 342, 343, 344, 346, 347, 349, 350, 351, 353, 354, 356, 357, 358, 361, 362, 363, 365, 366, 368, 369, 370, 373, 374, 375, 377, 378, 380, 381, 382, 384, 385, 387, 388, 389, 391, 392, 394, 395, 396, 399, 400, 401, 404, 405, 406, 408, 409, 411, 412, 413, 416, 417, 418, 421, 422, 423, 425, 426, 428, 429, 430, 432, 433, 435, 436, 437, 439, 440, 442, 443, 444, 447, 448, 449, 451, 452, 454, 455, 456, 459, 460, 461, 464, 465, 466, 468, 469, 471, 472, 473, 475, 476, 478, 479, 480, 482, 483, 485, 486, 487, 489, 490, 492, 493, 494, 497, 498, 499, 502, 503, 511, 513, 514, 516, 517, 518, 520, 521, 523, 524, 525, 527, 528, 530, 531, 532, 534, 535, 537, 538, 539, 541, 542, 544, 545, 546, 548, 549, 551, 552, 553, 554, 555, 556, 557, 560, 562, 563, 565, 566, 567, 569, 570, 572, 573, 574, 577, 578, 579, 581, 582, 584, 585, 586, 588, 589, 591, 592, 593, 596, 597, 598, 601, 602, 603, 606, 607, 608, 610, 611, 613, 614, 615, 618, 619, 620, 622, 623, 625, 626, 627, 630, 631, 632, 634, 635, 637, 638, 639, 641, 642, 644, 645, 646, 649, 650, 651, 653, 654, 656, 657, 658, 661, 662, 663, 665, 666, 668, 669, 670, 672, 673, 675, 676, 677, 679, 680, 682, 683, 684, 687, 688, 689, 692, 693, 694, 697, 698, 699, 701, 702, 704, 705, 706, 708, 709, 711, 712, 713, 715, 716, 718, 719, 720, 722, 723, 725, 726, 727, 730, 731, 732, 734, 735, 737, 738, 739, 742, 743, 744, 747, 748, 749, 752, 753, 754, 756, 757, 759, 760, 761, 764, 765, 766, 768, 769, 771, 772, 773, 776, 777], List.map (HandSHeadRun.getT s) [767, 774])) 9000 HL.names (w.withFollow "special-get-raises" false) := by
  delta HandSHeadRun.RunEqI
  kernel_rfl
set_option maxHeartbeats 0 in
open PySem PySem.W PySem.Calls PyProof.Rows in
theorem HL.runT (w : World) : HandSHeadRun.RunEqI (PySem.W.OpenLaw.row PySem.Challenge.rw_drumlay_k01_programs_refused) HL.qv (kmHook HL.hd0.heap_39 [2, 3, 43, 45, 46, 48, 49, 50, 57, 58, 59, 60, 63, 70, 72, 73, 75, 76, 77, 78, 79, 82, 89, 91, 92, 94, 95, 96, 97, 98, 101, 108, 109, 110, 113, 120, 121, 122, 125, 132, 134, 135, 137, 138, 139, 140, 141, 144, 151, 152, 153, 156, 163, 164, 165, 168, 175, 177, 178, 180, 181, 182, 183, 184, 187, 188, 189, 190, 191, 192, 193, 194, 195, 197, 198, 200, 201, 202, 204, 205, 207, 208, 209, 211, 212, 214, 215, 216, 218, 219, 221, 222, 223, 225, 226, 228, 229, 230, 232, 233, 235, 236, 237, 240, 241, 242, 244, 245, 247, 248, 249, 251, 252, 254, 255, 256, 258, 259, 261, 262, 263, 266, 267, 275, 277, 278, 280, 281, 282, 284, 285, 287, 288, 289, 291, 292, 294, 295, 296, 298, 299, 301, 302, 303, 304, 305, 306, 307, 310, 312, 313, 315, 316, 317, 319, 320, 322, 323, 324, 327, 328, 329, 330, 332, 333, 335, 336, 337, 339, 340, 342, 343, 344, 346, 347, 349, 350, 351, 353, 354, 356, 357, 358, 361, 362, 363, 365, 366, 368, 369, 370, 373, 374, 375, 377, 378, 380, 381, 382, 384, 385, 387, 388, 389, 391, 392, 394, 395, 396, 399, 400, 401, 404, 405, 406, 408, 409, 411, 412, 413, 416, 417, 418, 421, 422, 423, 425, 426, 428, 429, 430, 432, 433, 435, 436, 437, 439, 440, 442, 443, 444, 447, 448, 449, 451, 452, 454, 455, 456, 459, 460, 461, 464, 465, 466, 468, 469, 471, 472, 473, 475, 476, 478, 479, 480, 482, 483, 485, 486, 487, 489, 490, 492, 493, 494, 497, 498, 499, 502, 503, 511, 513, 514, 516, 517, 518, 520, 521, 523, 524, 525, 527, 528, 530, 531, 532, 534, 535, 537, 538, 539, 541, 542, 544, 545, 546, 548, 549, 551, 552, 553, 554, 555, 556, 557, 560, 562, 563, 565, 566, 567, 569, 570, 572, 573, 574, 577, 578, 579, 581, 582, 584, 585, 586, 588, 589, 591, 592, 593, 596, 597, 598, 601, 602, 603, 606, 607, 608, 610, 611, 613, 614, 615, 618, 619, 620, 622, 623, 625, 626, 627, 630, 631, 632, 634, 635, 637, 638, 639, 641, 642, 644, 645, 646, 649, 650, 651, 653, 654, 656, 657, 658, 661, 662, 663, 665, 666, 668, 669, 670, 672, 673, 675, 676, 677, 679, 680, 682, 683, 684, 687, 688, 689, 692, 693, 694, 697, 698, 699, 701, 702, 704, 705, 706, 708, 709, 711, 712, 713, 715, 716, 718, 719, 720, 722, 723, 725, 726, 727, 730, 731, 732, 734, 735, 737, 738, 739, 742, 743, 744, 747, 748, 749, 752, 753, 754, 756, 757, 759, 760, 761, 764, 765, 766, 768, 769, 771, 772, 773, 776, 777] (fun _ => by kernel_rfl) [767, 774]) (fun s => (List.map (HandSHeadRun.getT s) [2, 3, 43, 45, 46, 48, 49, 50, 57, 58, 59, 60, 63, 70, 72, 73, 75, 76, 77, 78, 79, 82, 89, 91, 92, 94, 95, 96, 97, 98, 101, 108, 109, 110, 113, 120, 121, 122, 125, 132, 134, 135, 137, 138, 139, 140, 141, 144, 151, 152, 153, 156, 163, 164, 165, 168, 175, 177, 178, 180, 181, 182, 183, 184, 187, 188, 189, 190, 191, 192, 193, 194, 195, 197, 198, 200, 201, 202, 204, 205, 207, 208, 209, 211, 212, 214, 215, 216, 218, 219, 221, 222, 223, 225, 226, 228, 229, 230, 232, 233, 235, 236, 237, 240, 241, 242, 244, 245, 247, 248, 249, 251, 252, 254, 255, 256, 258, 259, 261, 262, 263, 266, 267, 275, 277, 278, 280, 281, 282, 284, 285, 287, 288, 289, 291, 292, 294, 295, 296, 298, 299, 301, 302, 303, 304, 305, 306, 307, 310, 312, 313, 315, 316, 317, 319, 320, 322, 323, 324, 327, 328, 329, 330, 332, 333, 335, 336, 337, 339, 340, 342, 343, 344, 346, 347, 349, 350, 351, 353, 354, 356, 357, 358, 361, 362, 363, 365, 366, 368, 369, 370, 373, 374, 375, 377, 378, 380, 381, 382, 384, 385, 387, 388, 389, 391, 392, 394, 395, 396, 399, 400, 401, 404, 405, 406, 408, 409, 411, 412, 413, 416, 417, 418, 421, 422, 423, 425, 426, 428, 429, 430, 432, 433, 435, 436, 437, 439, 440, 442, 443, 444, 447, 448, 449, 451, 452, 454, 455, 456, 459, 460, 461, 464, 465, 466, 468, 469, 471, 472, 473, 475, 476, 478, 479, 480, 482, 483, 485, 486, 487, 489, 490, 492, 493, 494, 497, 498, 499, 502, 503, 511, 513, 514, 516, 517, 518, 520, 521, 523, 524, 525, 527, 528, 530, 531, 532, 534, 535, 537, 538, 539, 541, 542, 544, 545, 546, 548, 549, 551, 552, 553, 554, 555, 556, 557, 560, 562, 563, 565, 566, 567, 569, 570, 572, 573, 574, 577, 578, 579, 581, 582, 584, 585, 586, 588, 589, 591, 592, 593, 596, 597, 598, 601, 602, 603, 606, 607, 608, 610, 611, 613, 614, 615, 618, 619, 620, 622, 623, 625, 626, 627, 630, 631, 632, 634, 635, 637, 638, 639, 641, 642, 644, 645, 646, 649, 650, 651, 653, 654, 656, 657, 658, 661, 662, 663, 665, 666, 668, 669, 670, 672, 673, 675, 676, 677, 679, 680, 682, 683, 684, 687, 688, 689, 692, 693, 694, 697, 698, 699, 701, 702, 704, 705, 706, 708, 709, 711, 712, 713, 715, 716, 718, 719, 720, 722, 723, 725, 726, 727, 730, 731, 732, 734, 735, 737, 738, 739, 742, 743, 744, 747, 748, 749, 752, 753, 754, 756, 757, 759, 760, 761, 764, 765, 766, 768, 769, 771, 772, 773, 776, 777], List.map (HandSHeadRun.getT s) [767, 774])) 9000 HL.names (w.withFollow "special-get-raises" true) := by
  delta HandSHeadRun.RunEqI
  kernel_rfl
open PySem PySem.W PyProof.Rows in
set_option maxRecDepth 100000 in
set_option maxHeartbeats 0 in
theorem PySem.Challenge.cw_drumlay_k01_programs_refused_holds : PySem.Challenge.rw_drumlay_k01_programs_refused.Holds := by
  w_on; o_law
  refine HandSHeadRun.head_imp (r := PySem.W.OpenLaw.row PySem.Challenge.rw_drumlay_k01_programs_refused) (q := HL.qv) (H := kmHook HL.hd0.heap_39 [2, 3, 43, 45, 46, 48, 49, 50, 57, 58, 59, 60, 63, 70, 72, 73, 75, 76, 77, 78, 79, 82, 89, 91, 92, 94, 95, 96, 97, 98, 101, 108, 109, 110, 113, 120, 121, 122, 125, 132, 134, 135, 137, 138, 139, 140, 141, 144, 151, 152, 153, 156, 163, 164, 165, 168, 175, 177, 178, 180, 181, 182, 183, 184, 187, 188, 189, 190, 191, 192, 193, 194, 195, 197, 198, 200, 201, 202, 204, 205, 207, 208, 209, 211, 212, 214, 215, 216, 218, 219, 221, 222, 223, 225, 226, 228, 229, 230, 232, 233, 235, 236, 237, 240, 241, 242, 244, 245, 247, 248, 249, 251, 252, 254, 255, 256, 258, 259, 261, 262, 263, 266, 267, 275, 277, 278, 280, 281, 282, 284, 285, 287, 288, 289, 291, 292, 294, 295, 296, 298, 299, 301, 302, 303, 304, 305, 306, 307, 310, 312, 313, 315, 316, 317, 319, 320, 322, 323, 324, 327, 328, 329, 330, 332, 333, 335, 336, 337, 339, 340, 342, 343, 344, 346, 347, 349, 350, 351, 353, 354, 356, 357, 358, 361, 362, 363, 365, 366, 368, 369, 370, 373, 374, 375, 377, 378, 380, 381, 382, 384, 385, 387, 388, 389, 391, 392, 394, 395, 396, 399, 400, 401, 404, 405, 406, 408, 409, 411, 412, 413, 416, 417, 418, 421, 422, 423, 425, 426, 428, 429, 430, 432, 433, 435, 436, 437, 439, 440, 442, 443, 444, 447, 448, 449, 451, 452, 454, 455, 456, 459, 460, 461, 464, 465, 466, 468, 469, 471, 472, 473, 475, 476, 478, 479, 480, 482, 483, 485, 486, 487, 489, 490, 492, 493, 494, 497, 498, 499, 502, 503, 511, 513, 514, 516, 517, 518, 520, 521, 523, 524, 525, 527, 528, 530, 531, 532, 534, 535, 537, 538, 539, 541, 542, 544, 545, 546, 548, 549, 551, 552, 553, 554, 555, 556, 557, 560, 562, 563, 565, 566, 567, 569, 570, 572, 573, 574, 577, 578, 579, 581, 582, 584, 585, 586, 588, 589, 591, 592, 593, 596, 597, 598, 601, 602, 603, 606, 607, 608, 610, 611, 613, 614, 615, 618, 619, 620, 622, 623, 625, 626, 627, 630, 631, 632, 634, 635, 637, 638, 639, 641, 642, 644, 645, 646, 649, 650, 651, 653, 654, 656, 657, 658, 661, 662, 663, 665, 666, 668, 669, 670, 672, 673, 675, 676, 677, 679, 680, 682, 683, 684, 687, 688, 689, 692, 693, 694, 697, 698, 699, 701, 702, 704, 705, 706, 708, 709, 711, 712, 713, 715, 716, 718, 719, 720, 722, 723, 725, 726, 727, 730, 731, 732, 734, 735, 737, 738, 739, 742, 743, 744, 747, 748, 749, 752, 753, 754, 756, 757, 759, 760, 761, 764, 765, 766, 768, 769, 771, 772, 773, 776, 777] (fun _ => by kernel_rfl) [767, 774]) (ob := fun s => (List.map (HandSHeadRun.getT s) [2, 3, 43, 45, 46, 48, 49, 50, 57, 58, 59, 60, 63, 70, 72, 73, 75, 76, 77, 78, 79, 82, 89, 91, 92, 94, 95, 96, 97, 98, 101, 108, 109, 110, 113, 120, 121, 122, 125, 132, 134, 135, 137, 138, 139, 140, 141, 144, 151, 152, 153, 156, 163, 164, 165, 168, 175, 177, 178, 180, 181, 182, 183, 184, 187, 188, 189, 190, 191, 192, 193, 194, 195, 197, 198, 200, 201, 202, 204, 205, 207, 208, 209, 211, 212, 214, 215, 216, 218, 219, 221, 222, 223, 225, 226, 228, 229, 230, 232, 233, 235, 236, 237, 240, 241, 242, 244, 245, 247, 248, 249, 251, 252, 254, 255, 256, 258, 259, 261, 262, 263, 266, 267, 275, 277, 278, 280, 281, 282, 284, 285, 287, 288, 289, 291, 292, 294, 295, 296, 298, 299, 301, 302, 303, 304, 305, 306, 307, 310, 312, 313, 315, 316, 317, 319, 320, 322, 323, 324, 327, 328, 329, 330, 332, 333, 335, 336, 337, 339, 340, 342, 343, 344, 346, 347, 349, 350, 351, 353, 354, 356, 357, 358, 361, 362, 363, 365, 366, 368, 369, 370, 373, 374, 375, 377, 378, 380, 381, 382, 384, 385, 387, 388, 389, 391, 392, 394, 395, 396, 399, 400, 401, 404, 405, 406, 408, 409, 411, 412, 413, 416, 417, 418, 421, 422, 423, 425, 426, 428, 429, 430, 432, 433, 435, 436, 437, 439, 440, 442, 443, 444, 447, 448, 449, 451, 452, 454, 455, 456, 459, 460, 461, 464, 465, 466, 468, 469, 471, 472, 473, 475, 476, 478, 479, 480, 482, 483, 485, 486, 487, 489, 490, 492, 493, 494, 497, 498, 499, 502, 503, 511, 513, 514, 516, 517, 518, 520, 521, 523, 524, 525, 527, 528, 530, 531, 532, 534, 535, 537, 538, 539, 541, 542, 544, 545, 546, 548, 549, 551, 552, 553, 554, 555, 556, 557, 560, 562, 563, 565, 566, 567, 569, 570, 572, 573, 574, 577, 578, 579, 581, 582, 584, 585, 586, 588, 589, 591, 592, 593, 596, 597, 598, 601, 602, 603, 606, 607, 608, 610, 611, 613, 614, 615, 618, 619, 620, 622, 623, 625, 626, 627, 630, 631, 632, 634, 635, 637, 638, 639, 641, 642, 644, 645, 646, 649, 650, 651, 653, 654, 656, 657, 658, 661, 662, 663, 665, 666, 668, 669, 670, 672, 673, 675, 676, 677, 679, 680, 682, 683, 684, 687, 688, 689, 692, 693, 694, 697, 698, 699, 701, 702, 704, 705, 706, 708, 709, 711, 712, 713, 715, 716, 718, 719, 720, 722, 723, 725, 726, 727, 730, 731, 732, 734, 735, 737, 738, 739, 742, 743, 744, 747, 748, 749, 752, 753, 754, 756, 757, 759, 760, 761, 764, 765, 766, 768, 769, 771, 772, 773, 776, 777], List.map (HandSHeadRun.getT s) [767, 774])) (M := 9000) (loose := HL.names) (d := HandSHeadRun.topDef (PySem.W.OpenLaw.row PySem.Challenge.rw_drumlay_k01_programs_refused).prog 115) (kwd := []) ?hob (fun w => byRow2 "special-get-raises" HL.runF HL.runT w) ?hdef ?hpd ?hkk ?hwr ?hk1 ?hok ?hba ?hw ?hc
  case hob => exact fun s => Prod.ext (List.map_congr_left fun a _ => HandSHeadRun.getT_eq s a) (List.map_congr_left fun a _ => HandSHeadRun.getT_eq s a)
  case hdef => kernel_rfl
  case hpd => kernel_rfl
  case hkk => kernel_rfl
  case hwr => rfl
  case hk1 => first | assumption | decide +kernel
  case hok => decide +kernel
  case hba => exact ⟨rfl, rfl, rfl, rfl, rfl, by decide +kernel⟩
  case hw => w_witness2
  k_fill
  refine DL.walk_tabs (law := PySem.Challenge.rw_drumlay_k01_programs_refused) (most := 63) (k := 11) (arg := "_law_script") (CC := fun _ => L2.CX0) ["law", "_law_doors"] rfl (by decide) rfl ⟨rfl, by decide, by decide⟩ ?hrec (fun w h Y => PySem.W.km_in_of Y) ?F fun _ _ _ _ _ z => z
  case hrec => exact (by decide +kernel)
  case F =>
    intro w mg fa h Y KX G hmg0 own
    have hmg : mg ("law" : PySem.Str) = some (.ref fa) := by
      have e : (HandSHeadRun.topDef (PySem.W.OpenLaw.row PySem.Challenge.rw_drumlay_k01_programs_refused).prog 115).name = ("law" : PySem.Str) := by kernel_rfl
      rw [← e]
      exact hmg0
    refine' DL.all_mk KX G hmg ?nf0 ?lf0 ?cf0 ?kf0 ?nf1 ?lf1 ?cf1 ?kf1 ?nf2 ?lf2 ?cf2 ?kf2 ?nf3 ?lf3 ?cf3 ?kf3 ?nf4 ?lf4 ?cf4 ?kf4 ?nf5 ?lf5 ?cf5 ?kf5 ?nf6 ?lf6 ?cf6 ?kf6 ?nf7 ?lf7 ?cf7 ?kf7 ?nf8 ?lf8 ?cf8 ?kf8 ?nf9 ?lf9 ?cf9 ?kf9 ?nf10 ?lf10 ?cf10 ?kf10 ?nf11 ?lf11 ?cf11 ?kf11 ?nf12 ?lf12 ?cf12 ?kf12 ?nf13 ?lf13 ?cf13 ?kf13 ?nf14 ?lf14 ?cf14 ?kf14 ?nf15 ?lf15 ?cf15 ?kf15 ?nf16 ?lf16 ?cf16 ?kf16 ?nf17 ?lf17 ?cf17 ?kf17 ?nf18 ?lf18 ?cf18 ?kf18 ?nf19 ?lf19 ?cf19 ?kf19 ?nf20 ?lf20 ?cf20 ?kf20 ?nf21 ?lf21 ?cf21 ?kf21 ?nf22 ?lf22 ?cf22 ?kf22 ?nf23 ?lf23 ?cf23 ?kf23 ?nf24 ?lf24 ?cf24 ?kf24 ?nf25 ?lf25 ?cf25 ?kf25 ?nf26 ?lf26 ?cf26 ?kf26 ?nf27 ?lf27 ?cf27 ?kf27 ?nf28 ?lf28 ?cf28 ?kf28 ?nf29 ?lf29 ?cf29 ?kf29 ?nf30 ?lf30 ?cf30 ?kf30 ?nf31 ?lf31 ?cf31 ?kf31 ?nf32 ?lf32 ?cf32 ?kf32 ?nf33 ?lf33 ?cf33 ?kf33 ?nf34 ?lf34 ?cf34 ?kf34 ?nf35 ?lf35 ?cf35 ?kf35 ?nf36 ?lf36 ?cf36 ?kf36 ?nf37 ?lf37 ?cf37 ?kf37 ?nf38 ?lf38 ?cf38 ?kf38 ?nf39 ?lf39 ?cf39 ?kf39 ?nf40 ?lf40 ?cf40 ?kf40 ?nf41 ?lf41 ?cf41 ?kf41 ?nf42 ?lf42 ?cf42 ?kf42 ?nf43 ?lf43 ?cf43 ?kf43 ?nf44 ?lf44 ?cf44 ?kf44 ?nCC ?nmC0 ?imC0 ?lmC0 ?cmC0 ?kmC0 ?nmC1 ?imC1 ?lmC1 ?cmC1 ?kmC1 ?nmC2 ?imC2 ?lmC2 ?cmC2 ?kmC2 ?nmC3 ?imC3 ?lmC3 ?cmC3 ?kmC3 ?pgC ?hdC ?poC ?saC ?mkC ?kcC ?zC_number ?zC_worths ?zC_said ?nCU ?nmU0 ?imU0 ?lmU0 ?cmU0 ?kmU0 ?nmU1 ?imU1 ?lmU1 ?cmU1 ?kmU1 ?nmU2 ?imU2 ?lmU2 ?cmU2 ?kmU2 ?nmU3 ?imU3 ?lmU3 ?cmU3 ?kmU3 ?nmU4 ?imU4 ?lmU4 ?cmU4 ?kmU4 ?pgU ?hdU ?poU ?saU ?mkU ?kcU ?zU_rows ?zU_laying ?zU_desk ?zU_row ?zU_now ?mBP ?mBL ?mBF ?mBG ?mBE ?mTM_ ?mOV ?mBT ?mDE ?b_ValueError ?iBP ?tBP ?iBL ?tBL ?iBF ?tBF ?iBG ?tBG ?iBE ?tBE ?iTM_ ?tTM_ ?iOV ?tOV ?iBT ?tBT ?iDE ?tDE ?bDE ?BF_hg ?BF_hk ?BF_hs ?BF_hd ?BF_ha ?BF_hn ?BF_ht ?BF_hm ?BF_sDE ?BF_sVE ?BF_s0 ?BF_s1 ?BF_s3 ?BF_s4 ?BF_s5 ?BF_s6 ?BF_s7 ?BF_n0 ?BF_n1 ?BF_n3 ?BF_n4 ?BF_n5 ?BF_n6 ?BF_n7 ?BF_rx ?BF_rk ?BF_rt ?de_sp ?de_rd ?de_fi ?BP_hg ?BP_hk ?BP_hs ?BP_hd ?BP_ha ?BP_hn ?BP_ht ?BP_hm ?BP_sDE ?BP_sVE ?BP_s1 ?BP_s2 ?BP_s3 ?BP_s4 ?BP_s5 ?BP_s6 ?BP_s7 ?BP_n1 ?BP_n2 ?BP_n3 ?BP_n4 ?BP_n5 ?BP_n6 ?BP_n7 ?BP_sa ?BP_rk ?BP_rt ?BP_wrow ?BP_wwhy ?BP_wat ?BP_wline ?BP_cl ?nxBP ?tyxBP ?lxBP ?cxBP ?kxBP ?BL_hg ?BL_hk ?BL_hs ?BL_hd ?BL_ha ?BL_hn ?BL_ht ?BL_hm ?BL_sDE ?BL_sVE ?BL_s0 ?BL_s2 ?BL_s3 ?BL_s4 ?BL_s5 ?BL_s6 ?BL_s7 ?BL_n0 ?BL_n2 ?BL_n3 ?BL_n4 ?BL_n5 ?BL_n6 ?BL_n7 ?BL_sa ?BL_rk ?BL_rt ?BL_wrow ?BL_wwhy ?BL_wat ?BL_wline ?BL_cl ?nxBL ?tyxBL ?lxBL ?cxBL ?kxBL ?cK ?c11 ?g11 ?g18 ?g7 ?g9 ?g10 ?cP ?nP ?cK0 ?c110 ?g110 ?g180 ?g70 ?g90 ?g100 ?cP0 ?nP0 ?ne0 ?b_len ?b_int ?b_range ?b_isinstance ?b_tuple ?b_list ?b_sorted ?b_sum ?b_max ?b_enumerate ?b_zip ?b_all ?b_bool ?b_str ?b_set ?b_min ?b_dict ?qW ?qR ?qN ?qF ?qL ?qC ?q2 ?q24 ?q3 ?q5 ?qG ?qS ?pD ?pL ?pK ?pE ?w_load ?u_load ?v_load ?w_add ?u_add ?v_add ?w_take ?u_take ?v_take ?w_store ?u_store ?v_store ?w_say ?u_say ?v_say ?w_test ?u_test ?v_test ?w_stop ?u_stop ?v_stop ?lo ?pW ?pWL ?pWK ?x_load ?x_add ?x_take ?x_store ?x_say ?x_test ?x_stop ?lo2 own
    (case nf0 => k_is)
    (case lf0 => k_is)
    (case cf0 => k_is)
    (case kf0 => k_is)
    (case nf1 => k_is)
    (case lf1 => k_is)
    (case cf1 => k_is)
    (case kf1 => k_is)
    (case nf2 => k_is)
    (case lf2 => k_is)
    (case cf2 => k_is)
    (case kf2 => k_is)
    (case nf3 => k_is)
    (case lf3 => k_is)
    (case cf3 => k_is)
    (case kf3 => k_is)
    (case nf4 => k_is)
    (case lf4 => k_is)
    (case cf4 => k_is)
    (case kf4 => k_is)
    (case nf5 => k_is)
    (case lf5 => k_is)
    (case cf5 => k_is)
    (case kf5 => k_is)
    (case nf6 => k_is)
    (case lf6 => k_is)
    (case cf6 => k_is)
    (case kf6 => k_is)
    (case nf7 => k_is)
    (case lf7 => k_is)
    (case cf7 => k_is)
    (case kf7 => k_is)
    (case nf8 => k_is)
    (case lf8 => k_is)
    (case cf8 => k_is)
    (case kf8 => k_is)
    (case nf9 => k_is)
    (case lf9 => k_is)
    (case cf9 => k_is)
    (case kf9 => k_is)
    (case nf10 => k_is)
    (case lf10 => k_is)
    (case cf10 => k_is)
    (case kf10 => k_is)
    (case nf11 => k_is)
    (case lf11 => k_is)
    (case cf11 => k_is)
    (case kf11 => k_is)
    (case nf12 => k_is)
    (case lf12 => k_is)
    (case cf12 => k_is)
    (case kf12 => k_is)
    (case nf13 => k_is)
    (case lf13 => k_is)
    (case cf13 => k_is)
    (case kf13 => k_is)
    (case nf14 => k_is)
    (case lf14 => k_is)
    (case cf14 => k_is)
    (case kf14 => k_is)
    (case nf15 => k_is)
    (case lf15 => k_is)
    (case cf15 => k_is)
    (case kf15 => k_is)
    (case nf16 => k_is)
    (case lf16 => k_is)
    (case cf16 => k_is)
    (case kf16 => k_is)
    (case nf17 => k_is)
    (case lf17 => k_is)
    (case cf17 => k_is)
    (case kf17 => k_is)
    (case nf18 => k_is)
    (case lf18 => k_is)
    (case cf18 => k_is)
    (case kf18 => k_is)
    (case nf19 => k_is)
    (case lf19 => k_is)
    (case cf19 => k_is)
    (case kf19 => k_is)
    (case nf20 => k_is)
    (case lf20 => k_is)
    (case cf20 => k_is)
    (case kf20 => k_is)
    (case nf21 => k_is)
    (case lf21 => k_is)
    (case cf21 => k_is)
    (case kf21 => k_is)
    (case nf22 => k_is)
    (case lf22 => k_is)
    (case cf22 => k_is)
    (case kf22 => k_is)
    (case nf23 => k_is)
    (case lf23 => k_is)
    (case cf23 => k_is)
    (case kf23 => k_is)
    (case nf24 => k_is)
    (case lf24 => k_is)
    (case cf24 => k_is)
    (case kf24 => k_is)
    (case nf25 => k_is)
    (case lf25 => k_is)
    (case cf25 => k_is)
    (case kf25 => k_is)
    (case nf26 => k_is)
    (case lf26 => k_is)
    (case cf26 => k_is)
    (case kf26 => k_is)
    (case nf27 => k_is)
    (case lf27 => k_is)
    (case cf27 => k_is)
    (case kf27 => k_is)
    (case nf28 => k_is)
    (case lf28 => k_is)
    (case cf28 => k_is)
    (case kf28 => k_is)
    (case nf29 => k_is)
    (case lf29 => k_is)
    (case cf29 => k_is)
    (case kf29 => k_is)
    (case nf30 => k_is)
    (case lf30 => k_is)
    (case cf30 => k_is)
    (case kf30 => k_is)
    (case nf31 => k_is)
    (case lf31 => k_is)
    (case cf31 => k_is)
    (case kf31 => k_is)
    (case nf32 => k_is)
    (case lf32 => k_is)
    (case cf32 => k_is)
    (case kf32 => k_is)
    (case nf33 => k_is)
    (case lf33 => k_is)
    (case cf33 => k_is)
    (case kf33 => k_is)
    (case nf34 => k_is)
    (case lf34 => k_is)
    (case cf34 => k_is)
    (case kf34 => k_is)
    (case nf35 => k_is)
    (case lf35 => k_is)
    (case cf35 => k_is)
    (case kf35 => k_is)
    (case nf36 => k_is)
    (case lf36 => k_is)
    (case cf36 => k_is)
    (case kf36 => k_is)
    (case nf37 => k_is)
    (case lf37 => k_is)
    (case cf37 => k_is)
    (case kf37 => k_is)
    (case nf38 => k_is)
    (case lf38 => k_is)
    (case cf38 => k_is)
    (case kf38 => k_is)
    (case nf39 => k_is)
    (case lf39 => k_is)
    (case cf39 => k_is)
    (case kf39 => k_is)
    (case nf40 => k_is)
    (case lf40 => k_is)
    (case cf40 => k_is)
    (case kf40 => k_is)
    (case nf41 => k_is)
    (case lf41 => k_is)
    (case cf41 => k_is)
    (case kf41 => k_is)
    (case nf42 => k_is)
    (case lf42 => k_is)
    (case cf42 => k_is)
    (case kf42 => k_is)
    (case nf43 => k_is)
    (case lf43 => k_is)
    (case cf43 => k_is)
    (case kf43 => k_is)
    (case nf44 => k_is)
    (case lf44 => k_is)
    (case cf44 => k_is)
    (case kf44 => k_is)
    (case nCC => k_is)
    (case nmC0 => k_is)
    (case imC0 => k_is)
    (case lmC0 => k_is)
    (case cmC0 => k_is)
    (case kmC0 => k_is)
    (case nmC1 => k_is)
    (case imC1 => k_is)
    (case lmC1 => k_is)
    (case cmC1 => k_is)
    (case kmC1 => k_is)
    (case nmC2 => k_is)
    (case imC2 => k_is)
    (case lmC2 => k_is)
    (case cmC2 => k_is)
    (case kmC2 => k_is)
    (case nmC3 => k_is)
    (case imC3 => k_is)
    (case lmC3 => k_is)
    (case cmC3 => k_is)
    (case kmC3 => k_is)
    (case pgC => k_is)
    (case hdC => k_is)
    (case poC => k_is)
    (case saC => k_is)
    (case mkC => k_is)
    (case kcC => k_is)
    (case zC_number => k_is)
    (case zC_worths => k_is)
    (case zC_said => k_is)
    (case nCU => k_is)
    (case nmU0 => k_is)
    (case imU0 => k_is)
    (case lmU0 => k_is)
    (case cmU0 => k_is)
    (case kmU0 => k_is)
    (case nmU1 => k_is)
    (case imU1 => k_is)
    (case lmU1 => k_is)
    (case cmU1 => k_is)
    (case kmU1 => k_is)
    (case nmU2 => k_is)
    (case imU2 => k_is)
    (case lmU2 => k_is)
    (case cmU2 => k_is)
    (case kmU2 => k_is)
    (case nmU3 => k_is)
    (case imU3 => k_is)
    (case lmU3 => k_is)
    (case cmU3 => k_is)
    (case kmU3 => k_is)
    (case nmU4 => k_is)
    (case imU4 => k_is)
    (case lmU4 => k_is)
    (case cmU4 => k_is)
    (case kmU4 => k_is)
    (case pgU => k_is)
    (case hdU => k_is)
    (case poU => k_is)
    (case saU => k_is)
    (case mkU => k_is)
    (case kcU => k_is)
    (case zU_rows => k_is)
    (case zU_laying => k_is)
    (case zU_desk => k_is)
    (case zU_row => k_is)
    (case zU_now => k_is)
    (case mBP => k_is)
    (case mBL => k_is)
    (case mBF => k_is)
    (case mBG => k_is)
    (case mBE => k_is)
    (case mTM_ => k_is)
    (case mOV => k_is)
    (case mBT => k_is)
    (case mDE => k_is)
    (case b_ValueError => k_is)
    (case iBP => k_is)
    (case tBP => k_is)
    (case iBL => k_is)
    (case tBL => k_is)
    (case iBF => k_is)
    (case tBF => k_is)
    (case iBG => k_is)
    (case tBG => k_is)
    (case iBE => k_is)
    (case tBE => k_is)
    (case iTM_ => k_is)
    (case tTM_ => k_is)
    (case iOV => k_is)
    (case tOV => k_is)
    (case iBT => k_is)
    (case tBT => k_is)
    (case iDE => k_is)
    (case tDE => k_is)
    (case bDE => k_is)
    (case BF_hg => k_is)
    (case BF_hk => k_is)
    (case BF_hs => k_is)
    (case BF_hd => k_is)
    (case BF_ha => k_is)
    (case BF_hn => k_is)
    (case BF_ht => k_is)
    (case BF_hm => k_is)
    (case BF_sDE => k_is)
    (case BF_sVE => k_is)
    (case BF_s0 => k_is)
    (case BF_s1 => k_is)
    (case BF_s3 => k_is)
    (case BF_s4 => k_is)
    (case BF_s5 => k_is)
    (case BF_s6 => k_is)
    (case BF_s7 => k_is)
    (case BF_n0 => decide)
    (case BF_n1 => decide)
    (case BF_n3 => decide)
    (case BF_n4 => decide)
    (case BF_n5 => decide)
    (case BF_n6 => decide)
    (case BF_n7 => decide)
    (case BF_rx => k_exc)
    (case BF_rk => k_is)
    (case BF_rt => k_is)
    (case de_sp => k_is)
    (case de_rd => k_is)
    (case de_fi => k_is)
    (case BP_hg => k_is)
    (case BP_hk => k_is)
    (case BP_hs => k_is)
    (case BP_hd => k_is)
    (case BP_ha => k_is)
    (case BP_hn => k_is)
    (case BP_ht => k_is)
    (case BP_hm => k_is)
    (case BP_sDE => k_is)
    (case BP_sVE => k_is)
    (case BP_s1 => k_is)
    (case BP_s2 => k_is)
    (case BP_s3 => k_is)
    (case BP_s4 => k_is)
    (case BP_s5 => k_is)
    (case BP_s6 => k_is)
    (case BP_s7 => k_is)
    (case BP_n1 => decide)
    (case BP_n2 => decide)
    (case BP_n3 => decide)
    (case BP_n4 => decide)
    (case BP_n5 => decide)
    (case BP_n6 => decide)
    (case BP_n7 => decide)
    (case BP_sa => k_is)
    (case BP_rk => k_is)
    (case BP_rt => k_is)
    (case BP_wrow => k_is)
    (case BP_wwhy => k_is)
    (case BP_wat => k_is)
    (case BP_wline => k_is)
    (case BP_cl => exact ⟨_, _, _, _, _, _, _, _, _, _, _, _, _, _, _, rfl, rfl⟩)
    (case nxBP => k_is)
    (case tyxBP => k_is)
    (case lxBP => k_is)
    (case cxBP => k_is)
    (case kxBP => k_is)
    (case BL_hg => k_is)
    (case BL_hk => k_is)
    (case BL_hs => k_is)
    (case BL_hd => k_is)
    (case BL_ha => k_is)
    (case BL_hn => k_is)
    (case BL_ht => k_is)
    (case BL_hm => k_is)
    (case BL_sDE => k_is)
    (case BL_sVE => k_is)
    (case BL_s0 => k_is)
    (case BL_s2 => k_is)
    (case BL_s3 => k_is)
    (case BL_s4 => k_is)
    (case BL_s5 => k_is)
    (case BL_s6 => k_is)
    (case BL_s7 => k_is)
    (case BL_n0 => decide)
    (case BL_n2 => decide)
    (case BL_n3 => decide)
    (case BL_n4 => decide)
    (case BL_n5 => decide)
    (case BL_n6 => decide)
    (case BL_n7 => decide)
    (case BL_sa => k_is)
    (case BL_rk => k_is)
    (case BL_rt => k_is)
    (case BL_wrow => k_is)
    (case BL_wwhy => k_is)
    (case BL_wat => k_is)
    (case BL_wline => k_is)
    (case BL_cl => exact ⟨_, _, _, _, _, _, _, _, _, _, _, _, _, _, _, rfl, rfl⟩)
    (case nxBL => k_is)
    (case tyxBL => k_is)
    (case lxBL => k_is)
    (case cxBL => k_is)
    (case kxBL => k_is)
    (case cK => k_is)
    (case c11 => exact rfl)
    (case g11 => exact rfl)
    (case g18 => exact rfl)
    (case g7 => exact rfl)
    (case g9 => exact rfl)
    (case g10 => exact rfl)
    (case cP => decide)
    (case nP => first | k_is | rfl | decide +kernel)
    (case cK0 => k_is)
    (case c110 => exact rfl)
    (case g110 => exact rfl)
    (case g180 => exact rfl)
    (case g70 => exact rfl)
    (case g90 => exact rfl)
    (case g100 => exact rfl)
    (case cP0 => decide)
    (case nP0 => first | k_is | rfl | decide +kernel)
    (case ne0 => decide)
    (case b_len => k_is)
    (case b_int => k_is)
    (case b_range => k_is)
    (case b_isinstance => k_is)
    (case b_tuple => k_is)
    (case b_list => k_is)
    (case b_sorted => k_is)
    (case b_sum => k_is)
    (case b_max => k_is)
    (case b_enumerate => k_is)
    (case b_zip => k_is)
    (case b_all => k_is)
    (case b_bool => k_is)
    (case b_str => k_is)
    (case b_set => k_is)
    (case b_min => k_is)
    (case b_dict => k_is)
    (case qW => k_is)
    (case qR => k_is)
    (case qN => k_is)
    (case qF => k_is)
    (case qL => k_is)
    (case qC => k_is)
    (case q2 => k_is)
    (case q24 => k_is)
    (case q3 => k_is)
    (case q5 => k_is)
    (case qG => k_is)
    (case qS => k_is)
    (case pD => k_is)
    (case pL => k_is)
    (case pK => k_keys)
    (case pE => exact rfl)
    (case w_load => k_is)
    (case u_load => k_is)
    (case v_load => exact (.cons ⟨_, rfl⟩ (.cons ⟨_, rfl⟩ .nil)))
    (case w_add => k_is)
    (case u_add => k_is)
    (case v_add => exact (.cons ⟨_, rfl⟩ (.cons ⟨_, rfl⟩ .nil)))
    (case w_take => k_is)
    (case u_take => k_is)
    (case v_take => exact (.cons ⟨_, rfl⟩ (.cons ⟨_, rfl⟩ .nil)))
    (case w_store => k_is)
    (case u_store => k_is)
    (case v_store => exact (.cons ⟨_, rfl⟩ (.cons ⟨_, rfl⟩ .nil)))
    (case w_say => k_is)
    (case u_say => k_is)
    (case v_say => exact (.cons ⟨_, rfl⟩ .nil))
    (case w_test => k_is)
    (case u_test => k_is)
    (case v_test => exact (.cons ⟨_, rfl⟩ (.cons ⟨_, rfl⟩ .nil)))
    (case w_stop => k_is)
    (case u_stop => k_is)
    (case v_stop => exact .nil)
    (case lo => decide)
    (case pW => k_is)
    (case pWL => k_is)
    (case pWK => k_keys)
    (case x_load => k_is)
    (case x_add => k_is)
    (case x_take => k_is)
    (case x_store => k_is)
    (case x_say => k_is)
    (case x_test => k_is)
    (case x_stop => k_is)
    (case lo2 => decide)
