import PyProof.Rows.All
import Wide.All
import OpenK.AllK
import Wide.FinOn
import HandS.ForMost
import HandS.Conv
import HandS.Zip
import HandS.TupAny
import HandS.IsInst
import HandS.SortRule
import HandS.DictTup
import HandS.WrittenGet
import PySem.Challenge.RW_drumlay_k17_whole_turned_and_numbered_ot
import KE.GoesEnum
import KE.GoesMore
import HandS.Strs
import HandS.SetFor
import HandS.SortInts
import HandS.Deep
import HandS.TupSets
import KE.GoesZip
import HandS.ExcIs
import HandS.Lambda
import HandS.SetBool
import KE.LtData
import HandS.List
import HandS.TupLe
import KE.KMinKey
import HandS.Star
import HandS.More
import HandS.Iter
import HandS.WordsExc
import HandS.ExcOwn
import HandS.Defaults
import KE.KDflt
import HandS.EndOwn
set_option Elab.async false
set_option linter.all false
set_option maxRecDepth 100000
set_option maxHeartbeats 4000000
namespace DL
open PySem L2
abbrev Frg := PySem.W.Frag
/-! ### heaps -/
theorem sz {n : Nat} (h : n ≤ 100000) : n ≤ sizeLine := Nat.le_trans h (by decide)
theorem szl {n : Nat} (h : n < 100000) : n < sizeLine := Nat.lt_of_lt_of_le h (by decide)
def But (d : Addr) (H H' : Hp) : Prop := ∀ a o, a ≠ d → H a = some o → H' a = some o
theorem But.refl (d : Addr) (H : Hp) : But d H H := fun _ _ _ h => h
theorem But.trans {d : Addr} {H H1 H2 : Hp} (a : But d H H1) (b : But d H1 H2) : But d H H2 := fun x o n h => b x o n (a x o n h)
theorem But.of {d : Addr} {H H' : Hp} (a : Same H H') : But d H H' := fun x o _ h => a x o h
abbrev Same1 := @L2.Same
theorem Same.new {H : Hp} {p : Addr} {o : HO} (h : H p = none) : Same H (upd H p o) := fun a u e => by
  rw [upd_ne (ne_of_none e h)]; exact e
theorem Same.mut {H H' : Hp} {p : Addr} {o : HO} (e : Same H H') (h : H p = none) : Same H (upd H' p o) := fun a u ha => by
  rw [upd_ne (ne_of_none ha h)]; exact e a u ha
theorem Same.get {H H' : Hp} (s : Same H H') {a : Addr} {o : HO} (h : H a = some o) : H' a = some o := s a o h
def DiceV (H : Hp) (d sa : Addr) : Prop := ∃ (i m r : Int), H d = some (.lst [.ref sa, .int i, .int m, .int r]) ∧ 0 ≤ i ∧ 0 ≤ m ∧ m < 2147483647
structure Ent (K : Frg) (H : Hp) (d sa : Addr) (ns : List Int) : Prop where
  dice : DiceV H d sa
  scr : SqL K H sa (ns.map V.int)
  len : ns.length ≤ 63
structure Dc (K : Frg) (H0 H : Hp) (d sa : Addr) (ns : List Int) : Prop where
  e0 : Ent K H0 d sa ns
  but : But d H0 H
  dice : DiceV H d sa
variable {K : Frg} {H0 H H' : Hp} {d sa : Addr} {ns : List Int}
theorem But.seq (b : But d H0 H) (dv : DiceV H0 d sa) (h : SqL K H0 sa (ns.map V.int)) : SqL K H sa (ns.map V.int) := by
  obtain ⟨i, m, r, z, _⟩ := dv
  rcases h with (h | ⟨o, h⟩) | h
  · refine .inl (.inl (b _ _ (fun e => ?_) h))
    subst e
    rw [z] at h
    have q : ([.ref sa, .int i, .int m, .int r] : List V) = ns.map V.int := by injection (Option.some.inj h)
    cases ns with
    | nil => cases q
    | cons x xs => have q2 := (List.cons.inj q).1; cases q2
  · refine .inl (.inr ⟨o, b _ _ (fun e => ?_) h⟩)
    subst e
    rw [z] at h; cases h
  · exact .inr h
theorem Dc.refl (e : Ent K H d sa ns) : Dc K H H d sa ns := ⟨e, But.refl _ _, e.dice⟩
theorem Dc.ent (c : Dc K H0 H d sa ns) : Ent K H d sa ns := ⟨c.dice, c.but.seq c.e0.dice c.e0.scr, c.e0.len⟩
theorem Dc.here (c : Dc K H0 H d sa ns) {p : Addr} (h : H p = none) : H0 p = none := by
  cases q : H0 p with
  | none => rfl
  | some o =>
    by_cases e : p = d
    · subst e
      obtain ⟨i, m, r, z, _⟩ := c.dice
      rw [z] at h; cases h
    · rw [c.but p o e q] at h; cases h
theorem Dc.ned (c : Dc K H0 H d sa ns) {p : Addr} (h : H0 p = none) : p ≠ d := fun e => by
  subst e
  obtain ⟨i, m, r, z, _⟩ := c.e0.dice
  rw [z] at h; cases h
theorem Dc.mut (c : Dc K H0 H d sa ns) {p : Addr} {o : HO} (h : H0 p = none) : Dc K H0 (upd H p o) d sa ns := by
  refine ⟨c.e0, fun a u n e => ?_, ?_⟩
  · rw [upd_ne (ne_of_none e h)]; exact c.but a u n e
  · obtain ⟨i, m, r, z, q⟩ := c.dice
    exact ⟨i, m, r, by rw [upd_ne (c.ned h).symm]; exact z, q⟩
theorem Dc.new (c : Dc K H0 H d sa ns) {p : Addr} {o : HO} (h : H p = none) : Dc K H0 (upd H p o) d sa ns := c.mut (c.here h)
theorem Dc.trans (c : Dc K H0 H d sa ns) (c2 : Dc K H H' d sa ns) : Dc K H0 H' d sa ns := ⟨c.e0, c.but.trans c2.but, c2.dice⟩
theorem Dc.same (c : Dc K H0 H d sa ns) (s : Same H H') : Dc K H0 H' d sa ns := by
  obtain ⟨i, m, r, z, q⟩ := c.dice
  exact ⟨c.e0, c.but.trans (But.of s), i, m, r, s _ _ z, q⟩
theorem Dc.roll (c : Dc K H0 H d sa ns) {i m r : Int} (h0 : 0 ≤ i) (h1 : 0 ≤ m) (h2 : m < 2147483647) : Dc K H0 (upd H d (.lst [.ref sa, .int i, .int m, .int r])) d sa ns :=
  ⟨c.e0, fun a u n e => by rw [upd_ne n]; exact c.but a u n e, ⟨i, m, r, upd_same, h0, h1, h2⟩⟩
def Kp (H H' : Hp) : Prop := ∀ a xs, H a = some (.tup xs) → H' a = some (.tup xs)
theorem Kp.refl (H : Hp) : Kp H H := fun _ _ h => h
theorem Kp.trans {H H1 H2 : Hp} (a : Kp H H1) (b : Kp H1 H2) : Kp H H2 := fun x o h => b x o (a x o h)
theorem Kp.same (s : Same H H') : Kp H H' := fun a xs h => s a _ h
theorem Kp.new {p : Addr} {o : HO} (h : H p = none) : Kp H (upd H p o) := Kp.same (Same.new h)
theorem Kp.lst {p : Addr} {o : HO} {ys : List V} (h : H p = some (.lst ys)) : Kp H (upd H p o) := fun a xs e => by
  rw [upd_ne (ne_of e h (by intro z; cases z))]; exact e
theorem Dc.kp (c : Dc K H0 H d sa ns) : Kp H0 H := fun a xs h => c.but a _ (by
  intro e; subst e
  obtain ⟨i, m, r, z, _⟩ := c.e0.dice
  rw [z] at h; cases h) h
@[elab_as_elim] theorem alloc {R : Hp → Prop} {H : Hp} {p : Addr} {o : HO} (hp : H p = none) (k : ∀ H', Same H H' → H' p = some o → R H') : R (upd H p o) := k _ (Same.new hp) upd_same
@[elab_as_elim] theorem change {R : Hp → Prop} {H : Hp} {p : Addr} {o : HO} (k : ∀ H', But p H H' → H' p = some o → R H') : R (upd H p o) := k _ (fun a u n e => by rw [upd_ne n]; exact e) upd_same
/-! ### one list read or written by place -/
theorem at0 {x : V} {xs : List V} : atI (x :: xs) 0 = some x := atI_nat (j := 0) rfl
theorem at1 {x y : V} {xs : List V} : atI (x :: y :: xs) 1 = some y := atI_nat (j := 1) rfl
theorem at2 {x y z : V} {xs : List V} : atI (x :: y :: z :: xs) 2 = some z := atI_nat (j := 2) rfl
theorem at3 {x y z u : V} {xs : List V} : atI (x :: y :: z :: u :: xs) 3 = some u := atI_nat (j := 3) rfl
theorem pg_tupK {X : Cx} {pos : Pos} (K : PySem.W.Frag) (hK : X.K = K) {es : List Expr} {k : Nat} {t : TGs} {n : Nat} (hc : X.calm = true) (h : PGs X es t)
    (hn : (assignEach es X.env).length = n := by rfl) (hst : (assignEach es X.env).findIdx? (·.1) = none := by rfl) : PG X (.Tuple es k pos) (gTup K n t) := hK ▸ pg_tup hc h hn hst
theorem upd_none {H : Hp} {p a : Addr} {o : HO} (h : upd H p o a = none) : H a = none := by
  by_cases e : a = p
  · subst e; rw [upd_same] at h; cases h
  · rwa [upd_ne e] at h
theorem range_elim {lo : Int} {n : Nat} {g : TG} {tb : TS} {D : Ends} {σ : L2.St} {H : Hp} (Pv : Nat → L2.St → Hp → Prop) (R : L2.St → Hp → Prop) (h0 : Pv 0 σ H) (key : ∀ σ H, R σ H → D.nx σ H)
    (hs : ∀ Nx : L2.St → Hp → Prop, (∀ σ H, R σ H → Nx σ H) → ∀ i σ H, i < n → Pv i σ H →
      g (.int (lo + i)) σ H fun σ2 H2 => tb { D with nx := Pv (i + 1), ct := Pv (i + 1), bk := Nx } σ2 H2) (hd : ∀ σ H, Pv n σ H → R σ H) :
    ∃ W : Nat → Nat → L2.St → Hp → Prop, (∃ m, W 0 m σ H) ∧ ∀ i m σ H, W i m σ H →
      ((Itr lo n).stop i H ∧ D.nx σ H) ∨ ((Itr lo n).go i H ∧ ∃ N : L2.St → Hp → Prop, (∀ σ' H', N σ' H' → ∃ m', m' < m ∧ W (i + 1) m' σ' H') ∧
        ∀ x H', (Itr lo n).yld i H x H' → g x σ H' fun σ2 H2 => tb { D with nx := N, ct := N, bk := D.nx } σ2 H2) := for_range Pv h0 (hs D.nx key) fun σ H h => key _ _ (hd _ _ h)
end DL
namespace DLR
open PySem PySem.Spec PyProof.Rows L2
/-! ### enumerate(a tuple) -/
def itO (a : Addr) : Obj := { cls := .type "tuple_iterator", data := .fields #[.ref a, .int 0 0] }
def enO (i : Addr) : Obj := { cls := .type "enumerate", data := .fields #[.none, .bool false, .ref i, rawInt 0, .none, .none] }
theorem made_enumT (a : Addr) (items : Array Value) :
    Meets (Builtin.«enumerate.__new__» ⟨[.type "enumerate", .ref a], []⟩) (fun _ R s => s.heap.IsTuple a items ∧
      R (.ok (.ret (.ref (s.heap.push (itO a)).objs.size))) { s with heap := (s.heap.push (itO a)).push (enO s.heap.objs.size) }) := by
  refine .of_wp fun prog w A R s h => ?_
  obtain ⟨hp, g, d, tk, os⟩ := s
  obtain ⟨h1, h⟩ := h
  have hs2 := sub_enumerate
  have it1 : ∀ {A' : Around} {E : Value → Shared → Prop} {Q : Value → Shared → Prop}, Q (.ref hp.objs.size) ⟨hp.push (itO a), g, d, tk, os⟩ →
      wpAny (model prog w) A' (pyIter (.ref a)) Q E ⟨hp, g, d, tk, os⟩ := fun q => (begins_tuple a items).iter prog w _ _ ⟨hp, g, d, tk, os⟩ _ h1 q
  wp_walk using it1
  refine wpAny_stack_any fun st => wpAny_pure ?_
  split
  · rename_i c _ _ _ _ _
    cases (c == Value.type "enumerate") <;> (wp_walk using it1; exact ⟨_, rfl, h⟩)
  · wp_walk using it1
    exact ⟨_, rfl, h⟩
section
variable {prog : Program} {w : World} {A : Around} {E : Value → Shared → Prop} {s : Shared}
theorem call_enumT {a : Addr} {items : Array Value} {Q : Value → Shared → Prop} (hT : s.heap.IsTuple a items)
    (h : ∀ h', IsEnum h' (s.heap.objs.size + 1) s.heap.objs.size 0 .none → h'.IsTupleIter s.heap.objs.size a 0 → (∀ b o, s.heap.get? b = some o → h'.get? b = some o) →
      Q (.ref (s.heap.objs.size + 1)) { s with heap := h' }) : wpAny (model prog w) A (call (.type "enumerate") [.ref a]) Q E s := by
  refine callType_new F.called_enumerate (by decide) (F.typeCall_enumerate_1 _) (F.newCall_enumerate_1 _)
    (fun obj => F.args_object_init_2 obj _) F.entry_enumerate_new (made_enumT a items) ⟨hT, ?_⟩
  have hz : (s.heap.push (itO a)).objs.size = s.heap.objs.size + 1 := Heap.size_push ..
  show _ ∧ _
  rw [hz]
  have he : IsEnum ((s.heap.push (itO a)).push (enO s.heap.objs.size)) (s.heap.objs.size + 1) s.heap.objs.size 0 .none := by
    have q := Heap.get?_push_size (s.heap.push (itO a)) (o := enO s.heap.objs.size) rfl
    rw [hz] at q
    exact q
  exact ⟨⟨_, he, rfl⟩, h _ he ⟨_, Heap.get?_push_of_some _ (Heap.get?_push_size _ rfl), rfl, rfl⟩
    fun b o x => Heap.get?_push_of_some _ (Heap.get?_push_of_some _ x)⟩
end
def IteT (K : PySem.W.Frag) (a : Addr) : It :=
  ⟨fun i H => ∃ (xs : List V) (x : V), SqT K H a xs ∧ xs[i]? = some x,
   fun i H v H' => ∃ T x, v = .ref T ∧ H T = none ∧ H' = upd H T (.tup [.int (i : Nat), x]) ∧ ∀ xs, SqT K H a xs → xs[i]? = some x,
   fun i H => ∃ xs : List V, SqT K H a xs ∧ xs.length ≤ i⟩
theorem turn_enumT {P : Program} {w : World} {K : PySem.W.Frag} {elts : List Expr} {kk : Nat} {tpos : Pos} (a e it : Addr) :
    Turn P w K (.Tuple elts kk tpos) (IteT K a) [e, it] e (fun i h => (∃ old, IsEnum h e it ((i : Nat) : Int) old) ∧ h.IsTupleIter it a i ∧ e ≠ it ∧ a ≠ e ∧ a ≠ it) where
  mem := by simp
  obj := fun i h st b hb => by
    obtain ⟨⟨old, he⟩, ⟨o, ho, hc, hd⟩, _⟩ := st
    rcases (show b = e ∨ b = it by simpa using hb) with z | z
    · rw [z]; exact ⟨_, he, fun v q => nomatch q⟩
    · rw [z]; exact ⟨o, ho, fun v q => by rw [hd] at q; cases q⟩
  keep := fun i h h' st k => let ⟨⟨old, he⟩, hi, z⟩ := st; ⟨⟨old, k e (by simp) _ he⟩, hi.at fun o q => k it (by simp) o q, z⟩
  item := by
    intro X hP hw hK hc i pins s σ H E I hf st hg
    subst hP hw hK
    obtain ⟨⟨old, he⟩, hit, hne, hae, hai⟩ := st
    obtain ⟨xs, x, hq, hx⟩ := hg
    obtain ⟨its, rv, p, hz⟩ := I.tuple hq
    obtain ⟨u, hu, ru⟩ := rv.get hx
    have hel : e < s.heap.objs.size := Heap.lt_size he
    have hil : it < s.heap.objs.size := by obtain ⟨_, q, _⟩ := hit; exact Heap.lt_size q
    have hlt : i < its.toArray.size := by
      have q := (List.getElem?_eq_some_iff.mp hu).1
      simpa using q
    refine wpAny_pyNext_enum_itemD (Draws.tuple (A := X.A.in1) (I.ok.hd hc) it a hai its.toArray) he ⟨hit, p⟩ hlt hne
      (by simp [hne, Ne.symm hae]) fun v h' tk hv ho hst' hT hsz hk => ?_
    have ev : v = u := by
      have q : its[i]? = some v := by simpa using hv
      rw [hu] at q
      exact (Option.some.inj q).symm
    subst ev
    refine ⟨_, rfl, wpAny_letOwnedTupleGo_enum (s := { s with heap := h', toks := tk + 1 }) ho fun h'' he' sb => ?_⟩
    have hT2 := (sb.2 _ (Nat.ne_of_gt hel)).trans hT
    have new : ObjOk X.prog X.w (upd H s.heap.objs.size (.tup [.int (i : Nat), x])) h'' s.heap.objs.size (.tup [.int (i : Nat), x]) :=
      ⟨by show 2 ≤ sizeLine; decide, [.int i tk, v], .cons ⟨_, rfl⟩ (.cons ru .nil), ⟨_, hT2, rfl, _, rfl⟩⟩
    have I1 : Inv X pins σ (upd H s.heap.objs.size (.tup [.int (i : Nat), x])) { s with heap := h'', toks := tk + 1 } :=
      I.turnedNew (ch := [e, it]) (fun b ob hb q =>
        (sb.2 b (fun z => hb (by simp [z]))).trans (hk b ob (fun z => hb (by simp [z])) (fun z => hb (by simp [z])) q)) hf (Nat.le_refl _) new
    refine ⟨.ref s.heap.objs.size, _, I1, rfl, ⟨_, x, rfl, I.hok.fresh (Nat.le_refl _), rfl, fun ys hy => by rw [I.tuple_inj hy hq]; exact hx⟩,
      ⟨⟨v, ?_⟩, hst'.1.at fun o q => (sb.2 it (Ne.symm hne)).trans q, hne, hae, hai⟩, fun b hb => ?_⟩
    · rw [show ((i + 1 : Nat) : Int) = (i : Int) + 1 by omega]
      exact he'
    · have hb' : b < s.heap.objs.size := by
        rcases (show b = e ∨ b = it by simpa using hb) with z | z
        · rw [z]; exact hel
        · rw [z]; exact hil
      rw [upd_ne (Nat.ne_of_lt hb')]
      exact (hf b hb).1
  done := by
    intro X hP hw hK hc i pins s σ H E I hf st hg
    subst hP hw hK
    obtain ⟨⟨old, he⟩, hit, hne, hae, hai⟩ := st
    obtain ⟨xs, hq, hx⟩ := hg
    obtain ⟨its, rv, p, hz⟩ := I.tuple hq
    obtain ⟨f0, f1, f2, f3, f4, f5⟩ := hf it (by simp)
    have hl := rv.length
    have hnone : its.toArray[i]? = none := by simp; omega
    have D : Draws X.prog X.w X.A.in1 it [it, a] 0 (fun _ _ => False) (fun _ h => h.IsTupleIter it a i ∧ h.IsTuple a its.toArray) :=
      { live := fun _ _ st => let ⟨o, ho, _⟩ := st.1; ⟨o, ho⟩
        frame := fun _ _ _ st hk => ⟨st.1.at fun o e => hk it (by simp) o e, st.2.at fun o e => hk a (by simp) o e⟩
        item := fun i s Q E hi => absurd hi (Nat.not_lt_zero _)
        done := fun s Q E st hE => wpAny_nextOf_tuple_end (I.ok.hd hc) st.1 st.2 hnone hE }
    exact wpAny_pyNext_enum_endD D he ⟨hit, p⟩ fun h' eb => ⟨rfl, I.turned (t' := s.toks) (fun b o hb q => eb b o hb q) f0 f1 f3 f4 f5⟩
  self := fun A i s Q E st h => let ⟨⟨_, he⟩, _⟩ := st; wpAny_pyIter_enum he h
def iEnumT (K : PySem.W.Frag) (ta : TA) : TI := fun σ H R => ta σ H fun vs H1 => ∃ a xs, vs = [.ref a] ∧ SqT K H1 a xs ∧ R (IteT K a) H1
theorem pi_enumT {X : Cx} {e : Expr} {ta : TA} {p pos tpos : Pos} {elts : List Expr} {kk : Nat} (hg : Gl X "enumerate") (hm : X.mg "enumerate" = none) (ha : PA X [e] ta)
    (hs : starEach [e] X.env = [(false, eval e X.env)] := by rfl) : PI X (.Tuple elts kk tpos) (.Call (.Name "enumerate" p) [e] [] pos) (iEnumT X.K ta) := by
  refine ⟨fun pins s σ H R I h => ?_⟩
  refine Call_ (ld_blt I hg hm boot_enumerate (PyProof.Rows.callWith_type1 (thn (ha.run pos pins s σ H _ I h) fun us s1 ⟨vs, H1, I1, r1, q1⟩ => ?_) hs rfl))
  obtain ⟨a, xs, ex, hq, q⟩ := q1
  subst ex
  cases r1 with
  | cons r rr =>
    cases rr
    cases r
    obtain ⟨its, rv, p', hz⟩ := I1.tuple hq
    have hal : a < s1.heap.objs.size := by obtain ⟨o, q, _⟩ := p'; exact Heap.lt_size q
    refine call_enumT p' fun h' he hit hk => wpAny_pyIter_enum he ?_
    have I2 : Inv X pins σ H1 { s1 with heap := h' } := I1.kept (t' := s1.toks) hk
    refine ⟨s1.heap.objs.size + 1, [s1.heap.objs.size + 1, s1.heap.objs.size], _, _, H1, rfl, I2, turn_enumT a (s1.heap.objs.size + 1) s1.heap.objs.size,
      ⟨⟨.none, he⟩, hit, Nat.succ_ne_self _, Nat.ne_of_lt (Nat.lt_succ_of_lt hal), Nat.ne_of_lt hal⟩, fun b hb => ?_, q⟩
    have hle : s1.heap.objs.size ≤ b := by
      rcases (show b = s1.heap.objs.size + 1 ∨ b = s1.heap.objs.size by simpa using hb) with z | z
      · rw [z]; exact Nat.le_succ _
      · rw [z]; exact Nat.le_refl _
    exact I1.fpOk hle (I1.hok.fresh hle)
theorem for_enumT {K : PySem.W.Frag} {a : Addr} {xs : List V} {g : TG} {tb : TS} {D : Ends} {σ : L2.St} {H : Hp} (Pv : Nat → L2.St → Hp → Prop) (h0 : Pv 0 σ H) (hq : ∀ i σ H, Pv i σ H → SqT K H a xs)
    (hs : ∀ i x T σ H, xs[i]? = some x → Pv i σ H → H T = none → g (.ref T) σ (upd H T (.tup [.int (i : Nat), x])) fun σ2 H2 => tb { D with nx := Pv (i + 1), ct := Pv (i + 1), bk := D.nx } σ2 H2)
    (hd : ∀ σ H, Pv xs.length σ H → D.nx σ H) :
    ∃ W : Nat → Nat → L2.St → Hp → Prop, (∃ m, W 0 m σ H) ∧ ∀ i m σ H, W i m σ H →
      ((IteT K a).stop i H ∧ D.nx σ H) ∨ ((IteT K a).go i H ∧ ∃ N : L2.St → Hp → Prop, (∀ σ' H', N σ' H' → ∃ m', m' < m ∧ W (i + 1) m' σ' H') ∧ ∀ x H', (IteT K a).yld i H x H' → g x σ H' fun σ2 H2 => tb { D with nx := N, ct := N, bk := D.nx } σ2 H2) := by
  refine ⟨fun i m σ H => m = xs.length - i ∧ i ≤ xs.length ∧ Pv i σ H, ⟨xs.length, rfl, Nat.zero_le _, h0⟩, ?_⟩
  rintro i m σ H ⟨rfl, hi, p⟩
  have qx := hq i σ H p
  by_cases hlt : i < xs.length
  · refine .inr ⟨⟨xs, _, qx, List.getElem?_eq_getElem hlt⟩, Pv (i + 1), fun σ' H' p' => ⟨_, by omega, rfl, hlt, p'⟩, fun v H' y => ?_⟩
    obtain ⟨T, x', rfl, hT, rfl, f1⟩ := y
    exact hs i x' T σ H (f1 xs qx) p hT
  · have e : i = xs.length := by omega
    subst e
    exact .inl ⟨⟨xs, qx, Nat.le_refl _⟩, hd σ H p⟩
/-! ### slices and sums of tuples, told by what holds behind -/
theorem cut_whole {xs : List V} {lo hi : Option Int} (h : HT.sIx xs.length 0 lo = 0 ∧ HT.sIx xs.length xs.length hi = xs.length) : cutV xs lo hi = xs := by
  unfold cutV
  rw [h.1, h.2, List.drop_zero, Nat.sub_zero, List.take_length]
def rSlS : V → Option Int → Option Int → Hp → VK → Prop := fun x lo hi H Q => ∃ a xs, x = .ref a ∧ H a = some (.tup xs) ∧
  ∀ t H', DL.Same1 H H' → H' t = some (.tup (cutV xs lo hi)) → Q (.ref t) H'
theorem sl_tupS {X : Cx} : SlR X rSlS := by
  intro pins s σ H x v vl vu lo hi sl Q I rx hs pl pu h
  obtain ⟨a, xs, rfl, ha, q⟩ := h
  exact sl_tupA pins s σ H _ v vl vu lo hi sl Q I rx hs pl pu ⟨a, xs, rfl, SqT.of ha, fun w => q a H (Same.refl _) (by rw [cut_whole w]; exact ha),
    fun _ p hp => q p _ (DL.Same.new hp) upd_same⟩
def rCatS : R2 := fun x y H Q => ∃ a b xs ys, x = .ref a ∧ y = .ref b ∧ H a = some (.tup xs) ∧ H b = some (.tup ys) ∧ xs.length + ys.length ≤ sizeLine ∧
  ∀ t H', DL.Same1 H H' → H' t = some (.tup (xs ++ ys)) → Q (.ref t) H'
theorem op_catS {X : Cx} : OpR X (binaryOp .Add) rCatS := by
  intro pins s σ H x y v u Q I rx ry h
  obtain ⟨a, b, xs, ys, rfl, rfl, ha, hb, hz, q⟩ := h
  refine op_catA pins s σ H _ _ v u Q I rx ry ⟨a, b, xs, ys, rfl, rfl, SqT.of ha, SqT.of hb, hz, fun e => q b H (Same.refl _) ?_, fun _ e => q a H (Same.refl _) ?_, fun _ _ p hp => q p _ (DL.Same.new hp) upd_same⟩
  · rw [e]; exact hb
  · rw [e, List.append_nil]; exact ha
/-! ### a method's call within a comprehension's block -/
theorem pe_bmK {X : Cx} {o e : Expr} {es : List Expr} {to : TE} {t : TA} {name : Str} {apos cpos : Pos} {T id : String} {r : V → List V → Hp → VK → Prop} (K0 : PySem.W.Frag) (hK : X.K = K0)
    (pa : PlainAttrs T) (slot : Slot T name id) (hty : typeOf (.builtin id) = pure (.type "method_descriptor")) (hm : MtR X id r) (ho : PE X o to) (ha : PA X (e :: es) t)
    (hbase : attributeBase o name X.env (eval o X.env) = eval o X.env := by rfl)
    (hfew : ((backTo cpos (starEach (e :: es) X.env)).all (fun x => !x.1) && (backToKw cpos (keywordEach [] X.env)).all (fun x => x.1.isSome)
      && decide ((e :: es).length + ([] : List Keyword).length + (if ([] : List Keyword).isEmpty then 0 else 1) < 30)) = true := by rfl)
    (hline : (apos.endLine == cpos.line) = true := by rfl)
    (hs : starEach (e :: es) X.env = (false, eval e X.env) :: starEach es X.env := by rfl) (hplain : (backTo cpos (starEach es X.env)).any (·.1) = false := by rfl) :
    PE X (.Call (.Attribute o name apos) (e :: es) [] cpos) (tBM K0 T r to t) := hK ▸ pe_bm pa slot hty hm ho ha hbase hfew hline hs hplain
theorem mt_indexK {X : Cx} (K0 : PySem.W.Frag) (hK : X.K = K0) : MtR X "list.index" (rIndex K0) := hK ▸ mt_index
def rLenK (K : PySem.W.Frag) : List V → Hp → VK → Prop := fun xs H Q => ∃ p ys, xs = [V.ref p] ∧ (SqL K H p ys ∨ SqT K H p ys) ∧ Q (.int ys.length) H
theorem call_lenK {X : Cx} (K0 : PySem.W.Frag) (hK : X.K = K0) : CallR X (.builtin "len") (rLenK K0) := hK ▸ call_len_seq
theorem ix_tupK {X : Cx} (K0 : PySem.W.Frag) (hK : X.K = K0) : IxR X (rIxT K0) := hK ▸ ix_tup
theorem ix_listK {X : Cx} (K0 : PySem.W.Frag) (hK : X.K = K0) : IxR X (rIxL K0) := hK ▸ ix_list
theorem ix_seqK {X : Cx} (K0 : PySem.W.Frag) (hK : X.K = K0) : IxR X (rIx K0) := hK ▸ ix_seq
theorem op_catTK {X : Cx} (K0 : PySem.W.Frag) (hK : X.K = K0) : OpR X (binaryOp .Add) (rCatT K0) := hK ▸ op_catT
theorem call_isiK2 {X : Cx} (K0 : PySem.W.Frag) (hK : X.K = K0) : CallR X (.builtin "isinstance") (rIsi K0) := hK ▸ call_isi
/-! ### xs[i] op= e of a list -/
def rGetL (K : PySem.W.Frag) : V → V → Hp → VK → Prop := fun x y H Q => ∃ (p : Addr) (xs : List V) (j : Nat) (v : V), x = .ref p ∧ y = .int (j : Int) ∧ SqL K H p xs ∧ xs[j]? = some v ∧ Q v H
theorem get_list {X : Cx} : PGet X (rGetL X.K) := by
  intro pins s σ H o i ov iv Q I ro ri h
  obtain ⟨p, xs, j, v, rfl, rfl, hq, he, q⟩ := h
  cases ro
  obtain ⟨t, rfl⟩ := ri
  obtain ⟨its, r, pl, hz⟩ := I.list hq
  obtain ⟨u, hu, ru⟩ := r.get he
  have hj := (List.getElem?_eq_some_iff.mp he).1
  have hn := line63
  exact wpAny_getItem_list pl.isList (by omega) (by omega) (x := u) (by simpa using hu) ⟨v, H, I, ru, q⟩
end DLR
namespace DL
open PySem L2
def top (i : Nat) : Stmt := PySem.Challenge.pw_drumlay_k17_whole_turned_and_numbered_ot.main.body.getD i (.Pass ⟨0, 0, 0, 0⟩)
structure Bt (mg : Str → Option Value) : Prop where
  len : mg "len" = none
  int : mg "int" = none
  range : mg "range" = none
  isinstance : mg "isinstance" = none
  tuple : mg "tuple" = none
  list : mg "list" = none
  sorted : mg "sorted" = none
  sum : mg "sum" = none
  max : mg "max" = none
  enumerate : mg "enumerate" = none
  zip : mg "zip" = none
  all : mg "all" = none
  bool : mg "bool" = none
  str : mg "str" = none
abbrev sDice : Stmt := top 73
abbrev sNext : Stmt := top 74
def spDice (K : Frg) : Sp := fun vs H Q _ => ∃ (sa : Addr) (ns : List Int), vs = [.ref sa] ∧ SqL K H sa (ns.map V.int) ∧ ns.length ≤ 63 ∧
  ∀ p H', Same H H' → H p = none → Ent K H' p sa ns → Q (.ref p) H'
def spNext (K : Frg) : Sp := fun vs H Q _ => ∃ (d sa : Addr) (ns : List Int) (many : Int), vs = [.ref d, .int many] ∧ Ent K H d sa ns ∧ 0 < many ∧ many < 1073741824 ∧
  ∀ n H', 0 ≤ n → n < many → Dc K H H' d sa ns → Q (.int n) H'
section
variable {P : Program} {w : World} {K : PySem.W.Frag} {mg : Str → Option Value} {base : Heap}
theorem scDice : FnScope ["_law_script", "_law_mixed_here", "_law_cell"] ["_law_script"] (defScope sDice) := ⟨rfl, rfl, rfl, by decide +kernel, rfl, by decide +kernel, by decide +kernel⟩
theorem ok_dice {f : Addr} {fd : FuncData} (F : Fun K "_law_dice" "_law_dice" sDice f fd) (T : Bt mg) : FnOk P w K mg base CX0 1 f fd ["_law_script"] (spDice K) := by
  refine F.ok scDice (fun vs H Q E h => ?_) (fun cdv A outer s H vs Q E hr h => ?_)
  · obtain ⟨sa, ns, rfl, _⟩ := h
    rfl
  · obtain ⟨sa, ns, rfl, hS, hlen, k⟩ := h
    refine ⟨_, pss_cons (ps_set (i := 1) scDice.nd rfl (Or.inl rfl) pe_int)
      (pss_cons (ps_for PassesOwn.never rfl (pi_list (pv 0)) (pg_name (i := 2) scDice.nd rfl (Or.inl rfl))
        (pss_one (ps_set (i := 1) scDice.nd rfl (Or.inl rfl) (pe_op op_mod (pe_op op_add (pe_op op_add (pe_op op_mul (pv 1) pe_int) (pe_op op_mul (pe_op op_mod (pv 2) pe_int) pe_int)) pe_int) pe_int))))
      (pss_one (ps_ret (pe_lst (pa_cons (pv 0) (pa_cons pe_int (pa_cons (pe_op op_mul (pv 1) (pe_callTy call_int1 (by rfl) T.int (by decide +kernel)
        (pa_cons (pe_cmpR op_gt (pe_callB call_len_seq (by rfl) T.len PySem.boot_len (pa_cons (pv 0) pa_nil)) pe_int (nomark _)) pa_nil))) (pa_cons pe_int pa_nil)))))))), ?_⟩
    refine ⟨_, rfl, sa, rfl, ⟨_, hS⟩, for_list (K := K) (a := sa) (xs := ns.map V.int) (fun i σ H' => ∃ (m : Int) (v : Option V), σ = [some (.ref sa), some (.int m), v] ∧ H' = H ∧ 0 ≤ m ∧ m < 2147483647)
      ⟨0, none, rfl, rfl, by decide, by decide⟩ (fun i σ H' _ ⟨_, _, _, e, _⟩ => by rw [e]; exact hS) ?_ ?_⟩
    · rintro i y σ H' hi ⟨m, v, rfl, rfl, h0, h1⟩
      obtain ⟨u, rfl⟩ : ∃ u, y = V.int u := by
        rw [List.getElem?_map] at hi
        cases e : ns[i]? with
        | none => rw [e] at hi; cases hi
        | some u => rw [e] at hi; exact ⟨u, (Option.some.inj hi).symm⟩
      refine ⟨_, rfl, _, _, rfl, rfl, .inl ⟨by omega, by omega⟩, _, rfl, _, _, rfl, rfl, (by show (0 : Int) < 2147483647; decide), _, _, rfl, rfl, .inl ⟨by omega, by omega⟩, _, _, rfl, rfl, _, _, rfl, rfl, _, _, rfl, rfl, (by show (0 : Int) < 2147483647; decide), ?_⟩
      exact ⟨_, _, rfl, rfl, Int.emod_nonneg _ (by decide), Int.emod_lt_of_pos _ (by decide)⟩
    · rintro σ H' ⟨m, v, rfl, rfl, h0, h1⟩
      refine ⟨_, rfl, _, rfl, _, rfl, sa, _, rfl, .inl hS, _, _, rfl, rfl, .inr ⟨_, rfl, ?_⟩⟩
      refine ⟨_, _, rfl, rfl, .inl ⟨by omega, by omega⟩, (by show 4 ≤ sizeLine; decide), fun p hp => ?_⟩
      have hns : (List.map V.int ns).length = ns.length := List.length_map _
      exact k p _ (Same.new hp) hp ⟨⟨_, _, _, upd_same, by decide, by split <;> omega, by split <;> omega⟩, (Same.new hp).seq hS, hlen⟩
theorem scNext : FnScope ["_law_dice_here", "_law_many", "_law_found", "_law_cell"] ["_law_dice_here", "_law_many"] (defScope sNext) := ⟨rfl, rfl, rfl, by decide +kernel, rfl, by decide +kernel, by decide +kernel⟩
theorem ok_next {f : Addr} {fd : FuncData} (F : Fun K "_law_next" "_law_next" sNext f fd) (T : Bt mg) : FnOk P w K mg base CX0 1 f fd ["_law_dice_here", "_law_many"] (spNext K) := by
  refine F.ok scNext (fun vs H Q E h => ?_) (fun cdv A outer s H vs Q E hr h => ?_)
  · obtain ⟨d, sa, ns, many, rfl, _⟩ := h
    rfl
  · obtain ⟨d, sa, ns, many, rfl, hE, hm0, hm1, k⟩ := h
    obtain ⟨⟨i, m, r, hd, hi0, hmx, hmy⟩, hS, hlen⟩ := id hE
    have C0 := Dc.refl hE
    refine ⟨_, pss_cons (ps_if (pt_cmpR op_gt (pe_ix ix_list (pv 0) pe_int (fun _ _ => rfl)) pe_int (nomark _))
        (pss_cons (ps_set (i := 2) scNext.nd rfl (Or.inl rfl) (pe_op op_mod (pe_ix ix_list (pv 0) pe_int (fun _ _ => rfl)) (pv 1)))
        (pss_cons (ps_asg (pe_op op_fdiv (pe_ix ix_list (pv 0) pe_int (fun _ _ => rfl)) (pv 1)) (pg_sub (pv 0) pe_int set_list))
        (pss_one (ps_ret (pv 2))))) pss_nil)
      (pss_cons (ps_asg (pe_op op_add (pe_ix ix_list (pv 0) pe_int (fun _ _ => rfl)) pe_int) (pg_sub (pv 0) pe_int set_list))
      (pss_cons (ps_if (pt_cmpR op_le (pe_ix ix_list (pv 0) pe_int (fun _ _ => rfl)) (pe_callB call_len_seq (by rfl) T.len PySem.boot_len (pa_cons (pe_ix ix_list (pv 0) pe_int (fun _ _ => rfl)) pa_nil)) (nomark _))
        (pss_cons (ps_set (i := 3) scNext.nd rfl (Or.inl rfl) (pe_ix ix_list (pe_ix ix_list (pv 0) pe_int (fun _ _ => rfl)) (pe_op op_sub (pe_ix ix_list (pv 0) pe_int (fun _ _ => rfl)) pe_int) (fun _ _ => rfl)))
        (pss_cons (ps_asg (pe_ifExp (pt_cmpR op_ge (pv 3) (pe_op op_pow pe_int pe_int) (nomark _)) (pe_op op_fdiv (pv 3) (pv 1)) pe_int) (pg_sub (pv 0) pe_int set_list))
        (pss_one (ps_ret (pe_op op_mod (pv 3) (pv 1)))))) pss_nil)
      (pss_cons (ps_asg (pe_op op_mod (pe_op op_mul (pe_ix ix_list (pv 0) pe_int (fun _ _ => rfl)) pe_int) pe_int) (pg_sub (pv 0) pe_int set_list))
      (pss_one (ps_ret (pe_op op_mod (pe_op op_fdiv (pe_ix ix_list (pv 0) pe_int (fun _ _ => rfl)) pe_int) (pv 1))))))), ?_⟩
    refine ⟨_, rfl, d, _, _, _, rfl, rfl, SqL.of hd, at3, _, _, rfl, rfl, _, rfl, ite2 (fun c => ?_) (fun c => ?_)⟩
    · refine ⟨_, rfl, d, _, _, _, rfl, rfl, SqL.of hd, at3, _, rfl, _, _, rfl, rfl, hm0, ?_⟩
      refine ⟨_, rfl, d, _, _, _, rfl, rfl, SqL.of hd, at3, _, rfl, _, _, rfl, rfl, ⟨hm0, hm1⟩, _, rfl, d, _, _, 3, rfl, rfl, hd, rfl, ?_⟩
      exact ⟨_, rfl, k _ _ (Int.emod_nonneg _ (by omega)) (Int.emod_lt_of_pos _ hm0) (C0.roll hi0 hmx hmy)⟩
    · refine ⟨_, rfl, d, _, _, _, rfl, rfl, SqL.of hd, at1, _, _, rfl, rfl, _, rfl, d, _, _, 1, rfl, rfl, hd, rfl, ?_⟩
      have C1 : Dc K H (upd H d (.lst [.ref sa, .int (i + 1), .int m, .int r])) d sa ns := C0.roll (by omega) hmx hmy
      have h1 : (upd H d (.lst [.ref sa, .int (i + 1), .int m, .int r])) d = some (.lst [.ref sa, .int (i + 1), .int m, .int r]) := upd_same
      have hS1 := C1.ent.scr
      revert C1 h1 hS1
      show _ → _ → _ → _
      generalize hH1 : (upd H d (.lst [.ref sa, .int (i + 1), .int m, .int r])) = H1
      intro C1 h1 hS1
      have hH1' : upd H d (.lst (List.set [V.ref sa, .int i, .int m, .int r] 1 (.int (i + 1)))) = H1 := hH1
      rw [hH1']
      refine ⟨_, rfl, d, _, _, _, rfl, rfl, SqL.of h1, at1, _, rfl, d, _, _, _, rfl, rfl, SqL.of h1, at0, sa, _, rfl, .inl hS1, _, _, rfl, rfl, _, rfl, ite2 (fun c => ?_) (fun c => ?_)⟩
      · have c : i + 1 ≤ ((ns.map V.int).length : Int) := of_decide_eq_true c
        rw [List.length_map] at c
        obtain ⟨j, hj⟩ : ∃ j : Nat, i = (j : Int) := ⟨i.toNat, by omega⟩
        have hjl : j < ns.length := by omega
        have hat : atI (ns.map V.int) (i + 1 - 1) = some (.int ns[j]) := by
          have e : i + 1 - 1 = (j : Int) := by omega
          rw [e]
          refine atI_nat ?_
          rw [List.getElem?_map, List.getElem?_eq_getElem hjl]
          rfl
        refine ⟨_, rfl, d, _, _, _, rfl, rfl, SqL.of h1, at0, _, rfl, d, _, _, _, rfl, rfl, SqL.of h1, at1, _, _, rfl, rfl, sa, _, _, _, rfl, rfl, hS1, hat, ?_⟩
        refine ⟨_, rfl, _, _, rfl, rfl, ⟨by decide, by decide, by decide⟩, _, _, rfl, rfl, _, rfl, ite2 (fun c2 => ?_) (fun c2 => ?_)⟩
        · refine ⟨_, rfl, _, rfl, _, _, rfl, rfl, ⟨hm0, hm1⟩, _, rfl, d, _, _, 3, rfl, rfl, h1, rfl, ?_⟩
          exact ⟨_, rfl, _, rfl, _, _, rfl, rfl, hm0, k _ _ (Int.emod_nonneg _ (by omega)) (Int.emod_lt_of_pos _ hm0) (C1.roll (by omega) hmx hmy)⟩
        · refine ⟨_, rfl, d, _, _, 3, rfl, rfl, h1, rfl, ?_⟩
          exact ⟨_, rfl, _, rfl, _, _, rfl, rfl, hm0, k _ _ (Int.emod_nonneg _ (by omega)) (Int.emod_lt_of_pos _ hm0) (C1.roll (by omega) hmx hmy)⟩
      · refine ⟨_, rfl, d, _, _, _, rfl, rfl, SqL.of h1, at2, _, _, rfl, rfl, .inl ⟨by omega, by omega⟩, _, _, rfl, rfl, (by show (0 : Int) < 2147483647; decide), _, rfl, d, _, _, 2, rfl, rfl, h1, rfl, ?_⟩
        refine ⟨_, rfl, d, _, _, _, rfl, rfl, SqL.of upd_same, at2, _, _, rfl, rfl, ⟨by decide, by decide⟩, _, rfl, _, _, rfl, rfl, hm0, ?_⟩
        exact k _ _ (Int.emod_nonneg _ (by omega)) (Int.emod_lt_of_pos _ hm0) (C1.roll (by omega) (Int.emod_nonneg _ (by decide)) (Int.emod_lt_of_pos _ (by decide)))
end
end DL
namespace DL
open PySem L2
/-! ### data: what like compares -/
inductive D where
  | non | bl (b : Bool) | int (i : Int) | str (s : Str) | lst (l : List D) | tup (l : List D)
mutual
def At (H : Hp) : V → D → Prop
  | v, .non => v = .non
  | v, .bl b => v = .bl b
  | v, .int i => v = .int i
  | v, .str s => v = .str s
  | v, .lst ds => ∃ a vs, v = .ref a ∧ H a = some (.lst vs) ∧ Ats H vs ds
  | v, .tup ds => ∃ a vs, v = .ref a ∧ H a = some (.tup vs) ∧ Ats H vs ds
def Ats (H : Hp) : List V → List D → Prop
  | [], [] => True
  | v :: vs, d :: ds => At H v d ∧ Ats H vs ds
  | _, _ => False
end
mutual
def D.dep : D → Nat
  | .lst ds => depL ds + 1
  | .tup ds => depL ds + 1
  | _ => 0
def depL : List D → Nat
  | [] => 0
  | d :: ds => max d.dep (depL ds)
end
mutual
def D.fit : D → Prop
  | .lst ds => ds.length ≤ 100000 ∧ fitL ds
  | .tup ds => ds.length ≤ 100000 ∧ fitL ds
  | _ => True
def fitL : List D → Prop
  | [] => True
  | d :: ds => d.fit ∧ fitL ds
end
theorem fitL_iff : ∀ {ds : List D}, fitL ds ↔ ∀ x ∈ ds, x.fit
  | [] => by simp [fitL]
  | d :: ds => by simp [fitL, fitL_iff (ds := ds)]
theorem D.fit_of {x : D} {ds : List D} (hx : x = .lst ds ∨ x = .tup ds) (h : x.fit) : ds.length ≤ 100000 ∧ fitL ds := by
  rcases hx with rfl | rfl <;> simpa [D.fit] using h
theorem Ats.len {H : Hp} : ∀ {vs : List V} {ds : List D}, Ats H vs ds → vs.length = ds.length
  | [], [], _ => rfl
  | v :: vs, d :: ds, h => by
    have h : At H v d ∧ Ats H vs ds := by simpa [Ats] using h
    show vs.length + 1 = ds.length + 1
    rw [Ats.len h.2]
  | [], _ :: _, h => by simp [Ats] at h
  | _ :: _, [], h => by simp [Ats] at h
theorem Ats.get {H : Hp} : ∀ {vs : List V} {ds : List D} (i : Nat), Ats H vs ds → i < ds.length → ∃ v x, vs[i]? = some v ∧ ds[i]? = some x ∧ At H v x
  | [], [], i, _, hi => by simp at hi
  | v :: vs, d :: ds, 0, h, _ => by
    have h : At H v d ∧ Ats H vs ds := by simpa [Ats] using h
    exact ⟨v, d, rfl, rfl, h.1⟩
  | v :: vs, d :: ds, i + 1, h, hi => by
    have h : At H v d ∧ Ats H vs ds := by simpa [Ats] using h
    obtain ⟨u, x, h1, h2, h3⟩ := Ats.get i h.2 (by simpa using hi)
    exact ⟨u, x, by simpa using h1, by simpa using h2, h3⟩
  | [], _ :: _, i, h, _ => by simp [Ats] at h
  | _ :: _, [], i, h, _ => by simp [Ats] at h
theorem depL_get : ∀ {ds : List D} {i : Nat} {x : D}, ds[i]? = some x → x.dep ≤ depL ds
  | [], i, x, h => by simp at h
  | d :: ds, 0, x, h => by
    have e : d = x := by simpa using h
    subst e
    show d.dep ≤ max d.dep (depL ds)
    omega
  | d :: ds, i + 1, x, h => by
    have := depL_get (ds := ds) (i := i) (x := x) (by simpa using h)
    show x.dep ≤ max d.dep (depL ds)
    omega
def D.ty : D → String
  | .non => "NoneType" | .bl _ => "bool" | .int _ => "int" | .str _ => "str" | .lst _ => "list" | .tup _ => "tuple"
theorem At.ty {K : Frg} {H : Hp} {v : V} : ∀ {x : D}, At H v x → TyX K H v (.type x.ty)
  | .non, h => by
    have h : v = .non := by simpa [At] using h
    subst h; exact .base .non
  | .bl b, h => by
    have h : v = .bl b := by simpa [At] using h
    subst h; exact .base (.bl _)
  | .int i, h => by
    have h : v = .int i := by simpa [At] using h
    subst h; exact .base (.int _)
  | .str s, h => by
    have h : v = .str s := by simpa [At] using h
    subst h; exact .base (.str _)
  | .lst ds, h => by
    obtain ⟨a, vs, rfl, h, _⟩ : ∃ a vs, v = .ref a ∧ H a = some (.lst vs) ∧ Ats H vs ds := by simpa [At] using h
    exact .base (.lst h)
  | .tup ds, h => by
    obtain ⟨a, vs, rfl, h, _⟩ : ∃ a vs, v = .ref a ∧ H a = some (.tup vs) ∧ Ats H vs ds := by simpa [At] using h
    exact .base (.tup h)
theorem isi_go {K : Frg} {H : Hp} {v : V} {x : D} {c : String} {b : Bool} {Q : VK} (h : At H v x) (r : kitB x.ty c = some b) (q : Q (.bl b) H) : rIsi K [v, .ty c] H Q :=
  ⟨_, _, _, _, _, rfl, .ty _, h.ty, kit_ty r, q⟩
def spLike (K : Frg) (n : Nat) : Sp := fun vs H Q _ => ∃ (v u : V) (x : D), vs = [v, u] ∧ At H v x ∧ At H u x ∧ x.dep ≤ n ∧ x.fit ∧ Q (.bl true) H
section
variable {P : Program} {w : World} {K : PySem.W.Frag} {mg : Str → Option Value} {base : Heap}
theorem At.sq {K : Frg} {H : Hp} {v : V} {x : D} {ds : List D} (hx : x = .lst ds ∨ x = .tup ds) (h : At H v x) : ∃ a vs, v = .ref a ∧ (SqL K H a vs ∨ SqT K H a vs) ∧ Ats H vs ds := by
  rcases hx with rfl | rfl
  · obtain ⟨a, vs, rfl, h, z⟩ : ∃ a vs, v = .ref a ∧ H a = some (.lst vs) ∧ Ats H vs ds := by simpa [At] using h
    exact ⟨a, vs, rfl, .inl (SqL.of h), z⟩
  · obtain ⟨a, vs, rfl, h, z⟩ : ∃ a vs, v = .ref a ∧ H a = some (.tup vs) ∧ Ats H vs ds := by simpa [At] using h
    exact ⟨a, vs, rfl, .inr (SqT.of h), z⟩
theorem sq_ix {K : Frg} {H : Hp} {a : Addr} {vs : List V} {i : Nat} {v : V} {Q : VK} (h : SqL K H a vs ∨ SqT K H a vs) (e : vs[i]? = some v) (q : Q v H) : rIx K (.ref a) (.int (i : Int)) H Q := by
  rcases h with h | h
  · exact .inl ⟨a, vs, _, v, rfl, rfl, h, atI_nat e, q⟩
  · exact .inr (.inl ⟨a, vs, _, v, rfl, rfl, h, atI_nat e, q⟩)
theorem D.dep_of {x : D} {ds : List D} (hx : x = .lst ds ∨ x = .tup ds) : x.dep = depL ds + 1 := by
  rcases hx with rfl | rfl <;> rfl
abbrev spNo : Sp := fun _ _ _ _ => False
theorem ok_no {CX : CXT} {k : Nat} {f : Addr} {fd : FuncData} {ps : List Str} : FnOk P w K mg base CX k f fd ps spNo := ⟨fun _ _ _ _ h => h.elim, fun _ _ _ _ _ _ _ _ _ _ _ _ _ h => h.elim⟩
end
end DL
namespace DL
open PySem L2
/-! ### rows -/
inductive Row where
  | load (w n : Nat) | add (w n : Nat) | take (w n : Nat) | store (w n : Nat) | say (n : Nat) | test (a b : Nat) | stop
def rowVs : Row → List V
  | .load w n => [.str "load", .int (w : Int), .int (n : Int)]
  | .add w n => [.str "add", .int (w : Int), .int (n : Int)]
  | .take w n => [.str "take", .int (w : Int), .int (n : Int)]
  | .store w n => [.str "store", .int (w : Int), .int (n : Int)]
  | .say n => [.str "say", .int (n : Int)]
  | .test a b => [.str "test", .int (a : Int), .int (b : Int)]
  | .stop => [.str "stop"]
def Row.ok (W N : Nat) : Row → Prop
  | .load w n => w < W ∧ n < N
  | .add w n => w < W ∧ n < N
  | .take w n => w < W ∧ n < N
  | .store w n => w < W ∧ n < N
  | .say n => n < N
  | .test a b => a < N ∧ b < N
  | .stop => True
def Row.plain : Row → Prop
  | .test _ _ => False
  | .stop => False
  | _ => True
def Row.to (m : Nat) : Row → Row
  | .load w _ => .load w m
  | .add w _ => .add w m
  | .take w _ => .take w m
  | .store w _ => .store w m
  | .say _ => .say m
  | r => r
def isT (r : Row) : Nat := if decide ((rowVs r)[0]? = some (V.str "test")) = true then 1 else 0
def tests (rs : List Row) : Nat := (rs.map isT).sum
theorem isT_le (r : Row) : isT r ≤ 1 := by
  unfold isT
  split <;> decide
theorem isT_plain : ∀ {r : Row}, r.plain → isT r = 0
  | .load _ _, _ => (by decide +kernel : (if decide (some (V.str "load") = some (V.str "test")) = true then 1 else 0) = 0)
  | .add _ _, _ => (by decide +kernel : (if decide (some (V.str "add") = some (V.str "test")) = true then 1 else 0) = 0)
  | .take _ _, _ => (by decide +kernel : (if decide (some (V.str "take") = some (V.str "test")) = true then 1 else 0) = 0)
  | .store _ _, _ => (by decide +kernel : (if decide (some (V.str "store") = some (V.str "test")) = true then 1 else 0) = 0)
  | .say _, _ => (by decide +kernel : (if decide (some (V.str "say") = some (V.str "test")) = true then 1 else 0) = 0)
theorem isT_stop : isT .stop = 0 := (by decide +kernel : (if decide (some (V.str "stop") = some (V.str "test")) = true then 1 else 0) = 0)
theorem isT_to {r : Row} {m : Nat} (p : r.plain) : isT (r.to m) = 0 := by
  cases r <;> first | exact p.elim | exact isT_plain trivial
theorem tests_app : ∀ (a b : List Row), tests (a ++ b) = tests a + tests b
  | [], b => by unfold tests; simp
  | x :: a, b => by
    show isT x + tests (a ++ b) = isT x + tests a + tests b
    rw [tests_app a b]
    omega
theorem tests_cons (x : Row) (a : List Row) : tests (x :: a) = isT x + tests a := rfl
theorem tests_one {r : Row} : tests [r] = isT r := Nat.add_zero _
theorem tests_plain : ∀ {rs : List Row}, (∀ r ∈ rs, r.plain) → tests rs = 0
  | [], _ => rfl
  | x :: rs, h => by
    rw [tests_cons, isT_plain (h x List.mem_cons_self), tests_plain fun r hr => h r (List.mem_cons_of_mem _ hr)]
theorem Row.ok.mono {W N M : Nat} (h : N ≤ M) : ∀ {r : Row}, r.ok W N → r.ok W M := fun {r} k => by
  cases r <;> simp only [Row.ok] at * <;> omega
theorem Row.ok.to {W N m M : Nat} (hm : m < M) : ∀ {r : Row}, r.plain → r.ok W N → (r.to m).ok W M := fun {r} p k => by
  cases r <;> simp only [Row.ok, Row.to, Row.plain] at * <;> omega
theorem Row.vs_to {m : Nat} : ∀ {r : Row}, r.plain → rowVs (r.to m) = (rowVs r).dropLast ++ [V.int (m : Int)] := fun {r} p => by
  cases r <;> first | rfl | exact p.elim
theorem Row.vs_len (r : Row) : 1 ≤ (rowVs r).length ∧ (rowVs r).length ≤ 3 := by cases r <;> simp [rowVs]
def RowsAt (H : Hp) (bs : List Addr) (rs : List Row) : Prop := Paired (fun b r => H b = some (.tup (rowVs r))) bs rs
theorem RowsAt.kp {H H' : Hp} {bs : List Addr} {rs : List Row} (h : RowsAt H bs rs) (k : Kp H H') : RowsAt H' bs rs := Paired.mapP h fun _ _ q => k _ _ q
theorem Paired.app {α β : Type} {F : α → β → Prop} : ∀ {a : List α} {b : List β} {c : List α} {d : List β}, Paired F a b → Paired F c d → Paired F (a ++ c) (b ++ d)
  | _, _, _, _, .nil, h => h
  | _, _, _, _, .cons x t, h => .cons x (Paired.app t h)
theorem Paired.get {α β : Type} {F : α → β → Prop} : ∀ {a : List α} {b : List β} {i : Nat} {x : α}, Paired F a b → a[i]? = some x → ∃ y, b[i]? = some y ∧ F x y
  | _, _, _, _, .nil, e => by simp at e
  | _, _, 0, _, .cons h _, e => by simp at e; subst e; exact ⟨_, rfl, h⟩
  | _, _, i + 1, _, .cons _ t, e => by
    obtain ⟨y, h1, h2⟩ := Paired.get (i := i) t (by simpa using e)
    exact ⟨y, by simpa using h1, h2⟩
theorem Paired.getR {α β : Type} {F : α → β → Prop} : ∀ {a : List α} {b : List β} {i : Nat} {y : β}, Paired F a b → b[i]? = some y → ∃ x, a[i]? = some x ∧ F x y
  | _, _, _, _, .nil, e => by simp at e
  | _, _, 0, _, .cons h _, e => by simp at e; subst e; exact ⟨_, rfl, h⟩
  | _, _, i + 1, _, .cons _ t, e => by
    obtain ⟨y, h1, h2⟩ := Paired.getR (i := i) t (by simpa using e)
    exact ⟨y, by simpa using h1, h2⟩
theorem Paired.one {α β : Type} {F : α → β → Prop} {x : α} {y : β} (h : F x y) : Paired F [x] [y] := .cons h .nil
structure Fd (K : Frg) (mg : Str → Option Value) (x : Str) (st : Stmt) (ps : List Str) where
  f : Addr
  fd : FuncData
  F : Fun K x x st f fd
  b : Binds K fd ps []
  m : mg x = some (.ref f)
abbrev FNext (K : Frg) (mg : Str → Option Value) := Fd K mg "_law_next" sNext ["_law_dice_here", "_law_many"]
abbrev sStraight : Stmt := top 75
abbrev FStraight (K : Frg) (mg : Str → Option Value) := Fd K mg "_law_straight" sStraight ["_law_d", "_law_at"]
def spStraight (K : Frg) : Sp := fun vs H Q _ => ∃ (d sa : Addr) (ns : List Int) (at_ : Nat), vs = [.ref d, .int (at_ : Int)] ∧ Ent K H d sa ns ∧
  ∀ t r H', Dc K H H' d sa ns → H' t = some (.tup (rowVs r)) → r.plain → r.ok 8 (at_ + 2) → Q (.ref t) H'
section
variable {P : Program} {w : World} {K : PySem.W.Frag} {mg : Str → Option Value} {base : Heap}
theorem scStraight : FnScope ["_law_d", "_law_at", "_law_way"] ["_law_d", "_law_at"] (defScope sStraight) := ⟨rfl, rfl, rfl, by decide +kernel, rfl, by decide +kernel, by decide +kernel⟩
theorem ok_straight (c : FStraight K mg) (cN : FNext K mg) (T : Bt mg) : FnOk P w K mg base CX0 2 c.f c.fd ["_law_d", "_law_at"] (spStraight K) := by
  have GN : FnOk P w K mg base CX0 1 cN.f cN.fd ["_law_dice_here", "_law_many"] (spNext K) := ok_next cN.F T
  refine c.F.ok scStraight (fun vs H Q E h => ?_) (fun cdv A outer s H vs Q E hr h => ?_)
  · obtain ⟨d, sa, ns, a, rfl, _⟩ := h
    rfl
  · obtain ⟨d, sa, ns, a, rfl, hE, k⟩ := h
    refine ⟨_, pss_cons (ps_set (i := 2) scStraight.nd rfl (Or.inl rfl) (pe_call GN hr (by rfl) cN.m cN.F.kp cN.b .nil pass0 (pa_cons (pv 0) (pa_cons pe_int pa_nil))))
      (pss_cons (ps_if (pt_cmpR op_eq (pv 2) pe_int (nomark _)) (pss_one (ps_ret (pe_tup (pa_cons pe_str (pa_cons (pe_op op_add (pv 1) pe_int) pa_nil))))) pss_nil)
      (pss_one (ps_ret (pe_tup (pa_cons (pe_ix ix_list (pe_lst (pa_cons pe_str (pa_cons pe_str (pa_cons pe_str (pa_cons pe_str (pa_cons pe_str pa_nil)))))) (pv 2) (fun _ _ => rfl))
        (pa_cons (pe_op op_add pe_int (pe_call GN hr (by rfl) cN.m cN.F.kp cN.b .nil pass0 (pa_cons (pv 0) (pa_cons pe_int pa_nil)))) (pa_cons (pe_op op_add (pv 1) pe_int) pa_nil))))))), ?_⟩
    refine ⟨_, rfl, d, sa, ns, _, rfl, hE, by decide, by decide, fun n H1 n0 n1 C1 => ?_⟩
    refine ⟨_, rfl, rfl, _, rfl, ?_⟩
    refine ite2 (fun e => ?_) (fun e => ?_)
    · refine ⟨_, rfl, _, _, rfl, rfl, (by show 2 ≤ sizeLine; decide), fun t ht => ?_⟩
      refine k t (.say (a + 1)) _ (C1.new ht) (by rw [upd_same]; rfl) trivial (by show a + 1 < a + 2; omega)
    · have n5 : n ≠ 5 := fun q => e (by rw [q]; exact decide_eq_true rfl)
      refine ⟨(by show 5 ≤ sizeLine; decide), fun l hl => ?_⟩
      obtain ⟨j, hj⟩ : ∃ j : Nat, n = (j : Int) := ⟨n.toNat, by omega⟩
      subst hj
      have hj5 : j < 5 := by omega
      obtain ⟨wd, hw⟩ : ∃ wd : Str, ([V.str "load", V.str "add", V.str "take", V.str "store", V.str "add"] : List V)[j]? = some (.str wd) ∧ ∀ x y : Nat, ∃ r : Row, rowVs r = [.str wd, .int (x : Int), .int (y : Int)] ∧ r.plain ∧ (x < 8 → y < a + 2 → r.ok 8 (a + 2)) := by
        match j, hj5 with
        | 0, _ => exact ⟨_, rfl, fun x y => ⟨.load x y, rfl, trivial, fun p q => ⟨p, q⟩⟩⟩
        | 1, _ => exact ⟨_, rfl, fun x y => ⟨.add x y, rfl, trivial, fun p q => ⟨p, q⟩⟩⟩
        | 2, _ => exact ⟨_, rfl, fun x y => ⟨.take x y, rfl, trivial, fun p q => ⟨p, q⟩⟩⟩
        | 3, _ => exact ⟨_, rfl, fun x y => ⟨.store x y, rfl, trivial, fun p q => ⟨p, q⟩⟩⟩
        | 4, _ => exact ⟨_, rfl, fun x y => ⟨.add x y, rfl, trivial, fun p q => ⟨p, q⟩⟩⟩
      have C2 := C1.new (o := .lst [V.str "load", V.str "add", V.str "take", V.str "store", V.str "add"]) hl
      refine ⟨_, rfl, l, _, _, _, rfl, rfl, SqL.of upd_same, atI_nat hw.1, ?_⟩
      refine ⟨_, rfl, d, sa, ns, _, rfl, C2.ent, by decide, by decide, fun m H2 m0 m1 C3 => ?_⟩
      refine ⟨_, _, rfl, rfl, _, rfl, _, _, rfl, rfl, (by show 3 ≤ sizeLine; decide), fun t ht => ?_⟩
      obtain ⟨x, hx⟩ : ∃ x : Nat, (5 : Int) + m = (x : Int) := ⟨(5 + m).toNat, by omega⟩
      obtain ⟨r, r1, r2, r3⟩ := hw.2 x (a + 1)
      refine k t r _ ((C2.trans C3).new ht) ?_ r2 (r3 (by omega) (by omega))
      rw [upd_same, r1, ← hx]
      rfl
end
end DL
namespace DL
open PySem L2
theorem Paired.last {α β : Type} {F : α → β → Prop} {x : α} : ∀ {a : List α} {b : List β}, Paired F (a ++ [x]) b → ∃ b0 y, b = b0 ++ [y] ∧ Paired F a b0 ∧ F x y
  | [], _, .cons h t => by
    cases t
    exact ⟨[], _, rfl, .nil, h⟩
  | c :: a, _, .cons h t => by
    obtain ⟨b0, y, e, h1, h2⟩ := Paired.last (a := a) t
    subst e
    exact ⟨_ :: b0, y, rfl, .cons h h1, h2⟩
theorem snoc_of {α : Type} : ∀ {l : List α}, 1 ≤ l.length → ∃ a x, l = a ++ [x]
  | [], h => by simp at h
  | [x], _ => ⟨[], x, rfl⟩
  | x :: y :: l, _ => by
    obtain ⟨a, z, e⟩ := snoc_of (l := y :: l) (by simp)
    exact ⟨x :: a, z, by rw [e]; rfl⟩
theorem ix_last (n : Nat) : ixN (n + 1) (-1) = some n := by
  unfold ixN
  rw [if_neg (by decide), if_pos (by omega)]
  congr 1
  omega
theorem all_snoc {α : Type} {p : α → Prop} {l : List α} {x : α} (h : ∀ y ∈ l, p y) (hx : p x) : ∀ y ∈ l ++ [x], p y := fun y m => by
  rcases List.mem_append.mp m with q | q
  · exact h y q
  · rw [List.mem_singleton.mp q]; exact hx
theorem all_app {α : Type} {p : α → Prop} {l m : List α} (h : ∀ y ∈ l, p y) (hx : ∀ y ∈ m, p y) : ∀ y ∈ l ++ m, p y := fun y q => by
  rcases List.mem_append.mp q with q | q
  · exact h y q
  · exact hx y q
abbrev sFork : Stmt := top 76
abbrev FFork (K : Frg) (mg : Str → Option Value) := Fd K mg "_law_fork" sFork ["_law_d", "_law_at"]
def spFork (K : Frg) : Sp := fun vs H Q _ => ∃ (d sa : Addr) (ns : List Int) (at_ : Nat), vs = [.ref d, .int (at_ : Int)] ∧ Ent K H d sa ns ∧
  ∀ l bs rs H', Dc K H H' d sa ns → H l = none → H' l = some (.lst (bs.map V.ref)) → RowsAt H' bs rs → 1 ≤ rs.length → rs.length ≤ 6 → 4 * tests rs ≤ rs.length → (∀ r ∈ rs, r.ok 8 (at_ + rs.length + 1)) → Q (.ref l) H'
theorem sIx_neg (n d : Nat) : HT.sIx n d (some (-1)) = ((-1 : Int) + n).toNat := by
  show (if (-1 : Int) < 0 then ((-1 : Int) + (n : Int)).toNat else min (-1 : Int).toNat n) = _
  exact if_pos (by decide)
theorem set_last {α : Type} {l : List α} {x y : α} {n : Nat} (h : l.length = n) : (l ++ [x]).set n y = l ++ [y] := by
  subst h
  rw [List.set_append_right _ _ (Nat.le_refl _), Nat.sub_self]
  rfl
theorem cut_last {xs : List V} (h : 1 ≤ xs.length) : cutV xs none (some (-1)) = xs.dropLast := by
  unfold cutV
  rw [sIx_neg, HT.sIx_none, List.drop_zero, List.dropLast_eq_take, Nat.sub_zero]
  congr 1
  omega
theorem cut_not {xs : List V} (h : 1 ≤ xs.length) : ¬ (HT.sIx xs.length 0 none = 0 ∧ HT.sIx xs.length xs.length (some (-1)) = xs.length) := by
  rintro ⟨_, q⟩
  rw [sIx_neg] at q
  omega
theorem row_ne {r : Row} (p : r.plain) : (rowVs r).dropLast ≠ [] := by
  cases r <;> first | exact p.elim | (intro e; cases e)
def StrAt (K : Frg) (H0 : Hp) (d sa : Addr) (ns : List Int) (D : Addr) (at_ : Nat) (i : Nat) (H : Hp) : Prop :=
  ∃ bs rs, Dc K H0 H d sa ns ∧ H0 D = none ∧ H D = some (.lst (bs.map V.ref)) ∧ RowsAt H bs rs ∧ rs.length = i ∧ ∀ r ∈ rs, r.plain ∧ r.ok 8 (at_ + i + 1)
theorem StrAt.zero {K : Frg} {H0 H : Hp} {d sa : Addr} {ns : List Int} {D : Addr} {a : Nat} (C : Dc K H0 H d sa ns) (hD : H D = none) : StrAt K H0 d sa ns D a 0 (upd H D (.lst [])) :=
  ⟨[], [], C.new hD, C.here hD, upd_same, .nil, rfl, fun _ h => absurd h (by simp)⟩
theorem StrAt.step {K : Frg} {H0 H H' : Hp} {d sa : Addr} {ns : List Int} {D t : Addr} {a i : Nat} {bs : List Addr} {rs : List Row} {r : Row} (C : Dc K H0 H d sa ns) (n0 : H0 D = none) (hD : H D = some (.lst (bs.map V.ref))) (ha : RowsAt H bs rs) (hl : rs.length = i) (hr : ∀ r ∈ rs, r.plain ∧ r.ok 8 (a + i + 1))
    (C2 : Dc K H H' d sa ns) (ht : H' t = some (.tup (rowVs r))) (hp : r.plain) (ho : r.ok 8 (a + i + 2)) :
    H' D = some (.lst (bs.map V.ref)) ∧ StrAt K H0 d sa ns D a (i + 1) (upd H' D (.lst (bs.map V.ref ++ [.ref t]))) := by
  have C3 := C.trans C2
  have hD' : H' D = some (.lst (bs.map V.ref)) := C2.but _ _ (C.ned n0) hD
  refine ⟨hD', bs ++ [t], rs ++ [r], C3.mut n0, n0, by rw [upd_same, List.map_append]; rfl, ?_, by rw [List.length_append, hl]; rfl, ?_⟩
  · exact RowsAt.kp (Paired.app (ha.kp C2.kp) (Paired.one ht)) (Kp.lst hD')
  · refine all_snoc (fun y m => ?_) ⟨hp, by rw [show a + (i + 1) + 1 = a + i + 2 by omega]; exact ho⟩
    exact ⟨(hr y m).1, (hr y m).2.mono (by omega)⟩
section
variable {P : Program} {w : World} {K : PySem.W.Frag} {mg : Str → Option Value} {base : Heap}
abbrev nFork : List Str := ["_law_d", "_law_at", "_law_yes", "_law_begin", "_law_no", "_law_k"]
theorem scFork : FnScope nFork ["_law_d", "_law_at"] (defScope sFork) := ⟨rfl, rfl, rfl, by decide +kernel, rfl, by decide +kernel, by decide +kernel⟩
theorem ok_fork (c : FFork K mg) (cS : FStraight K mg) (cN : FNext K mg) (T : Bt mg) : FnOk P w K mg base CX0 3 c.f c.fd ["_law_d", "_law_at"] (spFork K) := by
  have GN : FnOk P w K mg base CX0 1 cN.f cN.fd ["_law_dice_here", "_law_many"] (spNext K) := ok_next cN.F T
  have GS : FnOk P w K mg base CX0 2 cS.f cS.fd ["_law_d", "_law_at"] (spStraight K) := ok_straight cS cN T
  refine c.F.ok scFork (fun vs H Q E h => ?_) (fun cdv A outer s H vs Q E hr h => ?_)
  · obtain ⟨d, sa, ns, a, rfl, _⟩ := h
    rfl
  · obtain ⟨d, sa, ns, a, rfl, hE, k⟩ := h
    have hr1 : Room 1 _ := hr.mono (by decide)
    refine ⟨_, pss_cons (ps_setLc (i := 2) (own := [("_law_k", 5)]) (g := gName 5) (tt := tYes) rfl scFork.nd rfl rfl (sw_true rfl rfl rfl (by decide +kernel))
        (pi_range1 rfl T.range (pa_cons (pe_op op_add pe_int (pe_call GN hr1 (by rfl) cN.m cN.F.kp cN.b .nil pass0 (pa_cons (pv 0) (pa_cons pe_int pa_nil)))) pa_nil))
        (blkOk_by (N := nFork) (sc := defScope sFork) (by decide +kernel)) (fun _ _ _ _ _ => pg_name (i := 5) scFork.nd rfl (Or.inl rfl)) (fun _ _ _ _ _ => pts_nil)
        (fun _ _ _ _ _ => (pe_call GS hr (by rfl) cS.m cS.F.kp cS.b .nil pass0 (pa_cons (pv 0) (pa_cons (pe_op op_add (pe_op op_add (pv 1) pe_int) (pv 5)) pa_nil)))))
      (pss_cons (ps_set (i := 3) scFork.nd rfl (Or.inr rfl) (pe_op op_add (pe_op op_add (pv 1) pe_int) (pe_callB call_len_seq (by rfl) T.len PySem.boot_len (pa_cons (pv 2) pa_nil))))
      (pss_cons (ps_setLc (i := 4) (own := [("_law_k", 5)]) (g := gName 5) (tt := tYes) rfl scFork.nd rfl rfl (sw_true rfl rfl rfl (by decide +kernel))
        (pi_range1 rfl T.range (pa_cons (pe_op op_add pe_int (pe_call GN hr1 (by rfl) cN.m cN.F.kp cN.b .nil pass0 (pa_cons (pv 0) (pa_cons pe_int pa_nil)))) pa_nil))
        (blkOk_by (N := nFork) (sc := defScope sFork) (by decide +kernel)) (fun _ _ _ _ _ => pg_name (i := 5) scFork.nd rfl (Or.inl rfl)) (fun _ _ _ _ _ => pts_nil)
        (fun _ _ _ _ _ => (pe_call GS hr (by rfl) cS.m cS.F.kp cS.b .nil pass0 (pa_cons (pv 0) (pa_cons (pe_op op_add (pv 3) (pv 5)) pa_nil)))))
      (pss_cons (ps_asg (pe_op op_catT (pe_slice sl_tup (pe_ix ix_list (pv 2) (pe_un un_neg pe_int) (fun _ _ => rfl)) po_none (po_some (pe_un un_neg pe_int)))
          (pe_tup (pa_cons (pe_op op_add (pv 3) (pe_callB call_len_seq (by rfl) T.len PySem.boot_len (pa_cons (pv 4) pa_nil))) pa_nil))) (pg_sub (pv 2) (pe_un un_neg pe_int) set_list))
      (pss_one (ps_ret (pe_op op_cat (pe_op op_cat (pe_lst (pa_cons (pe_tup (pa_cons pe_str (pa_cons (pe_op op_add pe_int (pe_call GN hr1 (by rfl) cN.m cN.F.kp cN.b .nil pass0 (pa_cons (pv 0) (pa_cons pe_int pa_nil)))) (pa_cons (pe_op op_add (pv 1) pe_int) pa_nil))))
        (pa_cons (pe_tup (pa_cons pe_str (pa_cons (pe_op op_add (pv 1) pe_int) (pa_cons (pv 3) pa_nil)))) pa_nil))) (pv 2)) (pv 4))))))), ?_⟩
    refine ⟨_, rfl, d, sa, ns, _, rfl, hE, by decide, by decide, fun n H1 n0 n1 C1 => ?_⟩
    refine ⟨_, _, rfl, rfl, _, rfl, by omega, by omega, fun D1 hD1 => ?_⟩
    refine lc_range (lo := 0) (n := (1 + n).toNat) (StrAt K H d sa ns D1 (a + 2)) (StrAt.zero C1 hD1) ?_ ?_
    · rintro i H2 hi ⟨bs, rs, C2, nD, hD, hR, hl, hr⟩
      refine ⟨rfl, _, rfl, _, rfl, _, _, rfl, rfl, _, rfl, _, _, rfl, rfl, d, sa, ns, a + 2 + i, ?_, C2.ent, fun t r H3 C3 ht hp ho => ?_⟩
      · show [V.ref d, V.int ((a : Int) + 2 + (0 + (i : Int)))] = [V.ref d, V.int ((a + 2 + i : Nat) : Int)]
        rw [show ((a + 2 + i : Nat) : Int) = (a : Int) + 2 + (0 + (i : Int)) by omega]
      · obtain ⟨z1, z2⟩ := StrAt.step C2 nD hD hR hl hr C3 ht hp ho
        exact ⟨_, z1, szl (by have := Paired.length hR; rw [List.length_map]; omega), z2⟩
    · rintro H2 ⟨bs1, rs1, C2, nD1, hD1', hR1, hl1, hr1'⟩
      have lb1 := Paired.length hR1
      refine ⟨_, rfl, _, _, rfl, rfl, _, rfl, D1, _, rfl, .inl (SqL.of hD1'), _, _, rfl, rfl, ?_⟩
      refine ⟨_, rfl, d, sa, ns, _, rfl, C2.ent, by decide, by decide, fun n2 H3 n20 n21 C3 => ?_⟩
      refine ⟨_, _, rfl, rfl, _, rfl, by omega, by omega, fun D2 hD2 => ?_⟩
      have C13 := C2.trans C3
      refine lc_range (lo := 0) (n := (1 + n2).toNat) (fun i H4 => StrAt K H d sa ns D2 (a + 2 + rs1.length) i H4 ∧ D2 ≠ D1 ∧ H4 D1 = some (.lst (bs1.map V.ref)) ∧ RowsAt H4 bs1 rs1) ?_ ?_ ?_
      · have nD12 : D2 ≠ D1 := (ne_of_none (C3.but _ _ (C2.ned nD1) hD1') hD2).symm
        exact ⟨StrAt.zero C13 hD2, nD12, by rw [upd_ne nD12.symm]; exact C3.but _ _ (C2.ned nD1) hD1', (hR1.kp C3.kp).kp (Kp.new hD2)⟩
      · rintro i H4 hi ⟨⟨bs, rs, C4, nD, hD, hR, hl, hr⟩, nD12, h1, hR1⟩
        refine ⟨rfl, _, rfl, _, rfl, _, rfl, _, _, rfl, rfl, d, sa, ns, a + 2 + rs1.length + i, ?_, C4.ent, fun t r H5 C5 ht hp ho => ?_⟩
        · show [V.ref d, V.int ((a : Int) + 2 + (((bs1.map V.ref).length : Nat) : Int) + (0 + (i : Int)))] = [V.ref d, V.int ((a + 2 + rs1.length + i : Nat) : Int)]
          rw [List.length_map, lb1, show ((a + 2 + rs1.length + i : Nat) : Int) = (a : Int) + 2 + (rs1.length : Int) + (0 + (i : Int)) by omega]
        · obtain ⟨z1, z2⟩ := StrAt.step C4 nD hD hR hl hr C5 ht hp ho
          refine ⟨_, z1, szl (by have := Paired.length hR; rw [List.length_map]; omega), z2, nD12, ?_, ?_⟩
          · rw [upd_ne nD12.symm]
            exact C5.but _ _ (C4.ned nD1) h1
          · exact (hR1.kp C5.kp).kp (Kp.lst z1)
      · rintro H4 ⟨⟨bs2, rs2, C4, nD2, hD2', hR2, hl2, hr2⟩, nD12, h1, hR1⟩
        have lb2 := Paired.length hR2
        obtain ⟨bs0, b, e⟩ := snoc_of (l := bs1) (by omega)
        subst e
        obtain ⟨rs0, r, e, hR0, hb⟩ := Paired.last hR1
        subst e
        have hr0 := hr1' r (List.mem_append_right _ List.mem_cons_self)
        have h1 : H4 D1 = some (.lst (bs0.map V.ref ++ [.ref b])) := by rw [List.map_append] at h1; exact h1
        have rl := Row.vs_len r
        refine ⟨_, rfl, _, rfl, D1, _, _, _, rfl, rfl, SqL.of h1, atI_last _ _, _, rfl, _, rfl, b, _, rfl, SqT.of hb, cut_not rl.1, fun p1 hp1 => ?_⟩
        rw [cut_last rl.1]
        refine alloc hp1 fun H5 s5 e5 => ?_
        refine ⟨_, rfl, _, rfl, D2, _, rfl, .inl (SqL.of (s5 _ _ hD2')), _, _, rfl, rfl, (by show 1 ≤ sizeLine; decide), fun p2 hp2 => ?_⟩
        refine alloc hp2 fun H6 s6 e6 => ?_
        have hsz : (rowVs r).dropLast.length + 1 ≤ sizeLine := sz (by rw [List.length_dropLast]; omega)
        refine ⟨p1, p2, _, _, rfl, rfl, SqT.of (s6 _ _ e5), SqT.of e6, row_ne hr0.1, hsz, (fun e => nomatch e), fun _ p3 hp3 => ?_⟩
        refine alloc hp3 fun H7 s7 e7 => ?_
        have S47 := (s5.trans s6).trans s7
        have h17 := S47 _ _ h1
        refine ⟨_, rfl, _, rfl, D1, _, _, bs0.length, rfl, rfl, h17, ?_, ?_⟩
        · rw [List.length_append, List.length_map]
          exact ix_last _
        rw [set_last (by rw [List.length_map])]
        have nD1' : D1 ≠ D2 := nD12.symm
        have C7 := (C4.same S47).mut (o := .lst (bs0.map V.ref ++ [.ref p3])) nD1
        have hp3 : p3 ≠ D1 := ne_of e7 h17 (by intro z; cases z)
        have R7 : RowsAt H7 (bs0 ++ [p3]) (rs0 ++ [r.to (a + 2 + rs0.length + 1 + rs2.length)]) := by
          refine Paired.app (RowsAt.kp hR0 (Kp.same S47)) (Paired.one ?_)
          rw [e7, Row.vs_to hr0.1]
          congr 3
          show [V.int ((a : Int) + 2 + (((bs0 ++ [b]).map V.ref).length : Int) + ((bs2.map V.ref).length : Int))] = _
          rw [List.length_map, List.length_map, lb1, lb2, List.length_append]
          congr 2
        have R72 : RowsAt H7 bs2 rs2 := RowsAt.kp hR2 (Kp.same S47)
        have K7 : Kp H7 (upd H7 D1 (.lst (bs0.map V.ref ++ [.ref p3]))) := Kp.lst h17
        have hD28 : (upd H7 D1 (.lst (bs0.map V.ref ++ [.ref p3]))) D2 = some (.lst (bs2.map V.ref)) := by rw [upd_ne nD12]; exact S47 _ _ hD2'
        revert C7 K7 hD28
        refine change fun H8 b8 e8 => ?_
        intro C8 K8 hD28
        have R8 := R7.kp K8
        have R82 := R72.kp K8
        refine ⟨_, rfl, d, sa, ns, _, rfl, C8.ent, by decide, by decide, fun m H9 m0 m1 C9 => ?_⟩
        refine ⟨_, _, rfl, rfl, _, rfl, _, _, rfl, rfl, (by show 3 ≤ sizeLine; decide), fun t1 ht1 => ?_⟩
        refine alloc ht1 fun H10 s10 e10 => ?_
        refine ⟨_, rfl, _, _, rfl, rfl, _, rfl, (by show 3 ≤ sizeLine; decide), fun t2 ht2 => ?_⟩
        refine alloc ht2 fun H11 s11 e11 => ?_
        refine ⟨(by show 2 ≤ sizeLine; decide), fun l1 hl1n => ?_⟩
        refine alloc hl1n fun H12 s12 e12 => ?_
        have S9 := (s10.trans s11).trans s12
        have g1 : H12 D1 = some (.lst (bs0.map V.ref ++ [.ref p3])) := S9 _ _ (C9.but _ _ (C8.ned nD1) e8)
        have g2 : H12 D2 = some (.lst (bs2.map V.ref)) := S9 _ _ (C9.but _ _ (C8.ned nD2) hD28)
        have C12 := (C8.trans C9).same S9
        refine ⟨_, rfl, l1, D1, _, _, rfl, rfl, e12, g1, ?_, fun l2 hl2n => ?_⟩
        · refine sz ?_
          rw [List.length_append, List.length_map]
          have z1 := Paired.length hR0
          rw [List.length_append] at hl1
          show 2 + (bs0.length + 1) ≤ 100000
          simp only [List.length_singleton] at hl1
          omega
        refine alloc hl2n fun H13 s13 e13 => ?_
        refine ⟨_, rfl, l2, D2, _, _, rfl, rfl, e13, s13 _ _ g2, ?_, fun l3 hl3n => ?_⟩
        · refine sz ?_
          rw [List.length_append, List.length_append, List.length_map, List.length_map]
          have z1 := Paired.length hR0
          rw [List.length_append] at hl1
          show 2 + (bs0.length + 1) + bs2.length ≤ 100000
          simp only [List.length_singleton] at hl1
          omega
        have C13' := C12.same s13
        have K13 : Kp H8 H13 := (C9.kp.trans (Kp.same S9)).trans (Kp.same s13)
        have rl0 := Paired.length hR0
        have hlen1 : rs0.length + 1 = (1 + n).toNat := by rw [← hl1, List.length_append]; rfl
        obtain ⟨x, hx⟩ : ∃ x : Nat, (5 : Int) + m = (x : Int) := ⟨(5 + m).toNat, by omega⟩
        have hm8 : x < 8 := by omega
        refine k l3 (t1 :: t2 :: (bs0 ++ [p3]) ++ bs2) (.load x (a + 1) :: .test (a + 2) (a + 2 + rs0.length + 1) :: (rs0 ++ [r.to (a + 2 + rs0.length + 1 + rs2.length)]) ++ rs2) _ (C13'.new hl3n) (C13'.here hl3n) ?_ ?_ ?_ ?_ ?_ ?_
        · rw [upd_same]
          simp only [List.map_append, List.map_cons, List.map_nil]
          rfl
        · refine RowsAt.kp ?_ (Kp.new hl3n)
          refine Paired.app (.cons ?_ (.cons ?_ (R8.kp K13))) (R82.kp K13)
          · refine (s11.trans (s12.trans s13)) _ _ (e10.trans ?_)
            show some (HO.tup [V.str "load", V.int (5 + m), V.int ((a : Int) + 1)]) = some (.tup [V.str "load", V.int (x : Int), V.int ((a + 1 : Nat) : Int)])
            rw [hx]
            rfl
          · refine (s12.trans s13) _ _ (e11.trans ?_)
            show some (HO.tup [V.str "test", V.int ((a : Int) + 2), V.int ((a : Int) + 2 + (((bs0 ++ [b]).map V.ref).length : Int))]) = some (.tup [V.str "test", V.int ((a + 2 : Nat) : Int), V.int ((a + 2 + rs0.length + 1 : Nat) : Int)])
            rw [List.length_map, List.length_append, rl0]
            rfl
        · simp
        · simp only [List.length_append, List.length_cons, List.length_nil]
          omega
        · have t2 : tests rs2 = 0 := tests_plain fun y hy => (hr2 y hy).1
          have t0 : tests rs0 = 0 := tests_plain fun y hy => (hr1' y (List.mem_append_left _ hy)).1
          have t1 := isT_le (.test (a + 2) (a + 2 + rs0.length + 1))
          have tl : isT (.load x (a + 1)) = 0 := isT_plain trivial
          have tr := isT_to (m := a + 2 + rs0.length + 1 + rs2.length) hr0.1
          rw [List.cons_append, List.cons_append, tests_cons, tests_cons, tests_app, tests_app, tests_one, t2, t0, tl, tr]
          simp only [List.length_append, List.length_cons, List.length_nil]
          omega
        · have hL : (Row.load x (a + 1) :: .test (a + 2) (a + 2 + rs0.length + 1) :: (rs0 ++ [r.to (a + 2 + rs0.length + 1 + rs2.length)]) ++ rs2).length = rs0.length + rs2.length + 3 := by
            simp only [List.length_append, List.length_cons, List.length_nil]
            omega
          rw [hL]
          intro y hy
          rcases List.mem_append.mp hy with hy | hy
          · rcases List.mem_cons.mp hy with rfl | hy
            · exact ⟨hm8, by omega⟩
            · rcases List.mem_cons.mp hy with rfl | hy
              · exact ⟨by omega, by omega⟩
              · rcases List.mem_append.mp hy with hy | hy
                · exact (hr1' y (List.mem_append_left _ hy)).2.mono (by omega)
                · rw [List.mem_singleton.mp hy]
                  exact hr0.2.to (by omega) hr0.1
          · refine (hr2 y hy).2.mono ?_
            rw [List.length_append, List.length_singleton]
            omega
end
end DL
namespace DL
open PySem L2
theorem if_elim {c : TT} {t u : TS} {D : Ends} {σ : St} {H : Hp} (R : Bool → Hp → Prop) (key : ∀ b H', R b H' → if b = true then t D σ H' else u D σ H') (test : ∀ F' : Bool → Hp → Prop, (∀ b H', R b H' → F' b H') → c σ H F') : tIfS c t u D σ H := test _ key
def PB : Nat → Nat
  | 0 => 6
  | n + 1 => 6 + 3 * PB n
abbrev sBody : Stmt := top 77
abbrev pBody : List Str := ["_law_d", "_law_at", "_law_deep"]
abbrev FBody (K : Frg) (mg : Str → Option Value) := Fd K mg "_law_body" sBody pBody
def spBody (K : Frg) (n : Nat) : Sp := fun vs H Q _ => ∃ (d sa : Addr) (ns : List Int) (at_ : Nat), vs = [.ref d, .int (at_ : Int), .int (n : Int)] ∧ n ≤ 2 ∧ Ent K H d sa ns ∧
  ∀ l bs rs H', Dc K H H' d sa ns → H l = none → H' l = some (.lst (bs.map V.ref)) → RowsAt H' bs rs → rs.length ≤ 3 * PB n → 4 * tests rs ≤ rs.length → (∀ r ∈ rs, r.ok 8 (at_ + rs.length + 1)) → Q (.ref l) H'
def BodyAt (K : Frg) (H0 : Hp) (d sa : Addr) (ns : List Int) (l : Addr) (at_ : Nat) (z : Nat) (H : Hp) : Prop :=
  ∃ bs rs, Dc K H0 H d sa ns ∧ H0 l = none ∧ H l = some (.lst (bs.map V.ref)) ∧ RowsAt H bs rs ∧ rs.length ≤ z ∧ 4 * tests rs ≤ rs.length ∧ ∀ r ∈ rs, r.ok 8 (at_ + rs.length + 1)
theorem BodyAt.after {K : Frg} {H0 H H' : Hp} {d sa : Addr} {ns : List Int} {l : Addr} {a z : Nat} (h : BodyAt K H0 d sa ns l a z H) (C : Dc K H H' d sa ns) : BodyAt K H0 d sa ns l a z H' := by
  obtain ⟨bs, rs, C0, n0, hl, hR, hz, hT, ho⟩ := h
  exact ⟨bs, rs, C0.trans C, n0, C.but _ _ (C0.ned n0) hl, hR.kp C.kp, hz, hT, ho⟩
theorem PB_le : ∀ {n : Nat}, n ≤ 2 → PB n ≤ 78
  | 0, _ => by decide
  | 1, _ => by decide
  | 2, _ => by decide
section
variable {P : Program} {w : World} {K : PySem.W.Frag} {mg : Str → Option Value} {base : Heap}
abbrev nBody : List Str := ["_law_d", "_law_at", "_law_deep", "_law_found", "_law_turn", "_law_here", "_law_way", "_law_inner", "_law_behind"]
theorem scBody : FnScope nBody pBody (defScope sBody) := ⟨rfl, rfl, rfl, by decide +kernel, rfl, by decide +kernel, by decide +kernel⟩
theorem body_one {k n : Nat} {sp : Sp} (cBody : FBody K mg) (cFork : FFork K mg) (cStraight : FStraight K mg) (cNext : FNext K mg) (T : Bt mg) (h3 : 3 ≤ k) (GBody : FnOk P w K mg base CX0 k cBody.f cBody.fd pBody sp) (hk : 0 < n → ∀ vs H Q E, spBody K (n - 1) vs H Q E → sp vs H Q E) :
    FnOk P w K mg base CX0 (k + 1) cBody.f cBody.fd pBody (spBody K n) := by
  have GNext : FnOk P w K mg base CX0 1 cNext.f cNext.fd ["_law_dice_here", "_law_many"] (spNext K) := ok_next cNext.F T
  have GStraight : FnOk P w K mg base CX0 2 cStraight.f cStraight.fd ["_law_d", "_law_at"] (spStraight K) := ok_straight cStraight cNext T
  have GFork : FnOk P w K mg base CX0 3 cFork.f cFork.fd ["_law_d", "_law_at"] (spFork K) := ok_fork cFork cStraight cNext T
  refine cBody.F.ok scBody (fun vs H Q E h => ?_) (fun cdv A outer s H vs Q E hr h => ?_)
  · obtain ⟨d, sa, ns, a, rfl, _⟩ := h
    rfl
  · obtain ⟨d, sa, ns, a, rfl, n2, hE, kq⟩ := h
    refine ⟨_, (pss_cons (ps_set (i := 3) scBody.nd rfl (Or.inl rfl) (pe_lst pa_nil))
      (pss_cons (ps_for PassesOwn.never rfl (pi_range1 rfl T.range (pa_cons (pe_op op_add pe_int (pe_call GNext (hr.mono (by first | omega | decide)) (by rfl) cNext.m cNext.F.kp cNext.b .nil pass0 (pa_cons (pv 0) (pa_cons pe_int pa_nil)))) pa_nil)) (pg_name (i := 4) scBody.nd rfl (Or.inl rfl))
          (pss_cons (ps_set (i := 5) scBody.nd rfl (Or.inl rfl) (pe_op op_add (pv 1) (pe_callB call_len_seq (by rfl) T.len PySem.boot_len (pa_cons (pv 3) pa_nil))))
          (pss_cons (ps_set (i := 6) scBody.nd rfl (Or.inl rfl) (pe_call GNext (hr.mono (by first | omega | decide)) (by rfl) cNext.m cNext.F.kp cNext.b .nil pass0 (pa_cons (pv 0) (pa_cons pe_int pa_nil))))
          (pss_one (ps_if (PW.pt (pw_or (pt_cmpR op_lt (pv 6) pe_int (nomark _)) (pw_or1 (PW.pt (pw_and (pt_cmpR op_eq (pv 6) pe_int (nomark _)) (pw_and (pt_cmpR op_lt (pv 2) pe_int (nomark _)) (pw_and1 (pt_cmpR op_eq (pe_call GNext (hr.mono (by first | omega | decide)) (by rfl) cNext.m cNext.F.kp cNext.b .nil pass0 (pa_cons (pv 0) (pa_cons pe_int pa_nil))) pe_int (nomark _)))))))))
              (pss_one (ps_expr (pe_bm PySem.F.plainAttrs_list PySem.F.slot_list_append PySem.F.type_list_append mt_append (pv 3) (pa_cons (pe_call GStraight (hr.mono (by first | omega | decide)) (by rfl) cStraight.m cStraight.F.kp cStraight.b .nil pass0 (pa_cons (pv 0) (pa_cons (pv 5) pa_nil))) pa_nil))))
              (pss_one (ps_if (pt_cmpR op_eq (pv 6) pe_int (nomark _))
                  (pss_one (ps_set (i := 3) scBody.nd rfl (Or.inl rfl) (pe_op op_cat (pv 3) (pe_call GFork (hr.mono (by first | omega | decide)) (by rfl) cFork.m cFork.F.kp cFork.b .nil pass0 (pa_cons (pv 0) (pa_cons (pv 5) pa_nil))))))
                  (pss_one (ps_if (pt_cmpR op_gt (pv 2) pe_int (nomark _))
                      (pss_cons (ps_set (i := 7) scBody.nd rfl (Or.inl rfl) (pe_call GBody (hr.mono (by first | omega | decide)) (by rfl) cBody.m cBody.F.kp cBody.b .nil pass0 (pa_cons (pv 0) (pa_cons (pe_op op_add (pv 5) pe_int) (pa_cons (pe_op op_sub (pv 2) pe_int) pa_nil)))))
                      (pss_cons (ps_set (i := 8) scBody.nd rfl (Or.inl rfl) (pe_op op_add (pe_op op_add (pv 5) pe_int) (pe_callB call_len_seq (by rfl) T.len PySem.boot_len (pa_cons (pv 7) pa_nil))))
                      (pss_cons (ps_set (i := 3) scBody.nd rfl (Or.inl rfl) (pe_op op_cat (pe_op op_cat (pv 3) (pe_lst (pa_cons (pe_tup (pa_cons pe_str (pa_cons (pv 2) (pa_cons (pe_op op_add (pv 5) pe_int) pa_nil)))) (pa_cons (pe_tup (pa_cons pe_str (pa_cons (pe_op op_add pe_int (pv 2)) (pa_cons (pe_op op_add (pv 5) pe_int) pa_nil)))) pa_nil)))) (pv 7)))
                      (pss_cons (ps_set (i := 3) scBody.nd rfl (Or.inl rfl) (pe_op op_cat (pv 3) (pe_lst (pa_cons (pe_tup (pa_cons pe_str (pa_cons (pe_op op_add pe_int (pv 2)) (pa_cons (pe_op op_add (pv 8) pe_int) pa_nil)))) (pa_cons (pe_tup (pa_cons pe_str (pa_cons pe_int (pa_cons (pe_op op_add (pv 8) pe_int) pa_nil)))) (pa_cons (pe_tup (pa_cons pe_str (pa_cons (pe_op op_add pe_int (pv 2)) (pa_cons (pe_op op_add (pv 8) pe_int) pa_nil)))) pa_nil))))))
                      (pss_one (ps_expr (pe_bm PySem.F.plainAttrs_list PySem.F.slot_list_append PySem.F.type_list_append mt_append (pv 3) (pa_cons (pe_tup (pa_cons pe_str (pa_cons (pe_op op_add (pv 8) pe_int) (pa_cons (pe_op op_add (pv 5) pe_int) pa_nil)))) pa_nil))))))))
                      pss_nil)))))))))
      (pss_one (ps_ret (pv 3))))), ?_⟩
    refine ⟨Nat.zero_le _, fun l0 hl0 => ?_⟩
    have B0 : BodyAt K H d sa ns l0 a 0 (upd H l0 (.lst [])) := ⟨[], [], (Dc.refl hE).new hl0, hl0, upd_same, .nil, Nat.le_refl _, Nat.le_refl 0, fun _ h => absurd h (by simp)⟩
    have C0 : Dc K H (upd H l0 (.lst [])) d sa ns := (Dc.refl hE).new hl0
    refine ⟨_, rfl, d, sa, ns, _, rfl, C0.ent, by decide, by decide, fun n3 H1 n30 n31 C1 => ?_⟩
    refine ⟨_, _, rfl, rfl, _, rfl, by omega, by omega, ?_⟩
    refine for_range (lo := 0) (n := (1 + n3).toNat) (fun i σ H' => ∃ (l : Addr) (x4 x5 x6 x7 x8 : Option V), σ = [some (.ref d), some (.int (a : Int)), some (.int (n : Int)), some (.ref l), x4, x5, x6, x7, x8] ∧ BodyAt K H d sa ns l a (i * PB n) H')
      ⟨l0, _, _, _, _, _, rfl, by rw [Nat.zero_mul]; exact B0.after C1⟩ ?_ ?_
    · rintro i σ H2 hi ⟨l, x4, x5, x6, x7, x8, rfl, bs, rs, C2, l0, hl, hR, hz, hT, ho⟩
      have hbl := Paired.length hR
      refine ⟨_, rfl, _, rfl, l, _, rfl, .inl (SqL.of hl), _, _, rfl, rfl, ?_⟩
      refine ⟨_, rfl, d, sa, ns, _, rfl, C2.ent, by decide, by decide, fun n6 H3 n60 n61 C3 => ?_⟩
      dsimp only [gName]
      refine if_elim (fun _ H4 => Dc K H2 H4 d sa ns) ?_ ?_
      · intro bb H4 C4
        have C24 := C2.trans C4
        have hl4 := C4.but _ _ (C2.ned l0) hl
        have hR4 := hR.kp C4.kp
        have hh : (a : Int) + ((bs.map V.ref).length : Int) = ((a + rs.length : Nat) : Int) := by rw [List.length_map, hbl]; rfl
        have hm : (i + 1) * PB n = i * PB n + PB n := Nat.succ_mul _ _
        have hp6 : 6 ≤ PB n := by cases n with
          | zero => exact Nat.le_refl _
          | succ n => show 6 ≤ 6 + 3 * PB n; omega
        have hi3 : i < 3 := by omega
        have hbig : i * PB n ≤ 300 := by
          have h1 := PB_le n2
          have h2 := Nat.mul_le_mul (show i ≤ 3 by omega) h1
          omega
        cases bb with
        | true =>
          refine ⟨_, rfl, .inl ⟨rfl, _, SqL.of hl4⟩, _, rfl, _, rfl, d, sa, ns, a + rs.length, ?_, C24.ent, fun t r H5 C5 ht hp ho5 => ?_⟩
          · show [V.ref d, V.int ((a : Int) + ((bs.map V.ref).length : Int))] = _
            rw [hh]
          · have hl5 := C5.but _ _ (C24.ned l0) hl4
            refine ⟨l, _, _, rfl, rfl, hl5, szl (by rw [List.length_map]; omega), ?_⟩
            refine ⟨l, _, _, _, _, _, rfl, bs ++ [t], rs ++ [r], (C24.trans C5).mut l0, l0, by rw [upd_same, List.map_append]; rfl, ?_, by rw [List.length_append, List.length_singleton]; omega, by rw [tests_app, tests_one, isT_plain hp, List.length_append, List.length_singleton]; omega, ?_⟩
            · exact RowsAt.kp (Paired.app (hR4.kp C5.kp) (Paired.one ht)) (Kp.lst hl5)
            · rw [List.length_append, List.length_singleton]
              exact all_snoc (fun y m => (ho y m).mono (by omega)) (ho5.mono (by omega))
        | false =>
          refine ⟨_, rfl, rfl, _, rfl, ite2 (fun _ => ?_) (fun _ => ?_)⟩
          · refine ⟨_, rfl, _, rfl, _, rfl, d, sa, ns, a + rs.length, ?_, C24.ent, fun l2 bs2 rs2 H5 C5 nl2 hl2 hR2 h21 h26 hT2 ho2 => ?_⟩
            · show [V.ref d, V.int ((a : Int) + ((bs.map V.ref).length : Int))] = _
              rw [hh]
            · have hl5 := C5.but _ _ (C24.ned l0) hl4
              have hb2 := Paired.length hR2
              refine ⟨l, l2, _, _, rfl, rfl, hl5, hl2, sz (by rw [List.length_map, List.length_map]; omega), fun l3 hl3 => ?_⟩
              refine ⟨l3, _, _, _, _, _, rfl, bs ++ bs2, rs ++ rs2, (C24.trans C5).new hl3, (C24.trans C5).here hl3, by rw [upd_same, List.map_append], ?_, by rw [List.length_append]; omega, by rw [tests_app, List.length_append]; omega, ?_⟩
              · exact RowsAt.kp (Paired.app (hR4.kp C5.kp) hR2) (Kp.new hl3)
              · rw [List.length_append]
                exact all_app (fun y m => (ho y m).mono (by omega)) (fun y m => (ho2 y m).mono (by omega))
          · refine ⟨_, rfl, _, _, rfl, rfl, _, rfl, ite2 (fun c => ?_) (fun _ => ?_)⟩
            · have hn0 : 0 < n := by
                have c := of_decide_eq_true c
                omega
              have hPn : PB n = 6 + 3 * PB (n - 1) := by
                obtain ⟨n', e⟩ : ∃ n', n = n' + 1 := ⟨n - 1, by omega⟩
                subst e
                rfl
              have hP1 := PB_le (n := n - 1) (by omega)
              refine ⟨_, rfl, _, rfl, _, _, rfl, rfl, _, rfl, _, _, rfl, rfl, ?_⟩
              refine hk hn0 _ _ _ _ ⟨d, sa, ns, a + rs.length + 2, ?_, by omega, C24.ent, fun li bsi rsi H5 C5 nli hli hRi hzi hTi hoi => ?_⟩
              · show [V.ref d, V.int ((a : Int) + ((bs.map V.ref).length : Int) + 2), V.int ((n : Int) - 1)] = [V.ref d, V.int ((a + rs.length + 2 : Nat) : Int), V.int ((n - 1 : Nat) : Int)]
                rw [hh, show ((n - 1 : Nat) : Int) = (n : Int) - 1 by omega]
                rfl
              · have hl5 := C5.but _ _ (C24.ned l0) hl4
                have hR5 := hR4.kp C5.kp
                have hbi := Paired.length hRi
                have C25 := C24.trans C5
                have nlli : l ≠ li := ne_of_none hl4 nli
                refine ⟨_, rfl, _, _, rfl, rfl, _, rfl, li, _, rfl, .inl (SqL.of hli), _, _, rfl, rfl, ?_⟩
                refine ⟨_, rfl, _, rfl, _, rfl, _, _, rfl, rfl, (by show 3 ≤ sizeLine; decide), fun t1 ht1 => ?_⟩
                refine alloc ht1 fun H6 s6 e6 => ?_
                refine ⟨_, rfl, _, _, rfl, rfl, _, rfl, _, _, rfl, rfl, (by show 3 ≤ sizeLine; decide), fun t2 ht2 => ?_⟩
                refine alloc ht2 fun H7 s7 e7 => ?_
                refine ⟨(by show 2 ≤ sizeLine; decide), fun l6 hl6 => ?_⟩
                refine alloc hl6 fun H8 s8 e8 => ?_
                have S58 := (s6.trans s7).trans s8
                refine ⟨l, l6, _, _, rfl, rfl, S58 _ _ hl5, e8, sz (by rw [List.length_map]; show _ + 2 ≤ _; omega), fun l7 hl7 => ?_⟩
                refine alloc hl7 fun H9 s9 e9 => ?_
                refine ⟨_, rfl, l7, li, _, _, rfl, rfl, e9, (S58.trans s9) _ _ hli, sz (by rw [List.length_append, List.length_map, List.length_map]; show _ + 2 + _ ≤ _; omega), fun l8 hl8 => ?_⟩
                refine alloc hl8 fun H10 s10 e10 => ?_
                refine ⟨_, rfl, _, rfl, _, _, rfl, rfl, _, rfl, _, _, rfl, rfl, (by show 3 ≤ sizeLine; decide), fun t3 ht3 => ?_⟩
                refine alloc ht3 fun H11 s11 e11 => ?_
                refine ⟨_, rfl, _, _, rfl, rfl, (by show 3 ≤ sizeLine; decide), fun t4 ht4 => ?_⟩
                refine alloc ht4 fun H12 s12 e12 => ?_
                refine ⟨_, rfl, _, _, rfl, rfl, _, rfl, _, _, rfl, rfl, (by show 3 ≤ sizeLine; decide), fun t5 ht5 => ?_⟩
                refine alloc ht5 fun H13 s13 e13 => ?_
                refine ⟨(by show 3 ≤ sizeLine; decide), fun l9 hl9 => ?_⟩
                refine alloc hl9 fun H14 s14 e14 => ?_
                have S1014 := ((s11.trans s12).trans s13).trans s14
                refine ⟨l8, l9, _, _, rfl, rfl, S1014 _ _ e10, e14, sz (by rw [List.length_append, List.length_append, List.length_map, List.length_map]; show _ + 2 + _ + 3 ≤ _; omega), fun l10 hl10 => ?_⟩
                refine alloc hl10 fun H15 s15 e15 => ?_
                refine ⟨_, rfl, .inl ⟨rfl, _, SqL.of e15⟩, _, rfl, _, _, rfl, rfl, _, rfl, _, _, rfl, rfl, (by show 3 ≤ sizeLine; decide), fun t6 ht6 => ?_⟩
                refine alloc ht6 fun H16 s16 e16 => ?_
                have S516 := (((S58.trans s9).trans s10).trans S1014).trans (s15.trans s16)
                have C26 := C25.same S516
                have n10 : H l10 = none := C25.here ((((S58.trans s9).trans s10).trans S1014).free hl10)
                have f10 : H16 l10 = some (.lst (((bs.map V.ref ++ [.ref t1, .ref t2]) ++ bsi.map V.ref) ++ [.ref t3, .ref t4, .ref t5])) := s16 _ _ e15
                refine ⟨l10, _, _, rfl, rfl, f10, szl (by simp only [List.length_append, List.length_map, List.length_cons, List.length_nil]; omega), ?_⟩
                refine ⟨l10, _, _, _, _, _, rfl, ((bs ++ [t1, t2]) ++ bsi) ++ ([t3, t4, t5] ++ [t6]),
                  ((rs ++ [Row.load n (a + rs.length + 1), .store (2 + n) (a + rs.length + 2)]) ++ rsi) ++ ([Row.load (2 + n) (a + rs.length + 2 + rsi.length + 1), .take 0 (a + rs.length + 2 + rsi.length + 2), .store (2 + n) (a + rs.length + 2 + rsi.length + 3)] ++ [Row.test (a + rs.length + 2 + rsi.length + 4) (a + rs.length + 2)]),
                  C26.mut n10, n10, ?_, ?_, ?_, ?_, ?_⟩
                · rw [upd_same]
                  simp only [List.map_append, List.map_cons, List.map_nil, List.append_assoc]
                · refine RowsAt.kp ?_ (Kp.lst f10)
                  have hbe : (a : Int) + ((bs.map V.ref).length : Int) + 2 + ((bsi.map V.ref).length : Int) = ((a + rs.length + 2 + rsi.length : Nat) : Int) := by rw [hh, List.length_map, hbi]; rfl
                  refine Paired.app (Paired.app (Paired.app (hR5.kp (Kp.same S516)) (.cons ?_ (.cons ?_ .nil))) (hRi.kp (Kp.same S516))) (Paired.app (.cons ?_ (.cons ?_ (.cons ?_ .nil))) (Paired.one ?_))
                  · refine (s7.trans (s8.trans (s9.trans (s10.trans (S1014.trans (s15.trans s16)))))) _ _ (e6.trans ?_)
                    show some (HO.tup [V.str "load", V.int (n : Int), V.int ((a : Int) + ((bs.map V.ref).length : Int) + 1)]) = _
                    rw [hh]
                    rfl
                  · refine (s8.trans (s9.trans (s10.trans (S1014.trans (s15.trans s16))))) _ _ (e7.trans ?_)
                    show some (HO.tup [V.str "store", V.int (2 + (n : Int)), V.int ((a : Int) + ((bs.map V.ref).length : Int) + 2)]) = _
                    rw [hh, show (2 : Int) + (n : Int) = ((2 + n : Nat) : Int) by omega]
                    rfl
                  · refine (s12.trans (s13.trans (s14.trans (s15.trans s16)))) _ _ (e11.trans ?_)
                    show some (HO.tup [V.str "load", V.int (2 + (n : Int)), V.int ((a : Int) + ((bs.map V.ref).length : Int) + 2 + ((bsi.map V.ref).length : Int) + 1)]) = _
                    rw [hbe, show (2 : Int) + (n : Int) = ((2 + n : Nat) : Int) by omega]
                    rfl
                  · refine (s13.trans (s14.trans (s15.trans s16))) _ _ (e12.trans ?_)
                    show some (HO.tup [V.str "take", V.int 0, V.int ((a : Int) + ((bs.map V.ref).length : Int) + 2 + ((bsi.map V.ref).length : Int) + 2)]) = _
                    rw [hbe]
                    rfl
                  · refine (s14.trans (s15.trans s16)) _ _ (e13.trans ?_)
                    show some (HO.tup [V.str "store", V.int (2 + (n : Int)), V.int ((a : Int) + ((bs.map V.ref).length : Int) + 2 + ((bsi.map V.ref).length : Int) + 3)]) = _
                    rw [hbe, show (2 : Int) + (n : Int) = ((2 + n : Nat) : Int) by omega]
                    rfl
                  · refine e16.trans ?_
                    show some (HO.tup [V.str "test", V.int ((a : Int) + ((bs.map V.ref).length : Int) + 2 + ((bsi.map V.ref).length : Int) + 4), V.int ((a : Int) + ((bs.map V.ref).length : Int) + 2)]) = _
                    rw [hbe, hh]
                    rfl
                · simp only [List.length_append, List.length_cons, List.length_nil]
                  omega
                · have t1 := isT_le (.test (a + rs.length + 2 + rsi.length + 4) (a + rs.length + 2))
                  have q1 : isT (.load n (a + rs.length + 1)) = 0 := isT_plain trivial
                  have q2 : isT (.store (2 + n) (a + rs.length + 2)) = 0 := isT_plain trivial
                  have q3 : isT (.load (2 + n) (a + rs.length + 2 + rsi.length + 1)) = 0 := isT_plain trivial
                  have q4 : isT (.take 0 (a + rs.length + 2 + rsi.length + 2)) = 0 := isT_plain trivial
                  have q5 : isT (.store (2 + n) (a + rs.length + 2 + rsi.length + 3)) = 0 := isT_plain trivial
                  simp only [tests_app, tests_cons, tests_one, show tests [] = 0 from rfl, q1, q2, q3, q4, q5, List.length_append, List.length_cons, List.length_nil]
                  omega
                · have hL : (((rs ++ [Row.load n (a + rs.length + 1), .store (2 + n) (a + rs.length + 2)]) ++ rsi) ++ ([Row.load (2 + n) (a + rs.length + 2 + rsi.length + 1), .take 0 (a + rs.length + 2 + rsi.length + 2), .store (2 + n) (a + rs.length + 2 + rsi.length + 3)] ++ [Row.test (a + rs.length + 2 + rsi.length + 4) (a + rs.length + 2)])).length = rs.length + rsi.length + 6 := by
                    simp only [List.length_append, List.length_cons, List.length_nil]
                    omega
                  rw [hL]
                  refine all_app (all_app (all_app (fun y m => (ho y m).mono (by omega)) ?_) (fun y m => (hoi y m).mono (by omega))) (all_app ?_ ?_)
                  all_goals
                    intro y m
                    simp only [List.mem_cons, List.mem_singleton, List.not_mem_nil, or_false] at m
                    first
                      | (rcases m with rfl | rfl | rfl <;> (simp only [Row.ok]; omega))
                      | (rcases m with rfl | rfl <;> (simp only [Row.ok]; omega))
                      | (rcases m with rfl; simp only [Row.ok]; omega)
            · exact ⟨l, _, _, _, _, _, rfl, bs, rs, C24, l0, hl4, hR4, by omega, hT, ho⟩
      · intro F' hF
        refine ⟨_, rfl, _, _, rfl, rfl, _, rfl, ite2 (fun _ => hF _ _ C3) (fun _ => ?_)⟩
        refine ⟨_, rfl, rfl, _, rfl, ite2 (fun _ => ?_) (fun _ => hF _ _ C3)⟩
        refine ⟨_, rfl, _, _, rfl, rfl, _, rfl, ite2 (fun _ => ?_) (fun _ => hF _ _ C3)⟩
        refine ⟨_, rfl, d, sa, ns, _, rfl, (C2.trans C3).ent, by decide, by decide, fun n7 H5 n70 n71 C5 => ?_⟩
        exact ⟨rfl, _, rfl, hF _ _ (C3.trans C5)⟩
    · rintro σ H2 ⟨l, x4, x5, x6, x7, x8, rfl, bs, rs, C2, l0, hl, hR, hz, hT, ho⟩
      refine ⟨_, rfl, kq l bs rs H2 C2 l0 hl hR ?_ hT ho⟩
      refine Nat.le_trans hz (Nat.mul_le_mul_right _ ?_)
      omega
theorem ok_body (cBody : FBody K mg) (cFork : FFork K mg) (cStraight : FStraight K mg) (cNext : FNext K mg) (T : Bt mg) : ∀ n : Nat, FnOk P w K mg base CX0 (n + 4) cBody.f cBody.fd pBody (spBody K n)
  | 0 => body_one (k := 3) cBody cFork cStraight cNext T (Nat.le_refl _) ok_no (fun h => absurd h (Nat.lt_irrefl 0))
  | n + 1 => body_one (k := n + 4) cBody cFork cStraight cNext T (by omega) (ok_body cBody cFork cStraight cNext T n) (fun _ vs H Q E h => h)
def spBodyU (K : Frg) : Sp := fun vs H Q E => ∃ n, n ≤ 2 ∧ spBody K n vs H Q E
theorem ok_bodyU (cBody : FBody K mg) (cFork : FFork K mg) (cStraight : FStraight K mg) (cNext : FNext K mg) (T : Bt mg) : FnOk P w K mg base CX0 6 cBody.f cBody.fd pBody (spBodyU K) := by
  refine ⟨fun vs H Q E ⟨n, hn, h⟩ => (ok_body (P := P) (w := w) (base := base) cBody cFork cStraight cNext T n).len _ _ _ _ h, fun A outer s H args us vs Q E hr he hb hv ⟨n, hn, h⟩ => ?_⟩
  exact ((ok_body cBody cFork cStraight cNext T n).mono (by omega)).run A outer s H args us vs Q E hr he hb hv h
end
end DL
namespace DL
open PySem L2 DLR
/-! ### programs -/
structure Prog where
  ws : List Int
  rows : List Row
structure Good (p : Prog) : Prop where
  r1 : 1 ≤ p.rows.length
  r40 : p.rows.length ≤ 40
  w8 : p.ws.length ≤ 8
  num : ∀ x ∈ p.ws, -1000000 ≤ x ∧ x ≤ 1000000
  ok : ∀ r ∈ p.rows, r.ok p.ws.length p.rows.length
def ProgAt (H : Hp) (a : Addr) (p : Prog) : Prop :=
  ∃ (wa ra : Addr) (bs : List Addr), H a = some (.tup [.ref wa, .ref ra]) ∧ H wa = some (.tup (p.ws.map V.int)) ∧ H ra = some (.tup (bs.map V.ref)) ∧ RowsAt H bs p.rows
theorem ProgAt.kp {H H' : Hp} {a : Addr} {p : Prog} (h : ProgAt H a p) (k : Kp H H') : ProgAt H' a p := by
  obtain ⟨wa, ra, bs, h1, h2, h3, h4⟩ := h
  exact ⟨wa, ra, bs, k _ _ h1, k _ _ h2, k _ _ h3, h4.kp k⟩
def nI (n : Nat) : V := .int (n : Int)
def PopAt (K : Frg) (H0 : Hp) (d sa : Addr) (ns : List Int) (D l : Addr) (all : List Nat) (i : Nat) (H : Hp) : Prop :=
  ∃ ks ls : List Nat, Dc K H0 H d sa ns ∧ H0 D = none ∧ H0 l = none ∧ D ≠ l ∧ H D = some (.lst (ks.map nI)) ∧ H l = some (.lst (ls.map nI)) ∧ (ks ++ ls).Perm all ∧ ks.length = i
theorem PopAt.perm {K : Frg} {H0 H : Hp} {d sa : Addr} {ns : List Int} {D l : Addr} {all : List Nat} (h : PopAt K H0 d sa ns D l all all.length H) :
    ∃ ks : List Nat, Dc K H0 H d sa ns ∧ H0 D = none ∧ H D = some (.lst (ks.map nI)) ∧ ks.Perm all := by
  obtain ⟨ks, ls, C, nD, nl, ne, hD, hl, hp, hk⟩ := h
  have e := hp.length_eq
  rw [List.length_append, hk] at e
  have z : ls = [] := List.length_eq_zero_iff.mp (by omega)
  subst z
  rw [List.append_nil] at hp
  exact ⟨ks, C, nD, hD, hp⟩
theorem erase_pm {α : Type} : ∀ {l : List α} {j : Nat} {x : α}, l[j]? = some x → (x :: l.eraseIdx j).Perm l
  | [], j, x, h => by simp at h
  | y :: l, 0, x, h => by
    have e : y = x := by simpa using h
    subst e
    exact List.Perm.refl _
  | y :: l, j + 1, x, h => by
    have ih := erase_pm (l := l) (j := j) (x := x) (by simpa using h)
    exact (List.Perm.swap y x _).trans (List.Perm.cons y ih)
theorem sl1 {xs : List V} (h : 1 ≤ xs.length) : cutV xs none (some 1) = xs.take 1 := by
  unfold cutV
  have e : HT.sIx xs.length xs.length (some 1) = min 1 xs.length := HT.sIx_nat _ _ 1
  rw [e, HT.sIx_none, List.drop_zero, Nat.sub_zero, Nat.min_eq_left h]
theorem drop1 {xs : List V} : cutV xs (some 1) none = xs.drop 1 := by
  unfold cutV
  have e : HT.sIx xs.length 0 (some 1) = min 1 xs.length := HT.sIx_nat _ _ 1
  rw [e, HT.sIx_none]
  cases xs with
  | nil => rfl
  | cons x xs =>
    have q : min 1 (x :: xs).length = 1 := Nat.min_eq_left (by simp)
    rw [q]
    exact List.take_of_length_le (by simp)
theorem map_erase {α β : Type} (f : α → β) : ∀ (l : List α) (j : Nat), (l.eraseIdx j).map f = (l.map f).eraseIdx j
  | [], _ => rfl
  | _ :: _, 0 => rfl
  | x :: l, j + 1 => by
    show f x :: (l.eraseIdx j).map f = f x :: (l.map f).eraseIdx j
    rw [map_erase f l j]
theorem pop_perm {ks ls all : List Nat} {j : Nat} {x : Nat} (h : (ks ++ ls).Perm all) (e : ls[j]? = some x) : ((ks ++ [x]) ++ ls.eraseIdx j).Perm all := by
  refine List.Perm.trans ?_ h
  rw [List.append_assoc]
  exact List.Perm.append_left _ (erase_pm e)
theorem nI_get {l : List Nat} {j : Nat} (h : j < l.length) : (l.map nI)[j]? = some (.int ((l[j] : Nat) : Int)) := by
  rw [List.getElem?_map, List.getElem?_eq_getElem h]
  rfl
theorem nI_getD {l : List Nat} {j : Nat} (h : j < l.length) : (l.map nI)[j]? = some (.int ((l.getD j 0 : Nat) : Int)) := by
  rw [nI_get h, List.getD_eq_getElem?_getD, List.getElem?_eq_getElem h]
  rfl
theorem nI_flat (l : List Nat) : (l.map nI).all flatV = true := by
  rw [List.all_eq_true]
  intro x hx
  obtain ⟨n, _, rfl⟩ := List.mem_map.mp hx
  rfl
theorem nI_none {l : List Nat} {x m : Nat} {z : V} (h : l[m]? ≠ some x) (e : (l.map nI)[m]? = some z) : eqV z (.int (x : Int)) = false := by
  rw [List.getElem?_map] at e
  cases q : l[m]? with
  | none => rw [q] at e; cases e
  | some y =>
    rw [q] at e
    have ez : nI y = z := Option.some.inj e
    subst ez
    show ((y : Int) == (x : Int)) = false
    refine beq_eq_false_iff_ne.mpr fun z => h ?_
    rw [q, Int.ofNat_inj.mp z]
theorem rgV_nI (n : Nat) : rgV 0 (n : Int) = (List.range n).map nI := by
  unfold rgV
  have e : ((n : Int) - 0).toNat = n := by omega
  rw [e]
  refine List.map_congr_left fun i _ => ?_
  show V.int (0 + (i : Int)) = V.int (i : Int)
  rw [Int.zero_add]
theorem rgV_nI1 (n : Nat) : rgV 1 (n : Int) = ((List.range (n - 1)).map (· + 1)).map nI := by
  unfold rgV
  have e : ((n : Int) - 1).toNat = n - 1 := by omega
  rw [e, List.map_map]
  refine List.map_congr_left fun i _ => ?_
  show V.int (1 + (i : Int)) = V.int ((i + 1 : Nat) : Int)
  rw [show ((i + 1 : Nat) : Int) = 1 + (i : Int) by omega]
def Row.ren (f g : Nat → Nat) : Row → Row
  | .load w n => .load (f w) (g n)
  | .add w n => .add (f w) (g n)
  | .take w n => .take (f w) (g n)
  | .store w n => .store (f w) (g n)
  | .say n => .say (g n)
  | .test a b => .test (g a) (g b)
  | .stop => .stop
def Row.uses : Row → Bool
  | .load _ _ => true
  | .add _ _ => true
  | .take _ _ => true
  | .store _ _ => true
  | _ => false
def Row.word : Row → Str
  | .load _ _ => "load"
  | .add _ _ => "add"
  | .take _ _ => "take"
  | .store _ _ => "store"
  | .say _ => "say"
  | .test _ _ => "test"
  | .stop => "stop"
theorem Row.w0 (r : Row) : (rowVs r)[0]? = some (.str r.word) := by cases r <;> rfl
theorem Row.ren_len (f g : Nat → Nat) (r : Row) : (rowVs (r.ren f g)).length = (rowVs r).length := by cases r <;> rfl
theorem Row.ren_w (f g : Nat → Nat) (r : Row) : (rowVs r).take 1 = (rowVs (r.ren f g)).take 1 := by cases r <;> rfl
theorem Row.ren_ok {f g : Nat → Nat} {W N : Nat} (hf : ∀ x, x < W → f x < W) (hg : ∀ x, x < N → g x < N) : ∀ {r : Row}, r.ok W N → (r.ren f g).ok W N := fun {r} h => by
  cases r <;> simp only [Row.ok, Row.ren] at * <;> first | exact ⟨hf _ h.1, hg _ h.2⟩ | exact ⟨hg _ h.1, hg _ h.2⟩ | exact hg _ h
theorem Row.ren_at {f g : Nat → Nat} {W N : Nat} : ∀ {r : Row} {i : Nat}, r.ok W N → i + 1 < (rowVs r).length → ∃ x : Nat, (rowVs r)[i + 1]? = some (.int (x : Int)) ∧
    ((i == 0 && r.uses) = true → x < W ∧ (rowVs (r.ren f g))[i + 1]? = some (.int (f x : Int))) ∧ ((i == 0 && r.uses) = false → x < N ∧ (rowVs (r.ren f g))[i + 1]? = some (.int (g x : Int))) := by
  intro r i h hi
  have hi3 : i < 2 := by have := Row.vs_len r; omega
  match i, hi3 with
  | 0, _ =>
    cases r <;> first
      | exact ⟨_, rfl, fun _ => ⟨h.1, rfl⟩, fun e => Bool.noConfusion e⟩
      | exact ⟨_, rfl, fun e => Bool.noConfusion e, fun _ => ⟨h, rfl⟩⟩
      | exact ⟨_, rfl, fun e => Bool.noConfusion e, fun _ => ⟨h.1, rfl⟩⟩
      | (exfalso; simp [rowVs] at hi)
  | 1, _ =>
    cases r <;> first
      | exact ⟨_, rfl, fun e => Bool.noConfusion e, fun _ => ⟨h.2, rfl⟩⟩
      | (exfalso; simp [rowVs] at hi)
theorem Row.in4 (r : Row) : inV (.str r.word) [.str "load", .str "add", .str "take", .str "store"] = r.uses := by cases r <;> (dsimp only [Row.word, Row.uses]; decide +kernel)
theorem first_of {l : List Nat} {x : Nat} (h : x ∈ l) : ∃ j, j < l.length ∧ l[j]? = some x ∧ ∀ m, m < j → l[m]? ≠ some x := by
  induction l with
  | nil => cases h
  | cons y l ih =>
    by_cases e : y = x
    · exact ⟨0, by simp, by simp [e], fun m hm => absurd hm (Nat.not_lt_zero _)⟩
    · obtain ⟨j, h1, h2, h3⟩ := ih ((List.mem_cons.mp h).resolve_left fun z => e z.symm)
      refine ⟨j + 1, by simp; omega, by simpa using h2, fun m hm => ?_⟩
      cases m with
      | zero => simpa using e
      | succ m => simpa using h3 m (by omega)
theorem refs_of {F : Addr → Row → Prop} : ∀ {l : List V}, (∀ i, i < l.length → ∃ b r, l[i]? = some (.ref b) ∧ F b r) → ∃ bs rs, l = bs.map V.ref ∧ Paired F bs rs
  | [], _ => ⟨[], [], rfl, .nil⟩
  | x :: l, h => by
    obtain ⟨b, r, h1, h2⟩ := h 0 (by simp)
    obtain ⟨bs, rs, h3, h4⟩ := refs_of (l := l) fun i hi => by
      obtain ⟨b, r, q1, q2⟩ := h (i + 1) (by simp; omega)
      exact ⟨b, r, by simpa using q1, q2⟩
    have e : x = .ref b := by simpa using h1
    exact ⟨b :: bs, r :: rs, by rw [e, h3]; rfl, .cons h2 h4⟩
theorem asg_elim {te : TE} {g : TG} {D : Ends} {σ : L2.St} {H : Hp} (R : V → Hp → Prop) (key : ∀ v H', R v H' → g v σ H' D.nx) (test : ∀ Q' : VK, (∀ v H', R v H' → Q' v H') → te σ H Q') : tAsg te g D σ H := test _ key
theorem ixN_nat {n x : Nat} (h : x < n) : ixN n (x : Int) = some x := by
  unfold ixN
  rw [if_pos (by omega), if_pos (by omega)]
  rfl
structure MixAt (K : Frg) (H0 : Hp) (d sa : Addr) (ns : List Int) (D1 ln lf : Addr) (ks nums ts : List Nat) (W N : Nat) (i : Nat) (H : Hp) : Prop where
  dc : Dc K H0 H d sa ns
  nf : H0 lf = none
  ne1 : D1 ≠ lf
  ne2 : ln ≠ lf
  names : H D1 = some (.lst (ks.map nI))
  numbers : H ln = some (.lst (nums.map nI))
  found : ∃ fs : List V, H lf = some (.lst fs) ∧ fs.length = N ∧ ∀ x, x < N → x ∈ nums.take i → ∃ b r, fs[x]? = some (.ref b) ∧ H b = some (.tup (rowVs r)) ∧ r.ok W N ∧ ∃ j, nums[j]? = some x ∧ isT r = ts.getD j 0
theorem MixAt.same {K : Frg} {H0 H H' : Hp} {d sa : Addr} {ns : List Int} {D1 ln lf : Addr} {ks nums ts : List Nat} {W N i : Nat} (m : MixAt K H0 d sa ns D1 ln lf ks nums ts W N i H) (s : Same1 H H') : MixAt K H0 d sa ns D1 ln lf ks nums ts W N i H' := by
  obtain ⟨fs, h1, h2, h3⟩ := m.found
  refine ⟨m.dc.same s, m.nf, m.ne1, m.ne2, s _ _ m.names, s _ _ m.numbers, fs, s _ _ h1, h2, fun x hx hm => ?_⟩
  obtain ⟨b, r, q1, q2, q3⟩ := h3 x hx hm
  exact ⟨b, r, q1, s _ _ q2, q3⟩
theorem MixAt.put {K : Frg} {H0 H : Hp} {d sa : Addr} {ns : List Int} {D1 ln lf : Addr} {ks nums ts : List Nat} {W N i y : Nat} {t : Addr} {r : Row} {fs : List V} (m : MixAt K H0 d sa ns D1 ln lf ks nums ts W N i H) (hf : H lf = some (.lst fs)) (hy : nums[i]? = some y) (hyN : y < N)
    (ht : H t = some (.tup (rowVs r))) (ho : r.ok W N) (hT : isT r = ts.getD i 0) : MixAt K H0 d sa ns D1 ln lf ks nums ts W N (i + 1) (upd H lf (.lst (fs.set y (.ref t)))) := by
  obtain ⟨fs', h1, h2, h3⟩ := m.found
  rw [hf] at h1
  have e : fs = fs' := by injection (Option.some.inj h1)
  subst e
  have kp : Kp H (upd H lf (.lst (fs.set y (.ref t)))) := Kp.lst hf
  refine ⟨m.dc.mut m.nf, m.nf, m.ne1, m.ne2, by rw [upd_ne m.ne1]; exact m.names, by rw [upd_ne m.ne2]; exact m.numbers, fs.set y (.ref t), upd_same, by rw [List.length_set]; exact h2, fun x hx hm => ?_⟩
  by_cases e : y = x
  · subst e
    exact ⟨t, r, by rw [List.getElem?_set_self (by omega)], kp _ _ ht, ho, i, hy, hT⟩
  · rw [List.getElem?_set_ne e]
    rw [List.take_add_one, hy] at hm
    rcases List.mem_append.mp hm with q | q
    · obtain ⟨b, r, q1, q2, q3⟩ := h3 x hx q
      exact ⟨b, r, q1, kp _ _ q2, q3⟩
    · have q : x = y := by simpa using q
      exact absurd q.symm e
theorem isT_of {r r' : Row} (h : rowVs r = rowVs r') : isT r = isT r' := by
  unfold isT
  rw [h]
theorem isT_ren (f g : Nat → Nat) (r : Row) : isT (r.ren f g) = isT r := by
  unfold isT
  have e : (rowVs (r.ren f g))[0]? = (rowVs r)[0]? := by cases r <;> rfl
  rw [e]
theorem permN_sum {α : Type} {f : α → Nat} {l m : List α} (h : l.Perm m) : (l.map f).sum = (m.map f).sum := by
  induction h with
  | nil => rfl
  | cons x _ ih => rw [List.map_cons, List.map_cons, List.sum_cons, List.sum_cons, ih]
  | swap x y l =>
    rw [List.map_cons, List.map_cons, List.map_cons, List.map_cons, List.sum_cons, List.sum_cons, List.sum_cons, List.sum_cons]
    omega
  | trans _ _ a b => rw [a, b]
theorem tests_range (rs : List Row) : tests rs = ((List.range rs.length).map fun x => isT (rs.getD x .stop)).sum := by
  unfold tests
  congr 1
  refine List.ext_getElem (by simp) fun i h1 h2 => ?_
  rw [List.length_map] at h1
  rw [List.getElem_map, List.getElem_map, List.getElem_range, List.getD_eq_getElem?_getD, List.getElem?_eq_getElem h1]
  rfl
theorem tests_perm {rs rs' : List Row} {nums : List Nat} (hl : rs'.length = rs.length) (hp : nums.Perm (List.range rs.length)) (h : ∀ x, x < rs.length → ∃ j, nums[j]? = some x ∧ isT (rs'.getD x .stop) = (rs.map isT).getD j 0) : tests rs' = tests rs := by
  have nd : nums.Nodup := hp.nodup_iff.mpr List.nodup_range
  rw [tests_range rs', hl, ← permN_sum hp]
  unfold tests
  congr 1
  have nl : nums.length = rs.length := by rw [hp.length_eq, List.length_range]
  refine List.ext_getElem (by rw [List.length_map, List.length_map, nl]) fun i h1 h2 => ?_
  rw [List.length_map] at h1 h2
  rw [List.getElem_map, List.getElem_map]
  have hx : nums[i] < rs.length := List.mem_range.mp (hp.mem_iff.mp (List.getElem_mem h1))
  obtain ⟨j, hj, e⟩ := h nums[i] hx
  obtain ⟨hj1, hj2⟩ := List.getElem?_eq_some_iff.mp hj
  have ij : j = i := (List.getElem_inj nd).mp hj2
  subst ij
  rw [e, List.getD_eq_getElem?_getD, List.getElem?_map, List.getElem?_eq_getElem h2]
  rfl
abbrev sMixed : Stmt := top 78
abbrev pMixed : List Str := ["_law_d", "_law_program"]
abbrev FMixed (K : Frg) (mg : Str → Option Value) := Fd K mg "_law_mixed" sMixed pMixed
def spMixed (K : Frg) : Sp := fun vs H Q _ => ∃ (d sa : Addr) (ns : List Int) (a : Addr) (p : Prog), vs = [.ref d, .ref a] ∧ Ent K H d sa ns ∧ ProgAt H a p ∧ Good p ∧
  ∀ b q H', Dc K H H' d sa ns → ProgAt H' b q → Good q → tests q.rows = tests p.rows → q.rows.length = p.rows.length → Q (.ref b) H'
section
variable {P : Program} {w : World} {K : PySem.W.Frag} {mg : Str → Option Value} {base : Heap}
abbrev nMixed : List Str := ["_law_d", "_law_program", "_law_worths", "_law_rows", "_law_left", "_law_names", "_law_row", "_law_numbers", "_law_found", "_law_number", "_law_told_here", "_law_k", "_law_is_worth", "_law_order", "_law_worth"]
theorem scMixed : FnScope nMixed pMixed (defScope sMixed) := ⟨rfl, rfl, rfl, by decide +kernel, rfl, by decide +kernel, by decide +kernel⟩
theorem ok_mixed (cMixed : FMixed K mg) (cNext : FNext K mg) (T : Bt mg) : FnOk P w K mg base CX0 2 cMixed.f cMixed.fd pMixed (spMixed K) := by
  have GNext : FnOk P w K mg base CX0 1 cNext.f cNext.fd ["_law_dice_here", "_law_many"] (spNext K) := ok_next cNext.F T
  refine cMixed.F.ok scMixed (fun vs H Q E h => ?_) (fun cdv A outer s H vs Q E hr h => ?_)
  · obtain ⟨d, sa, ns, a, p, rfl, _⟩ := h
    rfl
  · obtain ⟨d, sa, ns, a, p, rfl, hE, ⟨wa, ra, bs, ha, hwa, hra, hR⟩, g, kq⟩ := h
    refine ⟨_, (pss_cons (ps_asg (pv 1) (pg_tup rfl (pgs_cons (pg_name (i := 2) scMixed.nd rfl (Or.inr rfl)) (pgs_cons (pg_name (i := 3) scMixed.nd rfl (Or.inl rfl)) pgs_nil))))
      (pss_cons (ps_set (i := 4) scMixed.nd rfl (Or.inr rfl) (pe_listRg rfl (by rfl) T.list (prg_1 (by rfl) T.range (pe_callB call_len_seq (by rfl) T.len PySem.boot_len (pa_cons (pv 2) pa_nil)))))
      (pss_cons (ps_set (i := 5) scMixed.nd rfl (Or.inr rfl) (pe_lc (own := [("_law_worth", 14)]) (g := gName 14) (tt := tYes) rfl scMixed.nd (pi_tup (pv 2)) (blkOk_by (N := nMixed) (sc := defScope sMixed) (by decide +kernel)) (fun _ _ _ _ _ => (pg_name (i := 14) scMixed.nd rfl (Or.inl rfl))) (fun _ _ _ _ _ => pts_nil) (fun _ _ _ _ _ => (pe_bmK K rfl PySem.F.plainAttrs_list PySem.F.slot_list_pop PySem.F.type_list_pop mt_popAt (pv 4) (pa_cons (pe_call GNext (hr.mono (by first | omega | decide)) (by rfl) cNext.m cNext.F.kp cNext.b .nil pass0 (pa_cons (pv 0) (pa_cons (pe_callB (call_lenK K rfl) (by rfl) T.len PySem.boot_len (pa_cons (pv 4) pa_nil)) pa_nil))) pa_nil)))))
      (pss_cons (ps_set (i := 4) scMixed.nd rfl (Or.inr rfl) (pe_listRg rfl (by rfl) T.list (prg_2 (by rfl) T.range pe_int (pe_callB call_len_seq (by rfl) T.len PySem.boot_len (pa_cons (pv 3) pa_nil)))))
      (pss_cons (ps_set (i := 7) scMixed.nd rfl (Or.inl rfl) (pe_op op_cat (pe_lst (pa_cons pe_int pa_nil)) (pe_lc (own := [("_law_row", 6)]) (g := gName 6) (tt := tYes) rfl scMixed.nd (pi_tup (pe_slice sl_tupS (pv 3) (po_some pe_int) po_none)) (blkOk_by (N := nMixed) (sc := defScope sMixed) (by decide +kernel)) (fun _ _ _ _ _ => (pg_name (i := 6) scMixed.nd rfl (Or.inl rfl))) (fun _ _ _ _ _ => pts_nil) (fun _ _ _ _ _ => (pe_bmK K rfl PySem.F.plainAttrs_list PySem.F.slot_list_pop PySem.F.type_list_pop mt_popAt (pv 4) (pa_cons (pe_call GNext (hr.mono (by first | omega | decide)) (by rfl) cNext.m cNext.F.kp cNext.b .nil pass0 (pa_cons (pv 0) (pa_cons (pe_callB (call_lenK K rfl) (by rfl) T.len PySem.boot_len (pa_cons (pv 4) pa_nil)) pa_nil))) pa_nil))))))
      (pss_cons (ps_set (i := 8) scMixed.nd rfl (Or.inl rfl) (pe_op op_rep (pe_lst (pa_cons pe_non pa_nil)) (pe_callB call_len_seq (by rfl) T.len PySem.boot_len (pa_cons (pv 3) pa_nil))))
      (pss_cons (ps_for PassesOwn.never rfl (pi_enumT (by rfl) T.enumerate (pa_cons (pv 3) pa_nil)) (pg_tup rfl (pgs_cons (pg_name (i := 9) scMixed.nd rfl (Or.inl rfl)) (pgs_cons (pg_name (i := 6) scMixed.nd rfl (Or.inl rfl)) pgs_nil)))
          (pss_cons (ps_set (i := 10) scMixed.nd rfl (Or.inl rfl) (pe_slice sl_tupS (pv 6) po_none (po_some pe_int)))
          (pss_cons (ps_for PassesOwn.never rfl (pi_range2 rfl T.range (pa_cons pe_int (pa_cons (pe_callB call_len_seq (by rfl) T.len PySem.boot_len (pa_cons (pv 6) pa_nil)) pa_nil))) (pg_name (i := 11) scMixed.nd rfl (Or.inl rfl))
              (pss_cons (ps_set (i := 12) scMixed.nd rfl (Or.inl rfl) (pe_and (pe_cmpR op_eq (pv 11) pe_int (nomark _)) (pe_one (pe_cmpR op_in_seq (pe_ix ix_tup (pv 6) pe_int (fun _ _ => rfl)) (pe_tup (pa_cons pe_str (pa_cons pe_str (pa_cons pe_str (pa_cons pe_str pa_nil))))) rfl))))
              (pss_one (ps_set (i := 10) scMixed.nd rfl (Or.inl rfl) (pe_op op_catS (pv 10) (pe_tup (pa_cons (pe_ix ix_list (pe_ifExp (pt_val (pv 12)) (pv 5) (pv 7)) (pe_ix ix_tup (pv 6) (pv 11) (fun _ _ => rfl)) (fun _ _ => rfl)) pa_nil)))))))
          (pss_one (ps_asg (pv 10) (pg_sub (pv 8) (pe_ix ix_list (pv 7) (pv 9) (fun _ _ => rfl)) set_list))))))
      (pss_cons (ps_setLc (i := 13) (own := [("_law_worth", 14)]) (g := gName 14) (tt := tYes) rfl scMixed.nd rfl rfl (sw_true rfl rfl rfl (by decide +kernel)) (pi_range1 rfl T.range (pa_cons (pe_callB call_len_seq (by rfl) T.len PySem.boot_len (pa_cons (pv 2) pa_nil)) pa_nil)) (blkOk_by (N := nMixed) (sc := defScope sMixed) (by decide +kernel)) (fun _ _ _ _ _ => (pg_name (i := 14) scMixed.nd rfl (Or.inl rfl))) (fun _ _ _ _ _ => pts_nil) (fun _ _ _ _ _ => (pe_bmK K rfl PySem.F.plainAttrs_list PySem.F.slot_list_index PySem.F.type_list_index (mt_indexK K rfl) (pv 5) (pa_cons (pv 14) pa_nil))))
      (pss_one (ps_ret (pe_tup (pa_cons (pe_callTy call_tuple_of (by rfl) T.tuple (by decide +kernel) (pa_cons (pe_lc (own := [("_law_worth", 14)]) (g := gName 14) (tt := tYes) rfl scMixed.nd (pi_list (pv 13)) (blkOk_by (N := nMixed) (sc := defScope sMixed) (by decide +kernel)) (fun _ _ _ _ _ => (pg_name (i := 14) scMixed.nd rfl (Or.inl rfl))) (fun _ _ _ _ _ => pts_nil) (fun _ _ _ _ _ => (pe_ix (ix_tupK K rfl) (pv 2) (pv 14) (fun _ _ => rfl)))) pa_nil)) (pa_cons (pe_callTy call_tuple_of (by rfl) T.tuple (by decide +kernel) (pa_cons (pv 8) pa_nil)) pa_nil))))))))))))), ?_⟩
    have hK0 := Dc.refl hE
    have hbr := Paired.length hR
    refine ⟨_, rfl, a, _, rfl, SqT.of ha, rfl, .ref wa, _, rfl, .ref ra, _, rfl, rfl, ?_⟩
    have hW8 := g.w8
    have hR40 := g.r40
    have hR1 := g.r1
    refine ⟨_, rfl, wa, _, rfl, .inr (SqT.of hwa), _, rfl, RgOk.of_le (Int.le_refl _) (by rw [List.length_map]; omega) (by omega) (by omega), fun l1 hl1 => ?_⟩
    refine alloc hl1 fun H1 s1 e1 => ?_
    rw [List.length_map, rgV_nI] at e1
    have C1 := hK0.same s1
    refine ⟨_, rfl, wa, rfl, ⟨_, SqT.of (s1 _ _ hwa)⟩, fun D1 hD1 => ?_⟩
    have nDl : D1 ≠ l1 := (ne_of_none e1 hD1).symm
    refine lc_tup (K := K) (a := wa) (xs := p.ws.map V.int) (PopAt K H d sa ns D1 l1 (List.range p.ws.length))
      ⟨[], _, C1.new hD1, C1.here hD1, hl1, nDl, upd_same, by rw [upd_ne nDl.symm]; exact e1, List.Perm.refl _, rfl⟩ (fun i H2 _ ⟨_, _, C, _⟩ => SqT.of (C.kp _ _ hwa)) ?_ ?_
    · rintro i x H2 hi ⟨ks, ls, C2, nD, nl, ne, hD, hl, hp, hk⟩
      have hiW : i < p.ws.length := by
        have q := (List.getElem?_eq_some_iff.mp hi).1
        rwa [List.length_map] at q
      have hle := hp.length_eq
      rw [List.length_append, hk, List.length_range] at hle
      refine ⟨rfl, _, rfl, .inl ⟨rfl, _, SqL.of hl⟩, _, rfl, _, rfl, l1, _, rfl, .inl (SqL.of hl), d, sa, ns, _, rfl, C2.ent, ?_, ?_, fun n H3 n0 n1 C3 => ?_⟩
      · rw [List.length_map]; omega
      · rw [List.length_map]; omega
      · rw [List.length_map] at n1
        obtain ⟨j, hj⟩ : ∃ j : Nat, n = (j : Int) := ⟨n.toNat, by omega⟩
        subst hj
        have hjl : j < ls.length := by omega
        have hl3 := C3.but _ _ (C2.ned nl) hl
        have hD3 := C3.but _ _ (C2.ned nD) hD
        refine ⟨l1, _, _, j, _, rfl, rfl, hl3, by omega, by omega, ?_, nI_get hjl, _, ?_, szl (show (ks.map nI).length < 100000 by rw [List.length_map]; omega), ?_⟩
        · rw [List.length_map, seqIndex_of (by omega) (by omega)]
          rfl
        · rw [upd_ne ne]; exact hD3
        · refine ⟨ks ++ [ls[j]], ls.eraseIdx j, ((C2.trans C3).mut nl).mut nD, nD, nl, ne, ?_, ?_, pop_perm hp (List.getElem?_eq_getElem hjl), by rw [List.length_append, hk]; rfl⟩
          · rw [upd_same, List.map_append]; rfl
          · rw [upd_ne ne.symm, upd_same, map_erase]
    · intro H2 h2
      rw [List.length_map] at h2
      obtain ⟨ks, C2, nD1, hks, hkp⟩ := PopAt.perm (all := List.range p.ws.length) (by rw [List.length_range]; exact h2)
      have hra2 := C2.kp _ _ hra
      refine ⟨_, rfl, ra, _, rfl, .inr (SqT.of hra2), _, _, rfl, rfl, RgOk.of_le (by decide) (by rw [List.length_map]; omega) (by decide) (by omega), fun l2 hl2 => ?_⟩
      refine alloc hl2 fun H3 s3 e3 => ?_
      rw [List.length_map, hbr, rgV_nI1] at e3
      have C3 := C2.same s3
      refine ⟨(by show 1 ≤ sizeLine; decide), fun l0 hl0 => ?_⟩
      refine alloc hl0 fun H4 s4 e4 => ?_
      have C4 := C3.same s4
      refine ⟨_, rfl, _, rfl, ra, _, rfl, C4.kp _ _ hra, fun p2 H5 s5 e5 => ?_⟩
      rw [drop1] at e5
      have C5 := C4.same s5
      refine ⟨p2, rfl, ⟨_, SqT.of e5⟩, fun D2 hD2 => ?_⟩
      have hxl : ((bs.map V.ref).drop 1).length = p.rows.length - 1 := by rw [List.length_drop, List.length_map, hbr]
      have el2 : H5 l2 = some (.lst (((List.range (p.rows.length - 1)).map (· + 1)).map nI)) := (s4.trans s5) _ _ e3
      have el0 : H5 l0 = some (.lst [.int 0]) := s5 _ _ e4
      have hks5 : H5 D1 = some (.lst (ks.map nI)) := ((s3.trans s4).trans s5) _ _ hks
      have nDl2 : D2 ≠ l2 := (ne_of_none el2 hD2).symm
      have nl2 : H l2 = none := C2.here hl2
      have nl0 : H l0 = none := C3.here hl0
      have nDa : D1 ≠ l2 := ne_of_none hks hl2
      have nDb : D1 ≠ D2 := ne_of_none hks5 hD2
      have nl02 : l0 ≠ l2 := (ne_of_none e3 hl0).symm
      have nl0D : l0 ≠ D2 := ne_of_none el0 hD2
      refine lc_tup (K := K) (a := p2) (xs := (bs.map V.ref).drop 1)
        (fun i H6 => PopAt K H d sa ns D2 l2 ((List.range (p.rows.length - 1)).map (· + 1)) i H6 ∧ H6 D1 = some (.lst (ks.map nI)) ∧ H6 l0 = some (.lst [.int 0]) ∧ H6 p2 = some (.tup ((bs.map V.ref).drop 1)))
        ⟨⟨[], _, C5.new hD2, C5.here hD2, nl2, nDl2, upd_same, by rw [upd_ne nDl2.symm]; exact el2, List.Perm.refl _, rfl⟩, by rw [upd_ne nDb]; exact hks5, by rw [upd_ne nl0D]; exact el0,
          by rw [upd_ne (ne_of_none e5 hD2)]; exact e5⟩ (fun i H2 _ ⟨_, _, _, q⟩ => SqT.of q) ?_ ?_
      · rintro i x H2 hi ⟨⟨ks2, ls, C2, nD, nl, ne, hD, hl, hp, hk⟩, g1, g0, g2⟩
        have hiW : i < p.rows.length - 1 := by
          have q := (List.getElem?_eq_some_iff.mp hi).1
          rwa [hxl] at q
        have hle := hp.length_eq
        rw [List.length_append, hk, List.length_map, List.length_range] at hle
        refine ⟨rfl, _, rfl, .inl ⟨rfl, _, SqL.of hl⟩, _, rfl, _, rfl, l2, _, rfl, .inl (SqL.of hl), d, sa, ns, _, rfl, C2.ent, ?_, ?_, fun n H3 n0 n1 C3 => ?_⟩
        · rw [List.length_map]; omega
        · rw [List.length_map]; omega
        · rw [List.length_map] at n1
          obtain ⟨j, hj⟩ : ∃ j : Nat, n = (j : Int) := ⟨n.toNat, by omega⟩
          subst hj
          have hjl : j < ls.length := by omega
          have hl3 := C3.but _ _ (C2.ned nl) hl
          have hD3 := C3.but _ _ (C2.ned nD) hD
          refine ⟨l2, _, _, j, _, rfl, rfl, hl3, by omega, by omega, ?_, nI_get hjl, _, ?_, szl (show (ks2.map nI).length < 100000 by rw [List.length_map]; omega), ?_⟩
          · rw [List.length_map, seqIndex_of (by omega) (by omega)]
            rfl
          · rw [upd_ne ne]; exact hD3
          · refine ⟨⟨ks2 ++ [ls[j]], ls.eraseIdx j, ((C2.trans C3).mut nl).mut nD, nD, nl, ne, ?_, ?_, pop_perm hp (List.getElem?_eq_getElem hjl), by rw [List.length_append, hk]; rfl⟩, ?_, ?_, ?_⟩
            · rw [upd_same, List.map_append]; rfl
            · rw [upd_ne ne.symm, upd_same, map_erase]
            · rw [upd_ne nDb, upd_ne nDa]; exact C3.but _ _ (C2.ned nD1) g1
            · rw [upd_ne nl0D, upd_ne nl02]; exact C3.but _ _ (C2.ned nl0) g0
            · exact ((C3.kp.trans (Kp.lst hl3)).trans (Kp.lst (by rw [upd_ne ne]; exact hD3))) _ _ g2
      · rintro H6 ⟨h6, g1, g0, g2⟩
        rw [hxl] at h6
        obtain ⟨ms, C6, nD2, hms, hmp⟩ := PopAt.perm (all := (List.range (p.rows.length - 1)).map (· + 1)) (by rw [List.length_map, List.length_range]; exact h6)
        have hml := hmp.length_eq
        rw [List.length_map, List.length_range] at hml
        refine ⟨l0, D2, _, _, rfl, rfl, g0, hms, sz (by rw [List.length_map]; show 1 + _ ≤ _; omega), fun ln hln => ?_⟩
        refine alloc hln fun H7 s7 e7 => ?_
        have e7 : H7 ln = some (.lst ((0 :: ms).map nI)) := e7
        have C7 := C6.same s7
        refine ⟨(by show 1 ≤ sizeLine; decide), fun l7 hl7 => ?_⟩
        refine alloc hl7 fun H8 s8 e8 => ?_
        have C8 := C7.same s8
        have hra8 := C8.kp _ _ hra
        refine ⟨_, rfl, ra, _, rfl, .inr (SqT.of hra8), l7, _, _, rfl, rfl, e8, ?_, ?_, ?_, fun lf hlf => ?_⟩
        · rw [List.length_map]; omega
        · rw [List.length_map]; omega
        · refine sz ?_
          show 1 * _ ≤ _
          rw [List.length_map]; omega
        refine alloc hlf fun H9 s9 e9 => ?_
        rw [List.flatten_replicate_singleton, List.length_map, hbr] at e9
        have C9 := C8.same s9
        have n1f : D1 ≠ lf := ne_of_none ((s7.trans s8) _ _ g1) hlf
        have n2f : ln ≠ lf := ne_of_none (s8 _ _ e7) hlf
        have hmem : ∀ x, x ∈ (0 :: ms) ↔ x < p.rows.length := fun x => by
          rw [List.mem_cons, hmp.mem_iff, List.mem_map]
          constructor
          · rintro (q | ⟨y, q1, q2⟩)
            · omega
            · have := List.mem_range.mp q1; omega
          · intro q
            cases x with
            | zero => exact .inl rfl
            | succ x => exact .inr ⟨x, List.mem_range.mpr (by omega), rfl⟩
        have hpm : (0 :: ms).Perm (List.range p.rows.length) := by
          have e : List.range p.rows.length = 0 :: (List.range (p.rows.length - 1)).map (· + 1) := by
            rw [show p.rows.length = (p.rows.length - 1) + 1 by omega, List.range_succ_eq_map]
            rfl
          rw [e]
          exact hmp.cons 0
        have hkm : ∀ x, x ∈ ks ↔ x < p.ws.length := fun x => by rw [hkp.mem_iff, List.mem_range]
        have hnl : (0 :: ms).length = p.rows.length := by show ms.length + 1 = _; omega
        have hkl : ks.length = p.ws.length := by rw [hkp.length_eq, List.length_range]
        have hf : ∀ x, x < p.ws.length → ks.getD x 0 < p.ws.length := fun x hx => by
          rw [List.getD_eq_getElem?_getD, List.getElem?_eq_getElem (by omega)]
          exact (hkm _).mp (List.getElem_mem _)
        have hg : ∀ x, x < p.rows.length → (0 :: ms).getD x 0 < p.rows.length := fun x hx => by
          rw [List.getD_eq_getElem?_getD, List.getElem?_eq_getElem (by omega)]
          exact (hmem _).mp (List.getElem_mem _)
        refine ⟨_, rfl, ra, _, rfl, SqT.of (C9.kp _ _ hra), for_enumT (K := K) (a := ra) (xs := bs.map V.ref)
          (fun i σ H' => ∃ x6 x9 x10 x11 x12 : Option V, σ = [some (.ref d), some (.ref a), some (.ref wa), some (.ref ra), some (.ref l2), some (.ref D1), x6, some (.ref ln), some (.ref lf), x9, x10, x11, x12, none, none] ∧
            MixAt K H d sa ns D1 ln lf ks (0 :: ms) (p.rows.map isT) p.ws.length p.rows.length i H')
          ⟨_, _, _, _, _, rfl, C9, C8.here hlf, n1f, n2f, ((s7.trans s8).trans s9) _ _ g1, (s8.trans s9) _ _ e7, _, e9, List.length_replicate, fun _ _ q => absurd q (by simp)⟩
          (fun i σ H' ⟨_, _, _, _, _, _, m⟩ => SqT.of (m.dc.kp _ _ hra)) ?_ ?_⟩
        · rintro i x T' σ H' hi ⟨x6, x9, x10, x11, x12, rfl, m⟩ hT'
          have hiR : i < p.rows.length := by
            have q := (List.getElem?_eq_some_iff.mp hi).1
            rwa [List.length_map, hbr] at q
          obtain ⟨r, hr1⟩ : ∃ r, p.rows[i]? = some r := ⟨_, List.getElem?_eq_getElem hiR⟩
          obtain ⟨b, hb1, hb2⟩ := Paired.getR hR hr1
          have hrm : r ∈ p.rows := List.mem_of_getElem? hr1
          have hro := g.ok r hrm
          have ex : x = V.ref b := by
            rw [List.getElem?_map, hb1] at hi
            exact (Option.some.inj hi).symm
          subst ex
          refine alloc hT' fun H2 s2 e2 => ?_
          have m2 := m.same s2
          have hb3 := m2.dc.kp _ _ hb2
          refine ⟨T', _, rfl, SqT.of e2, rfl, _, _, rfl, _, _, rfl, rfl, ?_⟩
          refine ⟨_, rfl, _, rfl, b, _, rfl, hb3, fun t H3 s3 e3 => ?_⟩
          have rl := Row.vs_len r
          rw [sl1 rl.1, Row.ren_w (fun x => ks.getD x 0) (fun x => (0 :: ms).getD x 0)] at e3
          have m3 := m2.same s3
          have hb4 := s3 _ _ hb3
          refine ⟨_, rfl, b, _, rfl, .inr (SqT.of hb4), _, _, rfl, ⟨by decide, by decide, by omega, by omega⟩, ?_⟩
          refine for_range (lo := 1) (n := (((rowVs r).length : Int) - 1).toNat) (fun j σ H' => ∃ (x11 x12 : Option V) (t : Addr), σ = [some (.ref d), some (.ref a), some (.ref wa), some (.ref ra), some (.ref l2), some (.ref D1), some (.ref b), some (.ref ln), some (.ref lf), some (.int (i : Int)), some (.ref t), x11, x12, none, none] ∧
            Same1 H3 H' ∧ H' t = some (.tup ((rowVs (r.ren (fun x => ks.getD x 0) (fun x => (0 :: ms).getD x 0))).take (1 + j)))) ⟨_, _, t, rfl, Same.refl _, e3⟩ ?_ ?_
          · rintro j σ H4 hj ⟨x11, x12, t, rfl, S4, ht⟩
            have hj1 : j + 1 < (rowVs r).length := by omega
            obtain ⟨x, hx, hx1, hx2⟩ := Row.ren_at (f := fun x => ks.getD x 0) (g := fun x => (0 :: ms).getD x 0) hro hj1
            have hb5 := S4 _ _ hb4
            have ej : (1 : Int) + (j : Int) = ((j + 1 : Nat) : Int) := by omega
            refine asg_elim (fun v H' => v = .bl (j == 0 && r.uses) ∧ Same1 H4 H') ?_ ?_
            · rintro v H5 ⟨rfl, s5⟩
              have S5 := S4.trans s5
              have m5 := m3.same S5
              have fin : ∀ (y : Nat) (t5 t6 : Addr) (H6 H7 : Hp) (c : Bool), (rowVs (r.ren (fun x => ks.getD x 0) (fun x => (0 :: ms).getD x 0)))[j + 1]? = some (.int (y : Int)) → Same1 H5 H6 → Same1 H6 H7 →
                  H7 t6 = some (.tup ((rowVs (r.ren (fun x => ks.getD x 0) (fun x => (0 :: ms).getD x 0))).take (1 + j) ++ [.int (y : Int)])) →
                  Same1 H3 H7 ∧ H7 t6 = some (.tup ((rowVs (r.ren (fun x => ks.getD x 0) (fun x => (0 :: ms).getD x 0))).take (1 + (j + 1)))) := by
                intro y t5 t6 H6 H7 c q1 q2 q3 q4
                refine ⟨(S5.trans q2).trans q3, q4.trans ?_⟩
                rw [show 1 + (j + 1) = (1 + j) + 1 by omega, List.take_add_one, show 1 + j = j + 1 by omega, q1]
                rfl
              cases hc : (j == 0 && r.uses) with
              | true =>
                obtain ⟨q1, q2⟩ := hx1 hc
                refine ⟨_, rfl, _, rfl, _, rfl, _, rfl, _, rfl, _, rfl, b, _, _, .int (x : Int), rfl, rfl, SqT.of (s5 _ _ hb5), by rw [ej]; exact atI_nat hx, D1, _, _, _, rfl, rfl, SqL.of m5.names, atI_nat (nI_getD (by rw [hkl]; exact q1)), (by show 1 ≤ sizeLine; decide), fun t5 ht5 => ?_⟩
                refine alloc ht5 fun H6 s6 e6 => ?_
                refine ⟨t, t5, _, _, rfl, rfl, (s5.trans s6) _ _ ht, e6, sz (by rw [List.length_take]; show _ + 1 ≤ _; omega), fun t6 H7 s7 e7 => ?_⟩
                exact ⟨_, _, t6, rfl, fin _ t5 t6 H6 H7 true q2 s6 s7 e7⟩
              | false =>
                obtain ⟨q1, q2⟩ := hx2 hc
                refine ⟨_, rfl, _, rfl, _, rfl, _, rfl, _, rfl, _, rfl, b, _, _, .int (x : Int), rfl, rfl, SqT.of (s5 _ _ hb5), by rw [ej]; exact atI_nat hx, ln, _, _, _, rfl, rfl, SqL.of m5.numbers, atI_nat (nI_getD (by rw [hnl]; exact q1)), (by show 1 ≤ sizeLine; decide), fun t5 ht5 => ?_⟩
                refine alloc ht5 fun H6 s6 e6 => ?_
                refine ⟨t, t5, _, _, rfl, rfl, (s5.trans s6) _ _ ht, e6, sz (by rw [List.length_take]; show _ + 1 ≤ _; omega), fun t6 H7 s7 e7 => ?_⟩
                exact ⟨_, _, t6, rfl, fin _ t5 t6 H6 H7 true q2 s6 s7 e7⟩
            · intro Q' hQ
              refine ⟨_, rfl, rfl, _, rfl, ite2 (fun c => ?_) (fun c => ?_)⟩
              · have c := of_decide_eq_true c
                have c : (1 : Int) + (j : Int) = 1 := by injection c
                have j0 : j = 0 := by omega
                subst j0
                refine ⟨_, rfl, b, _, _, _, rfl, rfl, SqT.of hb5, atI_nat (j := 0) (Row.w0 r), (by show 4 ≤ sizeLine; decide), fun t4 ht4 => ?_⟩
                refine alloc ht4 fun H5 s5 e5 => ?_
                refine ⟨t4, _, rfl, .inr (SqT.of e5), rfl, rfl, hQ _ _ ⟨?_, s5⟩⟩
                show V.bl (inV (.str r.word) [.str "load", .str "add", .str "take", .str "store"]) = V.bl (0 == 0 && r.uses)
                rw [Row.in4]
                rfl
              · refine hQ _ _ ⟨?_, Same.refl _⟩
                have hj0 : j ≠ 0 := fun e => by subst e; exact c (decide_eq_true rfl)
                rw [beq_false_of_ne hj0]
                rfl
          · rintro σ H4 ⟨x11, x12, t, rfl, S4, ht⟩
            have m4 := m3.same S4
            rw [List.take_of_length_le (by rw [Row.ren_len]; omega)] at ht
            obtain ⟨fs, hf1, hf2, hf3⟩ := m4.found
            have hy := nI_getD (l := 0 :: ms) (j := i) (by rw [hnl]; exact hiR)
            have hy2 : (0 :: ms)[i]? = some ((0 :: ms).getD i 0) := by
              rw [List.getD_eq_getElem?_getD, List.getElem?_eq_getElem (by rw [hnl]; exact hiR)]
              rfl
            have hyN := hg i hiR
            refine ⟨_, rfl, _, rfl, _, rfl, _, rfl, ln, _, _, _, rfl, rfl, SqL.of m4.numbers, atI_nat hy, lf, fs, _, (0 :: ms).getD i 0, rfl, rfl, hf1, ixN_nat (by rw [hf2]; exact hyN), ?_⟩
            exact ⟨_, _, _, _, _, rfl, m4.put hf1 hy2 hyN ht (Row.ren_ok hf hg hro) (by rw [isT_ren, List.getD_eq_getElem?_getD, List.getElem?_map, hr1]; rfl)⟩
        · rintro σ H' ⟨x6, x9, x10, x11, x12, rfl, m⟩
          rw [List.length_map, hbr] at m
          obtain ⟨fs, hf1, hf2, hf3⟩ := m.found
          obtain ⟨bs', rs', hfs, hF⟩ := refs_of (F := fun b r => H' b = some (.tup (rowVs r)) ∧ r.ok p.ws.length p.rows.length) (l := fs) (fun i hi => by
            obtain ⟨b, r, q1, q2, q3, _⟩ := hf3 i (by omega) (by rw [List.take_of_length_le (by omega)]; exact (hmem i).mpr (by omega))
            exact ⟨b, r, q1, q2, q3⟩)
          have hwa2 := m.dc.kp _ _ hwa
          have hfl : bs'.length = p.rows.length := by rw [← hf2, hfs, List.length_map]
          have hrl : rs'.length = p.rows.length := by rw [← Paired.length hF, hfl]
          have hTT : tests rs' = tests p.rows := by
            refine tests_perm (nums := 0 :: ms) hrl hpm fun x hx => ?_
            obtain ⟨b, r, q1, q2, q3, j, q4, q5⟩ := hf3 x (by omega) (by rw [List.take_of_length_le (by omega)]; exact (hmem x).mpr hx)
            refine ⟨j, q4, ?_⟩
            rw [← q5]
            have hx' : x < rs'.length := by omega
            obtain ⟨b', hb1, hb2⟩ := Paired.getR hF (List.getElem?_eq_getElem hx')
            have eb : b' = b := by
              rw [hfs, List.getElem?_map, hb1] at q1
              exact V.ref.inj (Option.some.inj q1)
            subst eb
            have e2 := hb2.1
            rw [q2] at e2
            rw [List.getD_eq_getElem?_getD, List.getElem?_eq_getElem hx']
            exact (isT_of (HO.tup.inj (Option.some.inj e2))).symm
          refine ⟨_, rfl, wa, _, rfl, .inr (SqT.of hwa2), _, rfl, by rw [List.length_map]; omega, by rw [List.length_map]; omega, fun D3 hD3 => ?_⟩
          have n13 : D1 ≠ D3 := ne_of_none m.names hD3
          have nf3 : lf ≠ D3 := ne_of_none hf1 hD3
          refine lc_range (lo := 0) (n := (((p.ws.map V.int).length : Nat) : Int).toNat) (fun i H2 => ∃ js : List Nat, Dc K H H2 d sa ns ∧ H D3 = none ∧ H2 D3 = some (.lst (js.map nI)) ∧ js.length = i ∧ (∀ x ∈ js, x < p.ws.length) ∧ Kp H' H2 ∧ H2 D1 = some (.lst (ks.map nI)) ∧ H2 lf = some (.lst fs))
            ⟨[], m.dc.new hD3, m.dc.here hD3, upd_same, rfl, fun _ h => absurd h (by simp), Kp.new hD3, by rw [upd_ne n13]; exact m.names, by rw [upd_ne nf3]; exact hf1⟩ ?_ ?_
          · rintro i H2 hi ⟨js, C, nD3, hj, hjl, hjm, k2, g1, g2⟩
            have hiW : i < p.ws.length := by rw [List.length_map] at hi; omega
            obtain ⟨j, j1, j2, j3⟩ := first_of ((hkm i).mpr hiW)
            have e0 : (0 : Int) + (i : Int) = (i : Int) := Int.zero_add _
            rw [e0]
            refine ⟨rfl, _, rfl, .inl ⟨rfl, _, SqL.of g1⟩, _, rfl, D1, _, _, j, .int (i : Int), rfl, rfl, SqL.of g1, rfl, nI_flat ks, ?_, ?_, fun m z hm e => nI_none (j3 m hm) e, _, hj, szl (by rw [List.length_map]; omega), ?_⟩
            · rw [List.getElem?_map, j2]; rfl
            · show ((i : Int) == (i : Int)) = true
              exact beq_self_eq_true _
            · refine ⟨js ++ [j], C.mut nD3, nD3, by rw [upd_same, List.map_append]; rfl, by rw [List.length_append, hjl]; rfl, all_snoc hjm (by omega), k2.trans (Kp.lst hj), by rw [upd_ne n13]; exact g1, by rw [upd_ne nf3]; exact g2⟩
          · rintro H2 ⟨js, C, nD3, hj, hjl, hjm, k2, g1, g2⟩
            rw [List.length_map, Int.toNat_natCast] at hjl
            have hwa3 := k2 _ _ hwa2
            refine ⟨_, rfl, D3, rfl, ⟨_, SqL.of hj⟩, fun D4 hD4 => ?_⟩
            have nf4 : lf ≠ D4 := ne_of_none g2 hD4
            have n34 : D3 ≠ D4 := ne_of_none hj hD4
            refine lc_list (K := K) (a := D3) (xs := js.map nI) (fun i H3 => ∃ us : List Int, Dc K H H3 d sa ns ∧ H D4 = none ∧ H3 D4 = some (.lst (us.map V.int)) ∧ us.length = i ∧ (∀ x ∈ us, x ∈ p.ws) ∧ Kp H2 H3 ∧ H3 D3 = some (.lst (js.map nI)) ∧ H3 lf = some (.lst fs))
              ⟨[], C.new hD4, C.here hD4, upd_same, rfl, fun _ h => absurd h (by simp), Kp.new hD4, by rw [upd_ne n34]; exact hj, by rw [upd_ne nf4]; exact g2⟩ (fun i H3 _ ⟨_, _, _, _, _, _, _, q, _⟩ => SqL.of q) ?_ ?_
            · rintro i x H3 hi ⟨us, C3, nD4, hu, hul, hum, k3, g3, g4⟩
              have hij : i < js.length := by
                have q := (List.getElem?_eq_some_iff.mp hi).1
                rwa [List.length_map] at q
              have ex : x = .int ((js[i] : Nat) : Int) := by
                rw [nI_get hij] at hi
                exact (Option.some.inj hi).symm
              subst ex
              have hjw := hjm _ (List.getElem_mem hij)
              have hat : (p.ws.map V.int)[js[i]]? = some (.int p.ws[js[i]]) := by
                rw [List.getElem?_map, List.getElem?_eq_getElem hjw]
                rfl
              refine ⟨rfl, _, rfl, _, rfl, wa, _, _, _, rfl, rfl, SqT.of (k3 _ _ hwa3), atI_nat hat, _, hu, szl (by rw [List.length_map]; omega), ?_⟩
              exact ⟨us ++ [p.ws[js[i]]], C3.mut nD4, nD4, by rw [upd_same, List.map_append]; rfl, by rw [List.length_append, hul]; rfl, all_snoc hum (List.getElem_mem _), k3.trans (Kp.lst hu), by rw [upd_ne n34]; exact g3, by rw [upd_ne nf4]; exact g4⟩
            · rintro H3 ⟨us, C3, nD4, hu, hul, hum, k3, g3, g4⟩
              rw [List.length_map, hjl] at hul
              refine ⟨D4, _, rfl, .inl ⟨SqL.of hu, fun t1 ht1 => ?_⟩⟩
              refine alloc ht1 fun H4 s4 e4 => ?_
              refine ⟨_, rfl, lf, _, rfl, .inl ⟨SqL.of (s4 _ _ g4), fun t2 ht2 => ?_⟩⟩
              refine alloc ht2 fun H5 s5 e5 => ?_
              refine ⟨(by show 2 ≤ sizeLine; decide), fun t3 ht3 => ?_⟩
              refine alloc ht3 fun H6 s6 e6 => ?_
              have S36 := (s4.trans s5).trans s6
              have kF : Kp H' H6 := (k2.trans k3).trans (Kp.same S36)
              refine kq t3 ⟨us, rs'⟩ H6 (C3.same S36) ⟨t1, t2, bs', e6, (s5.trans s6) _ _ e4, ?_, ?_⟩ ⟨?_, ?_, ?_, ?_, ?_⟩ hTT hrl
              · rw [← hfs]; exact s6 _ _ e5
              · exact Paired.mapP hF fun b r q => kF _ _ q.1
              · show 1 ≤ rs'.length
                omega
              · show rs'.length ≤ 40
                omega
              · show us.length ≤ 8
                omega
              · exact fun x hx => g.num x (hum x hx)
              · intro r hr
                show r.ok us.length rs'.length
                rw [hul, hrl]
                obtain ⟨i, hi⟩ := List.getElem?_of_mem hr
                obtain ⟨b, _, q⟩ := Paired.getR hF hi
                exact q.2
end
end DL
namespace DL
open PySem L2 DLR
def rowD : Row → PyData
  | .load w n => .tuple [.str "load", .int (w : Int), .int (n : Int)]
  | .add w n => .tuple [.str "add", .int (w : Int), .int (n : Int)]
  | .take w n => .tuple [.str "take", .int (w : Int), .int (n : Int)]
  | .store w n => .tuple [.str "store", .int (w : Int), .int (n : Int)]
  | .say n => .tuple [.str "say", .int (n : Int)]
  | .test a b => .tuple [.str "test", .int (a : Int), .int (b : Int)]
  | .stop => .tuple [.str "stop"]
theorem rowD_dp {K : Frg} {H : Hp} {b : Addr} {r : Row} (h : H b = some (.tup (rowVs r))) : Dp K H (.ref b) (rowD r) := by
  cases r <;> exact .tup (SqT.of h) (by first | exact .cons (.str _) (.cons (.int _) (.cons (.int _) .nil)) | exact .cons (.str _) (.cons (.int _) .nil) | exact .cons (.str _) .nil)
theorem rowsD_dp {K : Frg} {H : Hp} : ∀ {bs : List Addr} {rs : List Row}, RowsAt H bs rs → DpAll K H (bs.map V.ref) (rs.map rowD)
  | _, _, .nil => .nil
  | _, _, .cons h t => .cons (rowD_dp h) (rowsD_dp t)
theorem strOk4 : (["load", "add", "take", "store", "say", "test", "stop"] : List Str).all PyData.strOk = true := by decide +kernel
theorem rowD_lay (r : Row) : (rowD r).canLay0 = true := by
  have k : ∀ x ∈ (["load", "add", "take", "store", "say", "test", "stop"] : List Str), PyData.strOk x = true := List.all_eq_true.mp strOk4
  cases r <;> (simp only [rowD, PyData.canLay0, PyData.canLayAll0, Bool.and_true, Bool.and_eq_true]; apply k; simp)
theorem rowsD_lay : ∀ rs : List Row, PyData.canLayAll0 (rs.map rowD) = true
  | [] => rfl
  | r :: rs => by
    show ((rowD r).canLay0 && PyData.canLayAll0 (rs.map rowD)) = true
    rw [rowD_lay, rowsD_lay rs]
    rfl
theorem rowsD_dep : ∀ rs : List Row, PyData.depthAll (rs.map rowD) ≤ 3
  | [] => by decide
  | r :: rs => by
    have h := rowsD_dep rs
    show max (rowD r).depth (PyData.depthAll (rs.map rowD)) ≤ 3
    have : (rowD r).depth ≤ 3 := by cases r <;> simp [rowD, PyData.depth, PyData.depthAll]
    omega
theorem eq_nil {K : Frg} {H : Hp} {l e : Addr} {bs : List Addr} {rs : List Row} {Q : VK} (hl : H l = some (.lst (bs.map V.ref))) (hR : RowsAt H bs rs) (he : H e = some (.lst [])) (q : Q (.bl rs.isEmpty) H) : rEqD K (.ref l) (.ref e) H Q := by
  refine ⟨.list (rs.map rowD), .list [], .lst (SqL.of hl) (rowsD_dp hR), .lst (SqL.of he) .nil, ?_, by decide +kernel, ?_⟩
  · show (PyData.canLayAll0 (rs.map rowD) && decide (PyData.depth (.list (rs.map rowD)) ≤ 64)) = true
    rw [rowsD_lay]
    refine decide_eq_true ?_
    have := rowsD_dep rs
    show _ + _ ≤ 64
    omega
  · have e : PyData.eqv (.list (rs.map rowD)) (.list []) = rs.isEmpty := by cases rs <;> rfl
    rw [e]; exact q
theorem seq_elim {t u : TS} {D : Ends} {σ : L2.St} {H : Hp} (R : L2.St → Hp → Prop) (key : ∀ σ' H', R σ' H' → u D σ' H') (first : ∀ N : L2.St → Hp → Prop, (∀ σ' H', R σ' H' → N σ' H') → t { D with nx := N } σ H) : tSeq t u D σ H := first _ key
def RowsL (K : Frg) (H0 : Hp) (d sa : Addr) (ns : List Int) (t3 : Addr) (ws : List Int) (l : Addr) (z : Nat) (H : Hp) : Prop :=
  ∃ bs rs, Dc K H0 H d sa ns ∧ H t3 = some (.tup (ws.map V.int)) ∧ H l = some (.lst (bs.map V.ref)) ∧ RowsAt H bs rs ∧ rs.length ≤ z ∧ 4 * tests rs ≤ rs.length ∧ ∀ r ∈ rs, r.ok 8 (rs.length + 1)
abbrev sStopping : Stmt := top 79
abbrev pStopping : List Str := ["_law_d", "_law_deep"]
abbrev FStopping (K : Frg) (mg : Str → Option Value) := Fd K mg "_law_stopping" sStopping pStopping
def spStopping (K : Frg) : Sp := fun vs H Q _ => ∃ (d sa : Addr) (ns : List Int) (n : Nat), vs = [.ref d, .int (n : Int)] ∧ n ≤ 2 ∧ Ent K H d sa ns ∧
  ∀ b q H', Dc K H H' d sa ns → ProgAt H' b q → Good q → 4 * tests q.rows ≤ q.rows.length → Q (.ref b) H'
section
variable {P : Program} {w : World} {K : PySem.W.Frag} {mg : Str → Option Value} {base : Heap}
abbrev nStopping : List Str := ["_law_d", "_law_deep", "_law_worths", "_law_rows", "_law_program", "_law_k"]
theorem scStopping : FnScope nStopping pStopping (defScope sStopping) := ⟨rfl, rfl, rfl, by decide +kernel, rfl, by decide +kernel, by decide +kernel⟩
theorem ok_stopping (cStopping : FStopping K mg) (cMixed : FMixed K mg) (cBody : FBody K mg) (cFork : FFork K mg) (cStraight : FStraight K mg) (cNext : FNext K mg) (T : Bt mg) : FnOk P w K mg base CX0 7 cStopping.f cStopping.fd pStopping (spStopping K) := by
  have GNext : FnOk P w K mg base CX0 1 cNext.f cNext.fd ["_law_dice_here", "_law_many"] (spNext K) := ok_next cNext.F T
  have GStraight : FnOk P w K mg base CX0 2 cStraight.f cStraight.fd ["_law_d", "_law_at"] (spStraight K) := ok_straight cStraight cNext T
  have GBody : FnOk P w K mg base CX0 6 cBody.f cBody.fd pBody (spBodyU K) := ok_bodyU cBody cFork cStraight cNext T
  have GMixed : FnOk P w K mg base CX0 2 cMixed.f cMixed.fd pMixed (spMixed K) := ok_mixed cMixed cNext T
  refine cStopping.F.ok scStopping (fun vs H Q E h => ?_) (fun cdv A outer s H vs Q E hr h => ?_)
  · obtain ⟨d, sa, ns, n, rfl, _⟩ := h
    rfl
  · obtain ⟨d, sa, ns, n, rfl, hn, hE, kq⟩ := h
    refine ⟨_, (pss_cons (ps_set (i := 2) scStopping.nd rfl (Or.inl rfl) (pe_tup (pa_cons pe_int (pa_cons (pe_op op_add pe_int (pe_call GNext (hr.mono (by first | omega | decide)) (by rfl) cNext.m cNext.F.kp cNext.b .nil pass0 (pa_cons (pv 0) (pa_cons pe_int pa_nil)))) (pa_cons (pe_op op_add pe_int (pe_call GNext (hr.mono (by first | omega | decide)) (by rfl) cNext.m cNext.F.kp cNext.b .nil pass0 (pa_cons (pv 0) (pa_cons pe_int pa_nil)))) (pa_cons pe_int (pa_cons pe_int pa_nil)))))))
      (pss_cons (ps_set (i := 2) scStopping.nd rfl (Or.inl rfl) (pe_op op_catS (pv 2) (pe_callTy call_tuple_of (by rfl) T.tuple (by decide +kernel) (pa_cons (pe_lc (own := [("_law_k", 5)]) (g := gName 5) (tt := tYes) rfl scStopping.nd (pi_range1 rfl T.range (pa_cons pe_int pa_nil)) (blkOk_by (N := nStopping) (sc := defScope sStopping) (by decide +kernel)) (fun _ _ _ _ _ => (pg_name (i := 5) scStopping.nd rfl (Or.inl rfl))) (fun _ _ _ _ _ => pts_nil) (fun _ _ _ _ _ => (pe_op op_sub (pe_call GNext (hr.mono (by first | omega | decide)) (by rfl) cNext.m cNext.F.kp cNext.b .nil pass0 (pa_cons (pv 0) (pa_cons pe_int pa_nil))) pe_int))) pa_nil))))
      (pss_cons (ps_set (i := 3) scStopping.nd rfl (Or.inl rfl) (pe_call GBody (hr.mono (by first | omega | decide)) (by rfl) cBody.m cBody.F.kp cBody.b .nil pass0 (pa_cons (pv 0) (pa_cons pe_int (pa_cons (pv 1) pa_nil)))))
      (pss_cons (ps_while PassesOwn.never (pt_cmpR op_gt (pe_callB call_len_seq (by rfl) T.len PySem.boot_len (pa_cons (pv 3) pa_nil)) pe_int (nomark _))
          (pss_one (ps_set (i := 3) scStopping.nd rfl (Or.inl rfl) (pe_call GBody (hr.mono (by first | omega | decide)) (by rfl) cBody.m cBody.F.kp cBody.b .nil pass0 (pa_cons (pv 0) (pa_cons pe_int (pa_cons pe_int pa_nil)))))))
      (pss_cons (ps_if (pt_cmpR (op_eqD hr.units) (pv 3) (pe_lst pa_nil) (nomark _))
          (pss_one (ps_set (i := 3) scStopping.nd rfl (Or.inl rfl) (pe_lst (pa_cons (pe_call GStraight (hr.mono (by first | omega | decide)) (by rfl) cStraight.m cStraight.F.kp cStraight.b .nil pass0 (pa_cons (pv 0) (pa_cons pe_int pa_nil))) pa_nil))))
          pss_nil)
      (pss_cons (ps_set (i := 4) scStopping.nd rfl (Or.inl rfl) (pe_tup (pa_cons (pv 2) (pa_cons (pe_op op_catS (pe_callTy call_tuple_of (by rfl) T.tuple (by decide +kernel) (pa_cons (pv 3) pa_nil)) (pe_tup (pa_cons (pe_tup (pa_cons pe_str pa_nil)) pa_nil))) pa_nil))))
      (pss_one (ps_ret (pe_ifExp (pt_cmpR op_eq (pe_call GNext (hr.mono (by first | omega | decide)) (by rfl) cNext.m cNext.F.kp cNext.b .nil pass0 (pa_cons (pv 0) (pa_cons pe_int pa_nil))) pe_int (nomark _)) (pe_call GMixed (hr.mono (by first | omega | decide)) (by rfl) cMixed.m cMixed.F.kp cMixed.b .nil pass0 (pa_cons (pv 0) (pa_cons (pv 4) pa_nil))) (pv 4)))))))))), ?_⟩
    refine ⟨_, rfl, d, sa, ns, _, rfl, hE, by decide, by decide, fun n5 H1 a0 a1 C1 => ?_⟩
    refine ⟨_, _, rfl, rfl, _, rfl, d, sa, ns, _, rfl, C1.ent, by decide, by decide, fun n4 H2 b0 b1 C2 => ?_⟩
    refine ⟨_, _, rfl, rfl, (by show 5 ≤ sizeLine; decide), fun t1 ht1 => ?_⟩
    refine alloc ht1 fun H3 s3 e3 => ?_
    have C3 := (C1.trans C2).same s3
    refine ⟨_, rfl, _, rfl, by decide, by decide, fun D hD => ?_⟩
    refine lc_range (lo := 0) (n := 3) (fun i H4 => ∃ us : List Int, Dc K H H4 d sa ns ∧ H D = none ∧ H4 D = some (.lst (us.map V.int)) ∧ us.length = i ∧ (∀ x ∈ us, -3 ≤ x ∧ x ≤ 3) ∧ Kp H3 H4)
      ⟨[], C3.new hD, C3.here hD, upd_same, rfl, fun _ h => absurd h (by simp), Kp.new hD⟩ ?_ ?_
    · rintro i H4 hi ⟨us, C4, nD, hu, hul, hum, k4⟩
      refine ⟨rfl, _, rfl, d, sa, ns, _, rfl, C4.ent, by decide, by decide, fun m H5 m0 m1 C5 => ?_⟩
      have hu5 := C5.but _ _ (C4.ned nD) hu
      refine ⟨_, _, rfl, rfl, _, hu5, szl (by rw [List.length_map]; omega), us ++ [m - 3], (C4.trans C5).mut nD, nD, by rw [upd_same, List.map_append]; rfl, by rw [List.length_append, hul]; rfl, all_snoc hum (by omega), (k4.trans C5.kp).trans (Kp.lst hu5)⟩
    · rintro H4 ⟨us, C4, nD, hu, hul, hum, k4⟩
      refine ⟨D, _, rfl, .inl ⟨SqL.of hu, fun t2 ht2 => ?_⟩⟩
      refine alloc ht2 fun H5 s5 e5 => ?_
      refine ⟨t1, t2, _, _, rfl, rfl, s5 _ _ (k4 _ _ e3), e5, sz (by rw [List.length_map]; show 5 + _ ≤ _; omega), fun t3 H6 s6 e6 => ?_⟩
      have e6 : H6 t3 = some (.tup (([1, 1 + n5, 1 + n4, 0, 0] ++ us).map V.int)) := by rw [e6, List.map_append]; rfl
      have hwl : ([1, 1 + n5, 1 + n4, 0, 0] ++ us).length = 8 := by simp [hul]
      have hwm : ∀ x ∈ ([1, 1 + n5, 1 + n4, 0, 0] ++ us), -1000000 ≤ x ∧ x ≤ 1000000 := by
        intro x hx
        rcases List.mem_append.mp hx with q | q
        · simp only [List.mem_cons, List.not_mem_nil, or_false] at q
          omega
        · have := hum x q; omega
      revert e6 hwl hwm
      generalize ([1, 1 + n5, 1 + n4, 0, 0] ++ us) = ws
      intro e6 hwl hwm
      have C6 := (C4.same s5).same s6
      have hP := PB_le hn
      refine ⟨_, rfl, _, rfl, n, hn, d, sa, ns, 0, rfl, hn, C6.ent, fun l bs rs H7 C7 nl hl hR hz hT ho => ?_⟩
      have w0 : RowsL K H d sa ns t3 ws l 300 H7 := ⟨bs, rs, C6.trans C7, C7.kp _ _ e6, hl, hR, by omega, hT, fun r hr => (ho r hr).mono (by omega)⟩
      refine ⟨fun m σ H' => ∃ l, σ = [some (.ref d), some (.int (n : Int)), some (.ref t3), some (.ref l), none, none] ∧ RowsL K H d sa ns t3 ws l (39 + m * 300) H', ⟨1, l, rfl, ?_⟩, ?_⟩
      · obtain ⟨bs, rs, q1, q2, q3, q4, q5, q6⟩ := w0
        exact ⟨bs, rs, q1, q2, q3, q4, by omega, q6⟩
      rintro m σ H8 ⟨l, rfl, bs, rs, C8, ht3, hl, hR, hz, hT, ho⟩
      have hbr := Paired.length hR
      refine ⟨_, rfl, l, _, rfl, .inl (SqL.of hl), _, _, rfl, rfl, _, rfl, ite2 (fun c => ?_) (fun c => ?_)⟩
      · have c : (39 : Int) < (((bs.map V.ref).length : Nat) : Int) := of_decide_eq_true c
        rw [List.length_map, hbr] at c
        refine ⟨_, fun σ' H' q => q, _, rfl, 0, by decide, d, sa, ns, 0, rfl, by decide, C8.ent, fun l2 bs2 rs2 H9 C9 nl2 hl2 hR2 hz2 hT2 ho2 => ?_⟩
        refine ⟨0, ?_, l2, rfl, bs2, rs2, C8.trans C9, C9.kp _ _ ht3, hl2, hR2, ?_, hT2, fun r hr => (ho2 r hr).mono (by omega)⟩
        · cases m with
          | zero => omega
          | succ m => exact Nat.succ_pos m
        · have z : rs2.length ≤ 3 * 6 := hz2
          omega
      · have c : ¬ (39 : Int) < (((bs.map V.ref).length : Nat) : Int) := fun q => c (decide_eq_true q)
        rw [List.length_map, hbr] at c
        dsimp only
        refine seq_elim (fun σ' H' => ∃ l bs rs, σ' = [some (.ref d), some (.int (n : Int)), some (.ref t3), some (.ref l), none, none] ∧ Dc K H H' d sa ns ∧ H' t3 = some (.tup (ws.map V.int)) ∧ H' l = some (.lst (bs.map V.ref)) ∧ RowsAt H' bs rs ∧ 1 ≤ rs.length ∧ rs.length ≤ 39 ∧ 4 * tests rs ≤ rs.length ∧ ∀ r ∈ rs, r.ok 8 (rs.length + 1)) ?_ ?_
        · rintro σ' H9 ⟨l, bs, rs, rfl, C9, ht3, hl, hR, h1, h39, hT, ho⟩
          have hbr := Paired.length hR
          refine ⟨_, rfl, _, rfl, l, _, rfl, .inl ⟨SqL.of hl, fun t4 ht4 => ?_⟩⟩
          refine alloc ht4 fun H10 s10 e10 => ?_
          refine ⟨(by show 1 ≤ sizeLine; decide), fun t5 ht5 => ?_⟩
          refine alloc ht5 fun H11 s11 e11 => ?_
          refine ⟨(by show 1 ≤ sizeLine; decide), fun t6 ht6 => ?_⟩
          refine alloc ht6 fun H12 s12 e12 => ?_
          refine ⟨t4, t6, _, _, rfl, rfl, (s11.trans s12) _ _ e10, e12, sz (by rw [List.length_map]; show _ + 1 ≤ _; omega), fun t7 H13 s13 e13 => ?_⟩
          refine ⟨(by show 2 ≤ sizeLine; decide), fun t8 ht8 => ?_⟩
          refine alloc ht8 fun H14 s14 e14 => ?_
          have S914 := ((((s10.trans s11).trans s12).trans s13).trans s14)
          have C14 := C9.same S914
          have hP : ProgAt H14 t8 ⟨ws, rs ++ [.stop]⟩ := by
            refine ⟨t3, t7, bs ++ [t5], e14, S914 _ _ ht3, ?_, ?_⟩
            · rw [s14 _ _ e13, List.map_append]; rfl
            · exact Paired.app (hR.kp (Kp.same S914)) (Paired.one (((s12.trans s13).trans s14) _ _ e11))
          have hG : Good ⟨ws, rs ++ [.stop]⟩ := by
            refine ⟨?_, ?_, ?_, hwm, ?_⟩
            · show 1 ≤ (rs ++ [Row.stop]).length
              rw [List.length_append]; exact Nat.le_add_left 1 _
            · show (rs ++ [Row.stop]).length ≤ 40
              rw [List.length_append]; show _ + 1 ≤ 40; omega
            · show ws.length ≤ 8
              omega
            · intro r hr
              show r.ok ws.length (rs ++ [Row.stop]).length
              rw [hwl, List.length_append]
              rcases List.mem_append.mp hr with q | q
              · exact ho r q
              · rw [List.mem_singleton.mp q]; trivial
          have hTs : 4 * tests (rs ++ [Row.stop]) ≤ (rs ++ [Row.stop]).length := by
            rw [tests_app, tests_one, isT_stop, List.length_append]
            omega
          refine ⟨_, rfl, d, sa, ns, _, rfl, C14.ent, by decide, by decide, fun n2 H15 m0 m1 C15 => ?_⟩
          refine ⟨rfl, _, rfl, ite2 (fun _ => ?_) (fun _ => ?_)⟩
          · exact ⟨_, rfl, _, rfl, d, sa, ns, t8, _, rfl, C15.ent, hP.kp C15.kp, hG, fun b q H16 C16 hp hg hT1 hT2 => kq b q H16 ((C14.trans C15).trans C16) hp hg (by rw [hT1, hT2]; exact hTs)⟩
          · exact ⟨_, rfl, kq t8 _ H15 (C14.trans C15) (hP.kp C15.kp) hG hTs⟩
        · intro N hN
          refine ⟨_, rfl, Nat.zero_le _, fun e he => ?_⟩
          refine alloc he fun H9 s9 e9 => ?_
          have C9 := C8.same s9
          refine eq_nil (s9 _ _ hl) (hR.kp (Kp.same s9)) e9 ⟨_, rfl, ?_⟩
          cases rs with
          | nil =>
            refine ⟨_, rfl, d, sa, ns, 0, rfl, C9.ent, fun t r H10 C10 ht hp ho2 => ?_⟩
            refine ⟨(by show 1 ≤ sizeLine; decide), fun l9 hl9 => hN _ _ ?_⟩
            exact ⟨l9, [t], [r], rfl, (C9.trans C10).new hl9, (C10.kp.trans (Kp.new hl9)) _ _ (s9 _ _ ht3), upd_same, Paired.one (Kp.new hl9 _ _ ht), Nat.le_refl _, (by show 1 ≤ 39; decide), (by rw [tests_one, isT_plain hp]; exact Nat.zero_le _), fun y hy => by rw [List.mem_singleton.mp hy]; exact ho2⟩
          | cons r rs =>
            exact hN _ _ ⟨l, bs, r :: rs, rfl, C9, s9 _ _ ht3, s9 _ _ hl, hR.kp (Kp.same s9), by simp, by omega, hT, ho⟩
end
end DL
namespace DL
open PySem L2 DLR
theorem word5 {a : Nat} {j : Nat} (hj : j < 5) : ∃ wd : Str, ([V.str "load", V.str "add", V.str "take", V.str "store", V.str "add"] : List V)[j]? = some (.str wd) ∧ ∀ x y : Nat, ∃ r : Row, rowVs r = [.str wd, .int (x : Int), .int (y : Int)] ∧ ∀ W N, x < W → y < N → r.ok W N := by
  match j, hj with
  | 0, _ => exact ⟨_, rfl, fun x y => ⟨.load x y, rfl, fun _ _ p q => ⟨p, q⟩⟩⟩
  | 1, _ => exact ⟨_, rfl, fun x y => ⟨.add x y, rfl, fun _ _ p q => ⟨p, q⟩⟩⟩
  | 2, _ => exact ⟨_, rfl, fun x y => ⟨.take x y, rfl, fun _ _ p q => ⟨p, q⟩⟩⟩
  | 3, _ => exact ⟨_, rfl, fun x y => ⟨.store x y, rfl, fun _ _ p q => ⟨p, q⟩⟩⟩
  | 4, _ => exact ⟨_, rfl, fun x y => ⟨.add x y, rfl, fun _ _ p q => ⟨p, q⟩⟩⟩
def AnyAt (K : Frg) (H0 : Hp) (d sa : Addr) (ns : List Int) (wt : Addr) (us : List Int) (l : Addr) (N : Nat) (i : Nat) (H : Hp) : Prop :=
  ∃ bs rs, Dc K H0 H d sa ns ∧ H0 l = none ∧ H wt = some (.tup (us.map V.int)) ∧ H l = some (.lst (bs.map V.ref)) ∧ RowsAt H bs rs ∧ rs.length = i ∧ ∀ r ∈ rs, r.ok us.length N
theorem AnyAt.put {K : Frg} {H0 H : Hp} {d sa : Addr} {ns : List Int} {wt : Addr} {us : List Int} {l : Addr} {N : Nat} {i : Nat} {bs : List Addr} {rs : List Row} {t : Addr} {r : Row} (C : Dc K H0 H d sa ns) (n0 : H0 l = none) (hw : H wt = some (.tup (us.map V.int)))
    (hl : H l = some (.lst (bs.map V.ref))) (hR : RowsAt H bs rs) (hi : rs.length = i) (ho : ∀ r ∈ rs, r.ok us.length N) (ht : H t = some (.tup (rowVs r))) (hr : r.ok us.length N) : AnyAt K H0 d sa ns wt us l N (i + 1) (upd H l (.lst (bs.map V.ref ++ [.ref t]))) := by
  have k : Kp H (upd H l (.lst (bs.map V.ref ++ [.ref t]))) := Kp.lst hl
  exact ⟨bs ++ [t], rs ++ [r], C.mut n0, n0, k _ _ hw, by rw [upd_same, List.map_append]; rfl, RowsAt.kp (Paired.app hR (Paired.one ht)) k, by rw [List.length_append, hi]; rfl, all_snoc ho hr⟩
abbrev sAny : Stmt := top 80
abbrev FAny (K : Frg) (mg : Str → Option Value) := Fd K mg "_law_any" sAny ["_law_d"]
def spAny (K : Frg) : Sp := fun vs H Q _ => ∃ (d sa : Addr) (ns : List Int), vs = [.ref d] ∧ Ent K H d sa ns ∧
  ∀ b q H', Dc K H H' d sa ns → ProgAt H' b q → Good q → Q (.ref b) H'
section
variable {P : Program} {w : World} {K : PySem.W.Frag} {mg : Str → Option Value} {base : Heap}
abbrev nAny : List Str := ["_law_d", "_law_many", "_law_rows", "_law_worths", "_law_size", "_law_number", "_law_near", "_law_way", "_law_k"]
theorem scAny : FnScope nAny ["_law_d"] (defScope sAny) := ⟨rfl, rfl, rfl, by decide +kernel, rfl, by decide +kernel, by decide +kernel⟩
theorem ok_any (cAny : FAny K mg) (cStopping : FStopping K mg) (cMixed : FMixed K mg) (cBody : FBody K mg) (cFork : FFork K mg) (cStraight : FStraight K mg) (cNext : FNext K mg) (T : Bt mg) : FnOk P w K mg base CX0 8 cAny.f cAny.fd ["_law_d"] (spAny K) := by
  have GNext : FnOk P w K mg base CX0 1 cNext.f cNext.fd ["_law_dice_here", "_law_many"] (spNext K) := ok_next cNext.F T
  have GStopping : FnOk P w K mg base CX0 7 cStopping.f cStopping.fd pStopping (spStopping K) := ok_stopping cStopping cMixed cBody cFork cStraight cNext T
  refine cAny.F.ok scAny (fun vs H Q E h => ?_) (fun cdv A outer s H vs Q E hr h => ?_)
  · obtain ⟨d, sa, ns, rfl, _⟩ := h
    rfl
  · obtain ⟨d, sa, ns, rfl, hE, kq⟩ := h
    refine ⟨_, (pss_cons (ps_if (pt_cmpR op_gt (pe_call GNext (hr.mono (by first | omega | decide)) (by rfl) cNext.m cNext.F.kp cNext.b .nil pass0 (pa_cons (pv 0) (pa_cons pe_int pa_nil))) pe_int (nomark _))
          (pss_one (ps_ret (pe_call GStopping (hr.mono (by first | omega | decide)) (by rfl) cStopping.m cStopping.F.kp cStopping.b .nil pass0 (pa_cons (pv 0) (pa_cons (pe_call GNext (hr.mono (by first | omega | decide)) (by rfl) cNext.m cNext.F.kp cNext.b .nil pass0 (pa_cons (pv 0) (pa_cons pe_int pa_nil))) pa_nil)))))
          pss_nil)
      (pss_cons (ps_par (i := 1) (j := 2) (by rfl) scAny.nd rfl rfl (by decide) rfl rfl (pa_cons (pe_call GNext (hr.mono (by first | omega | decide)) (by rfl) cNext.m cNext.F.kp cNext.b .nil pass0 (pa_cons (pv 0) (pa_cons pe_int pa_nil))) (pa_cons (pe_lst pa_nil) pa_nil)) (by rfl))
      (pss_cons (ps_set (i := 3) scAny.nd rfl (Or.inl rfl) (pe_callTy call_tuple_of (by rfl) T.tuple (by decide +kernel) (pa_cons (pe_lc (own := [("_law_k", 8)]) (g := gName 8) (tt := tYes) rfl scAny.nd (pi_range1 rfl T.range (pa_cons (pv 1) pa_nil)) (blkOk_by (N := nAny) (sc := defScope sAny) (by decide +kernel)) (fun _ _ _ _ _ => (pg_name (i := 8) scAny.nd rfl (Or.inl rfl))) (fun _ _ _ _ _ => pts_nil) (fun _ _ _ _ _ => (pe_ix (ix_listK K rfl) (pe_lst (pa_cons (pe_op op_sub (pe_call GNext (hr.mono (by first | omega | decide)) (by rfl) cNext.m cNext.F.kp cNext.b .nil pass0 (pa_cons (pv 0) (pa_cons pe_int pa_nil))) pe_int) (pa_cons (pe_op op_sub (pe_call GNext (hr.mono (by first | omega | decide)) (by rfl) cNext.m cNext.F.kp cNext.b .nil pass0 (pa_cons (pv 0) (pa_cons pe_int pa_nil))) (pe_op op_pow pe_int pe_int)) pa_nil))) (pe_call GNext (hr.mono (by first | omega | decide)) (by rfl) cNext.m cNext.F.kp cNext.b .nil pass0 (pa_cons (pv 0) (pa_cons pe_int pa_nil))) (fun _ _ => rfl)))) pa_nil)))
      (pss_cons (ps_set (i := 4) scAny.nd rfl (Or.inl rfl) (pe_op op_add pe_int (pe_call GNext (hr.mono (by first | omega | decide)) (by rfl) cNext.m cNext.F.kp cNext.b .nil pass0 (pa_cons (pv 0) (pa_cons (pe_ix ix_list (pe_lst (pa_cons pe_int (pa_cons pe_int (pa_cons pe_int pa_nil)))) (pe_call GNext (hr.mono (by first | omega | decide)) (by rfl) cNext.m cNext.F.kp cNext.b .nil pass0 (pa_cons (pv 0) (pa_cons pe_int pa_nil))) (fun _ _ => rfl)) pa_nil)))))
      (pss_cons (ps_for PassesOwn.never rfl (pi_range1 rfl T.range (pa_cons (pv 4) pa_nil)) (pg_name (i := 5) scAny.nd rfl (Or.inl rfl))
          (pss_cons (ps_set (i := 6) scAny.nd rfl (Or.inl rfl) (pe_ix ix_list (pe_lst (pa_cons (pe_op op_mod (pe_op op_add (pv 5) pe_int) (pv 4)) (pa_cons (pe_call GNext (hr.mono (by first | omega | decide)) (by rfl) cNext.m cNext.F.kp cNext.b .nil pass0 (pa_cons (pv 0) (pa_cons (pv 4) pa_nil))) pa_nil))) (pe_callTy call_int1 (by rfl) T.int (by decide +kernel) (pa_cons (pe_cmpR op_eq (pe_call GNext (hr.mono (by first | omega | decide)) (by rfl) cNext.m cNext.F.kp cNext.b .nil pass0 (pa_cons (pv 0) (pa_cons pe_int pa_nil))) pe_int (nomark _)) pa_nil)) (fun _ _ => rfl)))
          (pss_cons (ps_set (i := 7) scAny.nd rfl (Or.inl rfl) (pe_call GNext (hr.mono (by first | omega | decide)) (by rfl) cNext.m cNext.F.kp cNext.b .nil pass0 (pa_cons (pv 0) (pa_cons pe_int pa_nil))))
          (pss_one (ps_if (PW.pt (pw_and (pt_cmpR op_lt (pv 7) pe_int (nomark _)) (pw_and1 (pt_cmpR op_gt (pv 1) pe_int (nomark _)))))
              (pss_one (ps_expr (pe_bm PySem.F.plainAttrs_list PySem.F.slot_list_append PySem.F.type_list_append mt_append (pv 2) (pa_cons (pe_tup (pa_cons (pe_ix ix_list (pe_lst (pa_cons pe_str (pa_cons pe_str (pa_cons pe_str (pa_cons pe_str (pa_cons pe_str pa_nil)))))) (pv 7) (fun _ _ => rfl)) (pa_cons (pe_call GNext (hr.mono (by first | omega | decide)) (by rfl) cNext.m cNext.F.kp cNext.b .nil pass0 (pa_cons (pv 0) (pa_cons (pv 1) pa_nil))) (pa_cons (pv 6) pa_nil)))) pa_nil))))
              (pss_one (ps_expr (pe_bm PySem.F.plainAttrs_list PySem.F.slot_list_append PySem.F.type_list_append mt_append (pv 2) (pa_cons (pe_ix ix_list (pe_lst (pa_cons (pe_tup (pa_cons pe_str (pa_cons (pv 6) pa_nil))) (pa_cons (pe_tup (pa_cons pe_str (pa_cons (pe_call GNext (hr.mono (by first | omega | decide)) (by rfl) cNext.m cNext.F.kp cNext.b .nil pass0 (pa_cons (pv 0) (pa_cons (pv 4) pa_nil))) (pa_cons (pv 6) pa_nil)))) (pa_cons (pe_tup (pa_cons pe_str pa_nil)) pa_nil)))) (pe_op op_mod (pv 7) pe_int) (fun _ _ => rfl)) pa_nil)))))))))
      (pss_one (ps_ret (pe_tup (pa_cons (pv 3) (pa_cons (pe_callTy call_tuple_of (by rfl) T.tuple (by decide +kernel) (pa_cons (pv 2) pa_nil)) pa_nil)))))))))), ?_⟩
    refine ⟨_, rfl, d, sa, ns, _, rfl, hE, by decide, by decide, fun n0 H1 a0 a1 C1 => ?_⟩
    refine ⟨_, _, rfl, rfl, _, rfl, ite2 (fun _ => ?_) (fun _ => ?_)⟩
    · refine ⟨_, rfl, _, rfl, d, sa, ns, _, rfl, C1.ent, by decide, by decide, fun n1 H2 b0 b1 C2 => ?_⟩
      refine ⟨d, sa, ns, n1.toNat, ?_, by omega, C2.ent, fun b q H3 C3 hp hg _ => kq b q H3 ((C1.trans C2).trans C3) hp hg⟩
      show [V.ref d, V.int n1] = _
      rw [Int.toNat_of_nonneg b0]
    refine ⟨_, rfl, d, sa, ns, _, rfl, C1.ent, by decide, by decide, fun many H2 b0 b1 C2 => ?_⟩
    obtain ⟨mn, rfl⟩ : ∃ mn : Nat, many = (mn : Int) := ⟨many.toNat, by omega⟩
    refine ⟨Nat.zero_le _, fun l hl => ?_⟩
    refine alloc hl fun H3 s3 e3 => ?_
    have C3 := (C1.trans C2).same s3
    have nl : H l = none := (C1.trans C2).here hl
    refine ⟨_, _, rfl, ?_⟩
    refine ⟨_, rfl, _, rfl, by omega, by omega, fun D hD => ?_⟩
    have nlD : l ≠ D := ne_of_none e3 hD
    refine lc_range (lo := 0) (n := (mn : Int).toNat) (fun i H4 => ∃ us : List Int, Dc K H H4 d sa ns ∧ H D = none ∧ H4 D = some (.lst (us.map V.int)) ∧ us.length = i ∧ (∀ x ∈ us, -1000000 ≤ x ∧ x ≤ 1000000) ∧ H4 l = some (.lst []))
      ⟨[], C3.new hD, C3.here hD, upd_same, rfl, fun _ h => absurd h (by simp), by rw [upd_ne nlD]; exact e3⟩ ?_ ?_
    · rintro i H4 hi ⟨us, C4, nD, hu, hul, hum, hl4⟩
      refine ⟨rfl, _, rfl, d, sa, ns, _, rfl, C4.ent, by decide, by decide, fun m1 H5 m10 m11 C5 => ?_⟩
      refine ⟨_, _, rfl, rfl, _, rfl, d, sa, ns, _, rfl, C5.ent, by decide, by decide, fun m2 H6 m20 m21 C6 => ?_⟩
      refine ⟨_, _, rfl, rfl, ⟨by decide, by decide, by decide⟩, _, _, rfl, rfl, (by show 2 ≤ sizeLine; decide), fun lx hlx => ?_⟩
      refine alloc hlx fun H7 s7 e7 => ?_
      have C7 := (C5.trans C6).same s7
      refine ⟨_, rfl, d, sa, ns, _, rfl, C7.ent, by decide, by decide, fun m3 H8 m30 m31 C8 => ?_⟩
      have C48 := C7.trans C8
      have hu8 := C48.but _ _ (C4.ned nD) hu
      have hl8 := C48.but _ _ (C4.ned nl) hl4
      have hx8 := C8.but _ _ (((C4.trans C5).trans C6).ned (((C4.trans C5).trans C6).here hlx)) e7
      have e6 : ((10 : Int) ^ (6 : Int).toNat) = 1000000 := by decide
      obtain ⟨z, hz, hz1, hz2⟩ : ∃ z : Int, atI ([V.int (m1 - 4), V.int (m2 - (10 : Int) ^ (6 : Int).toNat)] : List V) m3 = some (.int z) ∧ -1000000 ≤ z ∧ z ≤ 1000000 := by
        rcases (show m3 = 0 ∨ m3 = 1 by omega) with q | q
        · exact ⟨m1 - 4, by rw [q]; exact at0, by omega, by omega⟩
        · exact ⟨m2 - 1000000, by rw [q, e6]; exact at1, by omega, by omega⟩
      refine ⟨lx, _, _, _, rfl, rfl, SqL.of hx8, hz, _, hu8, szl (by rw [List.length_map]; omega), us ++ [z], (C4.trans C48).mut nD, nD, by rw [upd_same, List.map_append]; rfl, by rw [List.length_append, hul]; rfl, all_snoc hum ⟨hz1, hz2⟩, by rw [upd_ne nlD]; exact hl8⟩
    · rintro H4 ⟨us, C4, nD, hu, hul, hum, hl4⟩
      rw [Int.toNat_natCast] at hul
      refine ⟨D, _, rfl, .inl ⟨SqL.of hu, fun wt hwt => ?_⟩⟩
      refine alloc hwt fun H5 s5 e5 => ?_
      have C5 := C4.same s5
      refine ⟨_, rfl, (by show 3 ≤ sizeLine; decide), fun ly hly => ?_⟩
      refine alloc hly fun H6 s6 e6 => ?_
      have C6 := C5.same s6
      refine ⟨_, rfl, d, sa, ns, _, rfl, C6.ent, by decide, by decide, fun m3 H7 m30 m31 C7 => ?_⟩
      have C67 := C6.trans C7
      obtain ⟨z, hz, hz1, hz2⟩ : ∃ z : Int, atI ([V.int 6, V.int 12, V.int 40] : List V) m3 = some (.int z) ∧ 0 < z ∧ z ≤ 40 := by
        rcases (show m3 = 0 ∨ m3 = 1 ∨ m3 = 2 by omega) with q | q | q
        · exact ⟨6, by rw [q]; exact at0, by decide, by decide⟩
        · exact ⟨12, by rw [q]; exact at1, by decide, by decide⟩
        · exact ⟨40, by rw [q]; exact at2, by decide, by decide⟩
      refine ⟨ly, _, _, _, rfl, rfl, SqL.of (C7.but _ _ (C5.ned (C5.here hly)) e6), hz, d, sa, ns, _, rfl, C67.ent, hz1, by omega, fun m4 H8 m40 m41 C8 => ?_⟩
      refine ⟨_, _, rfl, rfl, ?_⟩
      have C8' := C67.trans C8
      obtain ⟨N, hN⟩ : ∃ N : Nat, 1 + m4 = (N : Int) := ⟨(1 + m4).toNat, by omega⟩
      have hN1 : 1 ≤ N := by omega
      have hN40 : N ≤ 40 := by omega
      refine ⟨_, rfl, 1 + m4, rfl, by omega, by omega, ?_⟩
      refine for_range (lo := 0) (n := (1 + m4).toNat) (fun i σ H' => ∃ x5 x6 x7 : Option V, σ = [some (.ref d), some (.int (mn : Int)), some (.ref l), some (.ref wt), some (.int (N : Int)), x5, x6, x7, none] ∧ AnyAt K H d sa ns wt us l N i H')
        ⟨none, none, none, by rw [← hN]; rfl, [], [], C8', nl, (C7.kp.trans C8.kp) _ _ (s6 _ _ e5), (C7.trans C8).but _ _ (C6.ned nl) ((s5.trans s6) _ _ hl4), .nil, rfl, fun _ h => absurd h (by simp)⟩ ?_ ?_
      · rintro i σ H9 hi ⟨x5, x6, x7, rfl, bs, rs, C9, _, hw9, hl9, hR, hil, ho⟩
        have hbr := Paired.length hR
        have hiN : i < N := by omega
        refine ⟨_, rfl, _, _, rfl, rfl, _, rfl, _, _, rfl, rfl, (by omega), _, rfl, _, rfl, d, sa, ns, _, rfl, C9.ent, (by omega), (by omega), fun m5 H10 m50 m51 C10 => ?_⟩
        refine ⟨(by show 2 ≤ sizeLine; decide), fun lz hlz => ?_⟩
        refine alloc hlz fun H11 s11 e11 => ?_
        have C11 := C10.same s11
        refine ⟨_, rfl, d, sa, ns, _, rfl, C11.ent, by decide, by decide, fun m6 H12 m60 m61 C12 => ?_⟩
        obtain ⟨z, hz, hzN⟩ : ∃ z : Nat, atI ([V.int ((0 + (i : Int) + 1) % (N : Int)), V.int m5] : List V) (if decide (V.int m6 = V.int 3) = true then 1 else 0) = some (.int (z : Int)) ∧ z < N := by
          by_cases c : decide (V.int m6 = V.int 3) = true
          · rw [if_pos c]
            obtain ⟨z, q⟩ : ∃ z : Nat, m5 = (z : Int) := ⟨m5.toNat, by omega⟩
            exact ⟨z, by rw [q]; exact at1, by omega⟩
          · rw [if_neg c]
            have q0 := Int.emod_nonneg (0 + (i : Int) + 1) (show (N : Int) ≠ 0 by omega)
            have q1 := Int.emod_lt_of_pos (0 + (i : Int) + 1) (show (0 : Int) < (N : Int) by omega)
            obtain ⟨z, q⟩ : ∃ z : Nat, (0 + (i : Int) + 1) % (N : Int) = (z : Int) := ⟨((0 + (i : Int) + 1) % (N : Int)).toNat, by omega⟩
            exact ⟨z, by rw [q]; exact at0, by omega⟩
        have C912 := C11.trans C12
        refine ⟨rfl, .inr ⟨_, rfl, lz, _, _, _, rfl, rfl, SqL.of (C12.but _ _ (C10.ned (C10.here hlz)) e11), hz, ?_⟩⟩
        refine ⟨_, rfl, d, sa, ns, _, rfl, C912.ent, by decide, by decide, fun wy H13 w0 w1 C13 => ?_⟩
        dsimp only [gName]
        have C913 := C912.trans C13
        have hl13 := C913.but _ _ (C9.ned nl) hl9
        have hw13 := C913.kp _ _ hw9
        have hR13 := hR.kp C913.kp
        refine if_elim (fun b H' => H' = H13 ∧ (b = true → wy < 5 ∧ 0 < mn)) ?_ ?_
        · rintro bb _ ⟨rfl, hbb⟩
          cases bb with
          | true =>
            obtain ⟨hw5, hm0⟩ := hbb rfl
            refine ⟨_, rfl, .inl ⟨rfl, _, SqL.of hl13⟩, (by show 5 ≤ sizeLine; decide), fun l5 hl5 => ?_⟩
            refine alloc hl5 fun H14 s14 e14 => ?_
            obtain ⟨j, rfl⟩ : ∃ j : Nat, wy = (j : Int) := ⟨wy.toNat, by omega⟩
            obtain ⟨wd, hwd, hrow⟩ := word5 (a := 0) (j := j) (by omega)
            have C14 := C913.same s14
            refine ⟨_, rfl, l5, _, _, _, rfl, rfl, SqL.of e14, atI_nat hwd, ?_⟩
            refine ⟨_, rfl, _, rfl, d, sa, ns, _, rfl, C14.ent, (by omega), (by omega), fun m7 H15 m70 m71 C15 => ?_⟩
            obtain ⟨y, rfl⟩ : ∃ y : Nat, m7 = (y : Int) := ⟨m7.toNat, by omega⟩
            obtain ⟨r, hr1, hr2⟩ := hrow y z
            refine ⟨_, rfl, (by show 3 ≤ sizeLine; decide), fun t ht => ?_⟩
            refine alloc ht fun H16 s16 e16 => ?_
            have C16 := (C14.trans C15).same s16
            have hl16 := C16.but _ _ (C9.ned nl) hl9
            refine ⟨l, _, _, rfl, rfl, hl16, szl (by rw [List.length_map]; omega), _, _, _, rfl, ?_⟩
            exact AnyAt.put (C9.trans C16) nl (C16.kp _ _ hw9) hl16 (hR.kp C16.kp) hil ho (by rw [e16, hr1]) (hr2 _ _ (by omega) hzN)
          | false =>
            refine ⟨_, rfl, .inl ⟨rfl, _, SqL.of hl13⟩, _, rfl, (by show 2 ≤ sizeLine; decide), fun t1 ht1 => ?_⟩
            refine alloc ht1 fun H14 s14 e14 => ?_
            have C14 := C913.same s14
            refine ⟨_, rfl, _, rfl, d, sa, ns, _, rfl, C14.ent, (by omega), (by omega), fun m7 H15 m70 m71 C15 => ?_⟩
            obtain ⟨y, rfl⟩ : ∃ y : Nat, m7 = (y : Int) := ⟨m7.toNat, by omega⟩
            refine ⟨_, rfl, (by show 3 ≤ sizeLine; decide), fun t2 ht2 => ?_⟩
            refine alloc ht2 fun H16 s16 e16 => ?_
            refine ⟨(by show 1 ≤ sizeLine; decide), fun t3 ht3 => ?_⟩
            refine alloc ht3 fun H17 s17 e17 => ?_
            refine ⟨(by show 3 ≤ sizeLine; decide), fun lx hlx => ?_⟩
            refine alloc hlx fun H18 s18 e18 => ?_
            have C18 := (((C14.trans C15).same s16).same s17).same s18
            obtain ⟨t, r, hat, htr, hrr⟩ : ∃ (t : Addr) (r : Row), atI ([V.ref t1, V.ref t2, V.ref t3] : List V) (wy % 3) = some (.ref t) ∧ H18 t = some (.tup (rowVs r)) ∧ r.ok us.length N := by
              have S18 := s17.trans s18
              rcases (show wy % 3 = 0 ∨ wy % 3 = 1 ∨ wy % 3 = 2 by omega) with q | q | q
              · exact ⟨t1, .say z, by rw [q]; exact at0, (C15.kp.trans (Kp.same (s16.trans S18))) _ _ e14, hzN⟩
              · exact ⟨t2, .test y z, by rw [q]; exact at1, S18 _ _ e16, by omega, hzN⟩
              · exact ⟨t3, .stop, by rw [q]; exact at2, s18 _ _ e17, trivial⟩
            have hl18 := C18.but _ _ (C9.ned nl) hl9
            refine ⟨_, rfl, _, _, rfl, rfl, (by show (0 : Int) < 3; decide), lx, _, _, _, rfl, rfl, SqL.of e18, hat, l, _, _, rfl, rfl, hl18, szl (by rw [List.length_map]; omega), _, _, _, rfl, ?_⟩
            exact AnyAt.put (C9.trans C18) nl (C18.kp _ _ hw9) hl18 (hR.kp C18.kp) hil ho htr hrr
        · intro F' hF
          refine ⟨_, rfl, _, _, rfl, rfl, _, rfl, ite2 (fun c => ?_) (fun _ => hF _ _ ⟨rfl, fun e => Bool.noConfusion e⟩)⟩
          have c := of_decide_eq_true c
          refine ⟨_, rfl, _, _, rfl, rfl, _, rfl, hF _ _ ⟨rfl, fun e => ⟨c, ?_⟩⟩⟩
          have e := of_decide_eq_true e
          omega
      · rintro σ H9 ⟨x5, x6, x7, rfl, bs, rs, C9, _, hw9, hl9, hR, hil, ho⟩
        have hbr := Paired.length hR
        refine ⟨_, rfl, _, rfl, l, _, rfl, .inl ⟨SqL.of hl9, fun t1 ht1 => ?_⟩⟩
        refine alloc ht1 fun H10 s10 e10 => ?_
        refine ⟨(by show 2 ≤ sizeLine; decide), fun t2 ht2 => ?_⟩
        refine alloc ht2 fun H11 s11 e11 => ?_
        have S := s10.trans s11
        have hNl : rs.length = N := by omega
        refine kq t2 ⟨us, rs⟩ H11 (C9.same S) ⟨wt, t1, bs, e11, S _ _ hw9, s11 _ _ e10, hR.kp (Kp.same S)⟩ ⟨?_, ?_, ?_, hum, ?_⟩
        · show 1 ≤ rs.length
          omega
        · show rs.length ≤ 40
          omega
        · show us.length ≤ 8
          omega
        · intro r hr
          show r.ok us.length rs.length
          rw [hNl]
          exact ho r hr
end
end DL
namespace DL
open PySem L2 DLR
/-! ### the machine -/
def ring (n : Int) : Int := (n + 1000000000) % 2000000000 - 1000000000
structure Mach where
  desk : Int
  ws : List Int
  said : List Int
def InR (x : Int) : Prop := -1000000000 ≤ x ∧ x < 1000000000
theorem ring_in (n : Int) : InR (ring n) := by
  have h0 := Int.emod_nonneg (n + 1000000000) (show (2000000000 : Int) ≠ 0 by decide)
  have h1 := Int.emod_lt_of_pos (n + 1000000000) (show (0 : Int) < 2000000000 by decide)
  unfold ring InR
  omega
theorem ring_id {n : Int} (h : InR n) : ring n = n := by
  unfold ring
  rw [Int.emod_eq_of_lt (by unfold InR at h; omega) (by unfold InR at h; omega)]
  omega
theorem ring_add (a b : Int) : ring (ring a + b) = ring (a + b) := by
  unfold ring
  have e : (a + 1000000000) % 2000000000 - 1000000000 + b + 1000000000 = (a + 1000000000) % 2000000000 + b := by omega
  rw [e, Int.emod_add_emod]
  have e2 : a + 1000000000 + b = a + b + 1000000000 := by omega
  rw [e2]
structure MOk (m : Mach) : Prop where
  desk : InR m.desk
  ws : ∀ x ∈ m.ws, InR x
def Mach.at (m : Mach) (w : Nat) : Int := m.ws.getD w 0
def stepM (m : Mach) : Row → Mach × Option Nat
  | .load w n => ({ m with desk := m.at w }, some n)
  | .add w n => ({ m with desk := ring (m.desk + m.at w) }, some n)
  | .take w n => ({ m with desk := ring (m.desk - m.at w) }, some n)
  | .store w n => ({ m with ws := m.ws.set w m.desk }, some n)
  | .say n => ({ m with said := m.said ++ [m.desk] }, some n)
  | .test a b => (m, some (if m.desk = 0 then a else b))
  | .stop => (m, none)
theorem at_in {m : Mach} (h : MOk m) {w : Nat} (hw : w < m.ws.length) : m.ws[w]? = some (m.at w) ∧ InR (m.at w) := by
  have e : m.ws[w]? = some (m.at w) := by
    unfold Mach.at
    rw [List.getD_eq_getElem?_getD, List.getElem?_eq_getElem hw]
    rfl
  exact ⟨e, h.ws _ (List.mem_of_getElem? e)⟩
theorem stepM_ok {m : Mach} (h : MOk m) {r : Row} {N : Nat} (ho : r.ok m.ws.length N) : MOk (stepM m r).1 ∧ (stepM m r).1.ws.length = m.ws.length ∧ (stepM m r).1.said.length ≤ m.said.length + 1 ∧ ∀ n, (stepM m r).2 = some n → n < N := by
  cases r with
  | load w n => exact ⟨⟨(at_in h ho.1).2, h.ws⟩, rfl, Nat.le_succ _, fun k e => by cases e; exact ho.2⟩
  | add w n => exact ⟨⟨ring_in _, h.ws⟩, rfl, Nat.le_succ _, fun k e => by cases e; exact ho.2⟩
  | take w n => exact ⟨⟨ring_in _, h.ws⟩, rfl, Nat.le_succ _, fun k e => by cases e; exact ho.2⟩
  | store w n =>
    refine ⟨⟨h.desk, fun x hx => ?_⟩, List.length_set .., Nat.le_succ _, fun k e => by cases e; exact ho.2⟩
    rcases List.mem_or_eq_of_mem_set hx with q | q
    · exact h.ws x q
    · rw [q]; exact h.desk
  | say n => exact ⟨⟨h.desk, h.ws⟩, rfl, by show (m.said ++ [m.desk]).length ≤ _; rw [List.length_append]; exact Nat.le_refl _, fun k e => by cases e; exact ho⟩
  | test a b =>
    refine ⟨h, rfl, Nat.le_succ _, fun k e => ?_⟩
    have e : (if m.desk = 0 then a else b) = k := Option.some.inj e
    rw [← e]
    split
    · exact ho.1
    · exact ho.2
  | stop => exact ⟨h, rfl, Nat.le_succ _, fun k e => by cases e⟩
def oV : Option Nat → V
  | none => .non
  | some n => .int (n : Int)
/-! ### the law's own machine: a dict -/
def kW : Key := .inr "worths"
def kD : Key := .inr "desk"
def kS : Key := .inr "said"
theorem k_WD : kW ≠ kD := by decide +kernel
theorem k_WS : kW ≠ kS := by decide +kernel
theorem k_DS : kD ≠ kS := by decide +kernel
structure LawM (ex : Key → Option V) (H : Hp) (ad aw as_ : Addr) (m : Mach) : Prop where
  dic : ∃ kvs : List (Key × V), H ad = some (.dK kvs) ∧ kvs.length ≤ 100 ∧ valV kvs kW = some (.ref aw) ∧ valV kvs kD = some (.int m.desk) ∧ valV kvs kS = some (.ref as_) ∧ ∀ k, k ≠ kW → k ≠ kD → k ≠ kS → valV kvs k = ex k
  ws : H aw = some (.lst (m.ws.map V.int))
  said : H as_ = some (.lst (m.said.map V.int))
  ne : aw ≠ as_
def But3 (a b c : Addr) (H H' : Hp) : Prop := ∀ x o, x ≠ a → x ≠ b → x ≠ c → H x = some o → H' x = some o
theorem But3.of {a b c : Addr} {H H' : Hp} (s : Same1 H H') : But3 a b c H H' := fun x o _ _ _ h => s x o h
theorem But3.trans {a b c : Addr} {H H1 H2 : Hp} (s : But3 a b c H H1) (t : But3 a b c H1 H2) : But3 a b c H H2 := fun x o h1 h2 h3 h => t x o h1 h2 h3 (s x o h1 h2 h3 h)
theorem But3.upd1 {a b c : Addr} {H : Hp} {o : HO} : But3 a b c H (upd H a o) := fun x u h _ _ e => by rw [upd_ne h]; exact e
theorem But3.upd2 {a b c : Addr} {H : Hp} {o : HO} : But3 a b c H (upd H b o) := fun x u _ h _ e => by rw [upd_ne h]; exact e
theorem But3.upd3 {a b c : Addr} {H : Hp} {o : HO} : But3 a b c H (upd H c o) := fun x u _ _ h e => by rw [upd_ne h]; exact e
theorem LawM.same {ex : Key → Option V} {H H' : Hp} {ad aw as_ : Addr} {m : Mach} (h : LawM ex H ad aw as_ m) (s : Same1 H H') : LawM ex H' ad aw as_ m := by
  obtain ⟨⟨kvs, h1, h2⟩, h3, h4, h5⟩ := h
  exact ⟨⟨kvs, s _ _ h1, h2⟩, s _ _ h3, s _ _ h4, h5⟩
theorem put_len {κ : Type} [DecidableEq κ] {kvs : List (κ × V)} {k : κ} {v x : V} (h : valV kvs k = some x) : (putK kvs k v).length = kvs.length := by
  unfold putK
  rw [valV_any, h, if_pos (by rfl), List.length_map]
theorem LawM.put {ex : Key → Option V} {H : Hp} {ad aw as_ : Addr} {m : Mach} {kvs : List (Key × V)} {z : Int} (h : LawM ex H ad aw as_ m) (e : H ad = some (.dK kvs)) : LawM ex (upd H ad (.dK (putK kvs kD (.int z)))) ad aw as_ { m with desk := z } := by
  obtain ⟨⟨kvs', h1, h2, h3, h4, h5, h9⟩, h6, h7, h8⟩ := h
  rw [e] at h1
  have q : kvs = kvs' := by injection (Option.some.inj h1)
  subst q
  have nw : aw ≠ ad := ne_of h6 e (by intro z; cases z)
  have ns : as_ ≠ ad := ne_of h7 e (by intro z; cases z)
  refine ⟨⟨putK kvs kD (.int z), upd_same, by rw [put_len h4]; exact h2, ?_, ?_, ?_, fun k a b c => by rw [valV_put, if_neg (fun z => b z)]; exact h9 k a b c⟩, by rw [upd_ne nw]; exact h6, by rw [upd_ne ns]; exact h7, h8⟩
  · rw [valV_put, if_neg k_WD]; exact h3
  · rw [valV_put, if_pos rfl]
  · rw [valV_put, if_neg k_DS.symm]; exact h5
theorem dget {H : Hp} {a : Addr} {kvs : List (Key × V)} {k : Key} {v : V} (e : H a = some (.dK kvs)) (h : valV kvs k = some v) : DGet H a (kV k) (some v) := by
  have q := DGet.k (k := k) e
  rw [h] at q
  exact q
def Row.ar : Row → Bool
  | .load _ _ => true
  | .add _ _ => true
  | .take _ _ => true
  | _ => false
theorem Row.in3 (r : Row) : inV (.str r.word) [.str "load", .str "add", .str "take"] = r.ar := by cases r <;> (dsimp only [Row.word, Row.ar]; decide +kernel)
def Row.isWd (s : Str) (r : Row) : Bool := decide (V.str r.word = V.str s)
def Row.fac (r : Row) : Int × Int := match r with
  | .load _ _ => (0, 1)
  | .take _ _ => (1, -1)
  | _ => (1, 1)
theorem Row.f1 (r : Row) : (if (!decide (V.str r.word = V.str "load")) = true then (1 : Int) else 0) = r.fac.1 := by
  cases r with
  | load _ _ => exact (by decide +kernel : (if (!decide (V.str "load" = V.str "load")) = true then (1 : Int) else 0) = 0)
  | add _ _ => exact (by decide +kernel : (if (!decide (V.str "add" = V.str "load")) = true then (1 : Int) else 0) = 1)
  | take _ _ => exact (by decide +kernel : (if (!decide (V.str "take" = V.str "load")) = true then (1 : Int) else 0) = 1)
  | store _ _ => exact (by decide +kernel : (if (!decide (V.str "store" = V.str "load")) = true then (1 : Int) else 0) = 1)
  | say _ => exact (by decide +kernel : (if (!decide (V.str "say" = V.str "load")) = true then (1 : Int) else 0) = 1)
  | test _ _ => exact (by decide +kernel : (if (!decide (V.str "test" = V.str "load")) = true then (1 : Int) else 0) = 1)
  | stop  => exact (by decide +kernel : (if (!decide (V.str "stop" = V.str "load")) = true then (1 : Int) else 0) = 1)
theorem Row.f2 (r : Row) : atI ([V.int 1, V.int (-1)] : List V) (if decide (V.str r.word = V.str "take") = true then (1 : Int) else 0) = some (.int r.fac.2) := by
  cases r with
  | load _ _ => exact (by decide +kernel : atI ([V.int 1, V.int (-1)] : List V) (if decide (V.str "load" = V.str "take") = true then (1 : Int) else 0) = some (.int (1)))
  | add _ _ => exact (by decide +kernel : atI ([V.int 1, V.int (-1)] : List V) (if decide (V.str "add" = V.str "take") = true then (1 : Int) else 0) = some (.int (1)))
  | take _ _ => exact (by decide +kernel : atI ([V.int 1, V.int (-1)] : List V) (if decide (V.str "take" = V.str "take") = true then (1 : Int) else 0) = some (.int (-1)))
  | store _ _ => exact (by decide +kernel : atI ([V.int 1, V.int (-1)] : List V) (if decide (V.str "store" = V.str "take") = true then (1 : Int) else 0) = some (.int (1)))
  | say _ => exact (by decide +kernel : atI ([V.int 1, V.int (-1)] : List V) (if decide (V.str "say" = V.str "take") = true then (1 : Int) else 0) = some (.int (1)))
  | test _ _ => exact (by decide +kernel : atI ([V.int 1, V.int (-1)] : List V) (if decide (V.str "test" = V.str "take") = true then (1 : Int) else 0) = some (.int (1)))
  | stop  => exact (by decide +kernel : atI ([V.int 1, V.int (-1)] : List V) (if decide (V.str "stop" = V.str "take") = true then (1 : Int) else 0) = some (.int (1)))
theorem Row.wd_eq (r : Row) : r.isWd "test" = (match r with | .test _ _ => true | _ => false) ∧ r.isWd "store" = (match r with | .store _ _ => true | _ => false) ∧ r.isWd "say" = (match r with | .say _ => true | _ => false) ∧ r.isWd "stop" = (match r with | .stop => true | _ => false) := by
  cases r with
  | load _ _ => exact (by decide +kernel : decide (V.str "load" = V.str "test") = false ∧ decide (V.str "load" = V.str "store") = false ∧ decide (V.str "load" = V.str "say") = false ∧ decide (V.str "load" = V.str "stop") = false)
  | add _ _ => exact (by decide +kernel : decide (V.str "add" = V.str "test") = false ∧ decide (V.str "add" = V.str "store") = false ∧ decide (V.str "add" = V.str "say") = false ∧ decide (V.str "add" = V.str "stop") = false)
  | take _ _ => exact (by decide +kernel : decide (V.str "take" = V.str "test") = false ∧ decide (V.str "take" = V.str "store") = false ∧ decide (V.str "take" = V.str "say") = false ∧ decide (V.str "take" = V.str "stop") = false)
  | store _ _ => exact (by decide +kernel : decide (V.str "store" = V.str "test") = false ∧ decide (V.str "store" = V.str "store") = true ∧ decide (V.str "store" = V.str "say") = false ∧ decide (V.str "store" = V.str "stop") = false)
  | say _ => exact (by decide +kernel : decide (V.str "say" = V.str "test") = false ∧ decide (V.str "say" = V.str "store") = false ∧ decide (V.str "say" = V.str "say") = true ∧ decide (V.str "say" = V.str "stop") = false)
  | test _ _ => exact (by decide +kernel : decide (V.str "test" = V.str "test") = true ∧ decide (V.str "test" = V.str "store") = false ∧ decide (V.str "test" = V.str "say") = false ∧ decide (V.str "test" = V.str "stop") = false)
  | stop  => exact (by decide +kernel : decide (V.str "stop" = V.str "test") = false ∧ decide (V.str "stop" = V.str "store") = false ∧ decide (V.str "stop" = V.str "say") = false ∧ decide (V.str "stop" = V.str "stop") = true)
theorem Row.ar_of {r : Row} (h : r.ar = true) {W N : Nat} (ho : r.ok W N) : ∃ w n : Nat, (rowVs r)[1]? = some (.int (w : Int)) ∧ w < W ∧ atI (rowVs r) (-1) = some (.int (n : Int)) ∧
    ∀ m : Mach, MOk m → w < m.ws.length → stepM m r = ({ m with desk := ring (m.desk * r.fac.1 + m.at w * r.fac.2) }, some n) := by
  cases r with
  | load w n =>
    refine ⟨w, n, rfl, ho.1, rfl, fun m hm hw => ?_⟩
    show ({ m with desk := m.at w }, some n) = ({ m with desk := ring (m.desk * 0 + m.at w * 1) }, some n)
    rw [Int.mul_zero, Int.zero_add, Int.mul_one, ring_id (at_in hm hw).2]
  | add w n =>
    refine ⟨w, n, rfl, ho.1, rfl, fun m hm hw => ?_⟩
    show ({ m with desk := ring (m.desk + m.at w) }, some n) = ({ m with desk := ring (m.desk * 1 + m.at w * 1) }, some n)
    rw [Int.mul_one, Int.mul_one]
  | take w n =>
    refine ⟨w, n, rfl, ho.1, rfl, fun m hm hw => ?_⟩
    show ({ m with desk := ring (m.desk - m.at w) }, some n) = ({ m with desk := ring (m.desk * 1 + m.at w * -1) }, some n)
    rw [Int.mul_one, Int.mul_neg_one]
    rfl
  | store w n => cases h
  | say n => cases h
  | test a b => cases h
  | stop => cases h
theorem Row.fb (r : Row) : (0 ≤ r.fac.1 ∧ r.fac.1 ≤ 1) ∧ (-1 ≤ r.fac.2 ∧ r.fac.2 ≤ 1) := by cases r <;> (dsimp only [Row.fac]; decide)
abbrev sRing : Stmt := top 82
abbrev FRing (K : Frg) (mg : Str → Option Value) := Fd K mg "_law_ring" sRing ["_law_number"]
def spRing : Sp := fun vs H Q _ => ∃ n : Int, vs = [.int n] ∧ Q (.int (ring n)) H
abbrev sStep : Stmt := top 83
abbrev FStep (K : Frg) (mg : Str → Option Value) := Fd K mg "_law_step" sStep ["_law_s", "_law_row"]
def spStep : Sp := fun vs H Q _ => ∃ (ex : Key → Option V) (ad aw as_ ra : Addr) (m : Mach) (r : Row) (N : Nat), vs = [.ref ad, .ref ra] ∧ LawM ex H ad aw as_ m ∧ MOk m ∧ m.said.length ≤ 9000 ∧ H ra = some (.tup (rowVs r)) ∧ r.ok m.ws.length N ∧
  ∀ H', But3 ad aw as_ H H' → LawM ex H' ad aw as_ (stepM m r).1 → Q (oV (stepM m r).2) H'
section
variable {P : Program} {w : World} {K : PySem.W.Frag} {mg : Str → Option Value} {base : Heap}
theorem scRing : FnScope ["_law_number"] ["_law_number"] (defScope sRing) := ⟨rfl, rfl, rfl, by decide +kernel, rfl, by decide +kernel, by decide +kernel⟩
theorem ok_ring (c : FRing K mg) : FnOk P w K mg base CX0 1 c.f c.fd ["_law_number"] spRing := by
  refine c.F.ok scRing (fun vs H Q E h => ?_) (fun cdv A outer s H vs Q E hr h => ?_)
  · obtain ⟨n, rfl, _⟩ := h
    rfl
  · obtain ⟨n, rfl, k⟩ := h
    refine ⟨_, (pss_one (ps_ret (pe_op op_sub (pe_op op_mod (pe_op op_add (pv 0) (pe_op op_pow pe_int pe_int)) (pe_op op_mul pe_int (pe_op op_pow pe_int pe_int))) (pe_op op_pow pe_int pe_int)))), ?_⟩
    refine ⟨_, rfl, _, _, rfl, rfl, ⟨by decide, by decide, by decide⟩, _, _, rfl, rfl, _, _, rfl, rfl, ⟨by decide, by decide, by decide⟩, _, _, rfl, rfl, .inl ⟨by decide, by decide⟩, _, _, rfl, rfl, ?_, _, _, rfl, rfl, ⟨by decide, by decide, by decide⟩, _, _, rfl, rfl, ?_⟩
    · show (0 : Int) < 2 * 10 ^ (9 : Int).toNat
      decide
    · have e : (10 : Int) ^ (9 : Int).toNat = 1000000000 := by decide
      show Q (V.int ((n + 10 ^ (9 : Int).toNat) % (2 * 10 ^ (9 : Int).toNat) - 10 ^ (9 : Int).toNat)) H
      rw [e, show (2 : Int) * 1000000000 = 2000000000 by decide]
      exact k
abbrev nStep : List Str := ["_law_s", "_law_row", "_law_number"]
theorem scStep : FnScope nStep ["_law_s", "_law_row"] (defScope sStep) := ⟨rfl, rfl, rfl, by decide +kernel, rfl, by decide +kernel, by decide +kernel⟩
theorem ok_step (cStep : FStep K mg) (cRing : FRing K mg) (T : Bt mg) : FnOk P w K mg base CX0 2 cStep.f cStep.fd ["_law_s", "_law_row"] spStep := by
  have GRing : FnOk P w K mg base CX0 1 cRing.f cRing.fd ["_law_number"] spRing := ok_ring cRing
  refine cStep.F.ok scStep (fun vs H Q E h => ?_) (fun cdv A outer s H vs Q E hr h => ?_)
  · obtain ⟨ex, ad, aw, as_, ra, m, r, N, rfl, _⟩ := h
    rfl
  · obtain ⟨ex, ad, aw, as_, ra, m, r, N, rfl, hM, hO, hS, hr0, ho, k⟩ := h
    refine ⟨_, (pss_cons (ps_if (pt_cmpR op_in_seq (pe_ix ix_tup (pv 1) pe_int (fun _ _ => rfl)) (pe_tup (pa_cons pe_str (pa_cons pe_str (pa_cons pe_str pa_nil)))) rfl)
          (pss_cons (ps_set (i := 2) scStep.nd rfl (Or.inl rfl) (pe_ix ix_list (pe_dget (hu_of hr) (pv 0) pe_str (fun _ _ => rfl)) (pe_ix ix_tup (pv 1) pe_int (fun _ _ => rfl)) (fun _ _ => rfl)))
          (pss_one (ps_dput (hu_of hr) (pv 0) pe_str (pe_call GRing (hr.mono (by first | omega | decide)) (by rfl) cRing.m cRing.F.kp cRing.b .nil pass0 (pa_cons (pe_op op_add (pe_op op_mul (pe_dget (hu_of hr) (pv 0) pe_str (fun _ _ => rfl)) (pe_callTy call_int1 (by rfl) T.int (by decide +kernel) (pa_cons (pe_cmpR op_ne (pe_ix ix_tup (pv 1) pe_int (fun _ _ => rfl)) pe_str (nomark _)) pa_nil))) (pe_op op_mul (pv 2) (pe_ix ix_list (pe_lst (pa_cons pe_int (pa_cons (pe_un un_neg pe_int) pa_nil))) (pe_callTy call_int1 (by rfl) T.int (by decide +kernel) (pa_cons (pe_cmpR op_eq (pe_ix ix_tup (pv 1) pe_int (fun _ _ => rfl)) pe_str (nomark _)) pa_nil)) (fun _ _ => rfl)))) pa_nil)) rfl)))
          (pss_one (ps_if (pt_cmpR op_eq (pe_ix ix_tup (pv 1) pe_int (fun _ _ => rfl)) pe_str (nomark _))
              (pss_one (ps_asg (pe_dget (hu_of hr) (pv 0) pe_str (fun _ _ => rfl)) (pg_sub (pe_dget (hu_of hr) (pv 0) pe_str (fun _ _ => rfl)) (pe_ix ix_tup (pv 1) pe_int (fun _ _ => rfl)) set_list)))
              (pss_one (ps_if (pt_cmpR op_eq (pe_ix ix_tup (pv 1) pe_int (fun _ _ => rfl)) pe_str (nomark _))
                  (pss_one (ps_expr (pe_bm PySem.F.plainAttrs_list PySem.F.slot_list_append PySem.F.type_list_append mt_append (pe_dget (hu_of hr) (pv 0) pe_str (fun _ _ => rfl)) (pa_cons (pe_dget (hu_of hr) (pv 0) pe_str (fun _ _ => rfl)) pa_nil))))
                  (pss_one (ps_if (pt_cmpR op_eq (pe_ix ix_tup (pv 1) pe_int (fun _ _ => rfl)) pe_str (nomark _))
                      (pss_one (ps_ret pe_non))
                      pss_nil)))))))
      (pss_one (ps_ret (pe_ifExp (pt_cmpR op_eq (pe_ix ix_tup (pv 1) pe_int (fun _ _ => rfl)) pe_str (nomark _)) (pe_ix ix_tup (pv 1) (pe_op op_add pe_int (pe_callTy call_int1 (by rfl) T.int (by decide +kernel) (pa_cons (pe_cmpR op_ne (pe_dget (hu_of hr) (pv 0) pe_str (fun _ _ => rfl)) pe_int (nomark _)) pa_nil))) (fun _ _ => rfl)) (pe_ix ix_tup (pv 1) (pe_un un_neg pe_int) (fun _ _ => rfl)))))), ?_⟩
    refine ⟨_, rfl, ra, _, _, _, rfl, rfl, SqT.of hr0, atI_nat (j := 0) (Row.w0 r), (by show 3 ≤ sizeLine; decide), fun t1 ht1 => ?_⟩
    refine alloc ht1 fun H1 s1 e1 => ?_
    have hM1 := hM.same s1
    have hr1 := s1 _ _ hr0
    refine ⟨t1, _, rfl, .inr (SqT.of e1), rfl, rfl, r.ar, ?_, ?_⟩
    · show V.bl (inV (.str r.word) [.str "load", .str "add", .str "take"]) = _
      rw [Row.in3]
    obtain ⟨kvs, d1, d2, d3, d4, d5, d6⟩ := hM1.dic
    -- behind the arithmetic of a row that goes on to n
    have last : ∀ (σ : L2.St) (H2 : Hp) (Q2 : VK) (n : Nat), σ[1]? = some (some (.ref ra)) → H2 ra = some (.tup (rowVs r)) → r.isWd "test" = false → atI (rowVs r) (-1) = some (.int (n : Int)) → Q2 (.int (n : Int)) H2 →
        tIf (tTest (tOp rEq (tOp (rIxT K) (tVar 1) (tC (.int 0))) (tC (.str "test")))) (tOp (rIxT K) (tVar 1) (tOp (rI0 fun i j => .int (i + j)) (tC (.int 1)) (tCB (fun xs H Q => (∃ i, xs = [V.int i] ∧ Q (.int i) H) ∨ ∃ k, xs = [V.bl k] ∧ Q (.int (if k then 1 else 0)) H) (tCons (tOp rNe (tDGet (tVar 0) (tC (.str "desk"))) (tC (.int 0))) tNil))))
          (tOp (rIxT K) (tVar 1) (tUn (rU fun i => .int (-i)) (tC (.int 1)))) σ H2 Q2 := by
      intro σ H2 Q2 n h1 h2 h3 h4 h5
      refine ⟨_, h1, ra, _, _, _, rfl, rfl, SqT.of h2, atI_nat (j := 0) (Row.w0 r), rfl, r.isWd "test", rfl, ?_⟩
      rw [h3]
      exact iteF ⟨_, h1, _, rfl, ra, _, _, _, rfl, rfl, SqT.of h2, h4, h5⟩
    cases hA : r.ar with
    | true =>
      obtain ⟨w1, n, g1, g2, g3, g4⟩ := Row.ar_of hA ho
      have ge := g4 m hO g2
      have hat := (at_in hO g2).1
      have hatV : (m.ws.map V.int)[w1]? = some (.int (m.at w1)) := by rw [List.getElem?_map, hat]; rfl
      have hT : r.isWd "test" = false := by
        rw [(Row.wd_eq r).1]
        cases r <;> first | rfl | cases hA
      have fb := Row.fb r
      refine iteT ?_
      refine ⟨_, rfl, ad, _, rfl, dget (k := kW) d1 d3, _, rfl, ra, _, _, _, rfl, rfl, SqT.of hr1, atI_nat (j := 1) g1, aw, _, _, _, rfl, rfl, SqL.of hM1.ws, atI_nat hatV, ?_⟩
      have c1 : -(2 ^ 64) < (if (!decide (V.str r.word = V.str "load")) = true then (1 : Int) else 0) ∧ (if (!decide (V.str r.word = V.str "load")) = true then (1 : Int) else 0) < 2 ^ 64 := by
        rw [Row.f1]; omega
      refine ⟨_, rfl, ad, _, rfl, dget (k := kD) d1 d4, _, rfl, ra, _, _, _, rfl, rfl, SqT.of hr1, atI_nat (j := 0) (Row.w0 r), rfl, .inr ⟨_, rfl, _, _, rfl, rfl, .inr c1, _, rfl, _, rfl, (by show 2 ≤ sizeLine; decide), fun l hl => ?_⟩⟩
      refine alloc hl fun H2 s2 e2 => ?_
      have d1' := s2 _ _ d1
      refine ⟨_, rfl, ra, _, _, _, rfl, rfl, SqT.of (s2 _ _ hr1), atI_nat (j := 0) (Row.w0 r), rfl, .inr ⟨_, rfl, l, _, _, _, rfl, rfl, SqL.of e2, Row.f2 r, _, _, rfl, rfl, .inr ⟨by omega, by omega⟩, _, _, rfl, rfl, _, rfl, ?_⟩⟩
      refine ⟨_, rfl, ad, _, rfl, DPut.k (k := kD) d1' (szl (by omega)), ?_⟩
      rw [Row.f1]
      have hM2 := (hM1.same s2).put (z := ring (m.desk * r.fac.1 + m.at w1 * r.fac.2)) d1'
      have B3 : But3 ad aw as_ H (upd H2 ad (.dK (putK kvs kD (.int (ring (m.desk * r.fac.1 + m.at w1 * r.fac.2)))))) := (But3.of (s1.trans s2)).trans But3.upd1
      have hra2 : (upd H2 ad (.dK (putK kvs kD (.int (ring (m.desk * r.fac.1 + m.at w1 * r.fac.2)))))) ra = some (.tup (rowVs r)) := by
        rw [upd_ne (ne_of (s2 _ _ hr1) d1' (by intro z; cases z))]; exact s2 _ _ hr1
      refine last _ _ _ n rfl hra2 hT g3 ?_
      have q := k _ B3 (by rw [ge]; exact hM2)
      rw [ge] at q
      exact q
    | false =>
      refine iteF ?_
      obtain ⟨w1, w2, w3, w4⟩ := Row.wd_eq r
      refine ⟨_, rfl, ra, _, _, _, rfl, rfl, SqT.of hr1, atI_nat (j := 0) (Row.w0 r), rfl, r.isWd "store", rfl, ?_⟩
      cases r with
      | load w n => cases hA
      | add w n => cases hA
      | take w n => cases hA
      | store w n =>
        rw [w2]
        have hat : (m.ws.map V.int)[w]? = some (.int (m.at w)) := by rw [List.getElem?_map, (at_in hO ho.1).1]; rfl
        refine iteT ⟨_, rfl, ad, _, rfl, dget (k := kD) d1 d4, _, rfl, ad, _, rfl, dget (k := kW) d1 d3, _, rfl, ra, _, _, _, rfl, rfl, SqT.of hr1, at1, aw, _, _, w, rfl, rfl, hM1.ws, ixN_nat (by rw [List.length_map]; exact ho.1), ?_⟩
        have ena : ad ≠ aw := ne_of d1 hM1.ws (by intro z; cases z)
        have hra2 : (upd H1 aw (.lst ((m.ws.map V.int).set w (.int m.desk)))) ra = some (.tup (rowVs (.store w n))) := by
          rw [upd_ne (ne_of hr1 hM1.ws (by intro z; cases z))]; exact hr1
        refine last _ _ _ n rfl hra2 w1 rfl (k _ ((But3.of s1).trans But3.upd2) ⟨⟨kvs, by rw [upd_ne ena]; exact d1, d2, d3, d4, d5, d6⟩, ?_, ?_, hM1.ne⟩)
        · rw [upd_same]
          show _ = some (HO.lst ((m.ws.set w m.desk).map V.int))
          rw [List.map_set]
        · rw [upd_ne hM1.ne.symm]; exact hM1.said
      | say n =>
        rw [w2]
        refine iteF ⟨_, rfl, ra, _, _, _, rfl, rfl, SqT.of hr1, atI_nat (j := 0) (Row.w0 (.say n)), rfl, Row.isWd "say" (.say n), rfl, ?_⟩
        rw [w3]
        refine iteT ⟨_, rfl, ad, _, rfl, dget (k := kS) d1 d5, .inl ⟨rfl, _, SqL.of hM1.said⟩, _, rfl, ad, _, rfl, dget (k := kD) d1 d4, as_, _, _, rfl, rfl, hM1.said, szl (by rw [List.length_map]; omega), ?_⟩
        have ena : ad ≠ as_ := ne_of d1 hM1.said (by intro z; cases z)
        have hra2 : (upd H1 as_ (.lst (m.said.map V.int ++ [.int m.desk]))) ra = some (.tup (rowVs (.say n))) := by
          rw [upd_ne (ne_of hr1 hM1.said (by intro z; cases z))]; exact hr1
        refine last _ _ _ n rfl hra2 w1 rfl (k _ ((But3.of s1).trans But3.upd3) ⟨⟨kvs, by rw [upd_ne ena]; exact d1, d2, d3, d4, d5, d6⟩, ?_, ?_, hM1.ne⟩)
        · rw [upd_ne hM1.ne]; exact hM1.ws
        · rw [upd_same]
          show _ = some (HO.lst ((m.said ++ [m.desk]).map V.int))
          rw [List.map_append]
          rfl
      | test a b =>
        rw [w2]
        refine iteF ⟨_, rfl, ra, _, _, _, rfl, rfl, SqT.of hr1, atI_nat (j := 0) (Row.w0 (.test a b)), rfl, Row.isWd "say" (.test a b), rfl, ?_⟩
        rw [w3]
        refine iteF ⟨_, rfl, ra, _, _, _, rfl, rfl, SqT.of hr1, atI_nat (j := 0) (Row.w0 (.test a b)), rfl, Row.isWd "stop" (.test a b), rfl, ?_⟩
        rw [w4]
        refine iteF ⟨_, rfl, ra, _, _, _, rfl, rfl, SqT.of hr1, atI_nat (j := 0) (Row.w0 (.test a b)), rfl, Row.isWd "test" (.test a b), rfl, ?_⟩
        rw [w1]
        refine iteT ⟨_, rfl, _, rfl, ad, _, rfl, dget (k := kD) d1 d4, rfl, .inr ⟨_, rfl, _, _, rfl, rfl, ra, _, _, .int ((if m.desk = 0 then a else b : Nat) : Int), rfl, rfl, SqT.of hr1, ?_, k _ (But3.of s1) hM1⟩⟩
        by_cases c : m.desk = 0
        · rw [if_pos c, c]
          exact at1
        · have e : decide (V.int m.desk = V.int 0) = false := decide_eq_false fun q => c (by injection q)
          rw [if_neg c, e]
          exact at2
      | stop =>
        rw [w2]
        refine iteF ⟨_, rfl, ra, _, _, _, rfl, rfl, SqT.of hr1, atI_nat (j := 0) (Row.w0 .stop), rfl, Row.isWd "say" .stop, rfl, ?_⟩
        rw [w3]
        refine iteF ⟨_, rfl, ra, _, _, _, rfl, rfl, SqT.of hr1, atI_nat (j := 0) (Row.w0 .stop), rfl, Row.isWd "stop" .stop, rfl, ?_⟩
        rw [w4]
        exact iteT (k _ (But3.of s1) hM1)
end
end DL
namespace DLR
open PySem PySem.Spec PyProof.Rows L2
/-! ### sorted(a dict whose keys are pairs of whole numbers), any number of them -/
def pairH (H : Hp) (a : Addr) : Int × Int := match H a with
  | some (.tup [.int i, .int j]) => (i, j)
  | _ => (0, 0)
theorem pairH_of {H : Hp} {a : Addr} {i j : Int} (h : H a = some (.tup [.int i, .int j])) : pairH H a = (i, j) := by
  unfold pairH
  rw [h]
def pairV (H : Hp) : Value → Int × Int
  | .ref a => pairH H a
  | _ => (0, 0)
def keyP (q : Int × Int) : List Key := [Sum.inl q.1, Sum.inl q.2]
def PairsAt (H : Hp) (bs : List Addr) (L : List (Int × Int)) : Prop := Paired (fun b q => H b = some (.tup [.int q.1, .int q.2])) bs L
theorem pairs_of_map {H : Hp} : ∀ {bs : List Addr}, (∀ b ∈ bs, H b = some (.tup [.int (pairH H b).1, .int (pairH H b).2])) → PairsAt H bs (bs.map (pairH H))
  | [], _ => .nil
  | b :: bs, h => .cons (h b List.mem_cons_self) (pairs_of_map fun c hc => h c (List.mem_cons_of_mem _ hc))
theorem keys_pairs {H : Hp} {kvs : List (List Key × V)} {ks : List (List Key × Addr × Value)} (r : KT H kvs ks) : ∀ {ps : List (Int × Int)}, kvs.map (·.1) = ps.map keyP → PairsAt H (ks.map fun x => x.2.1) ps := by
  induction r with
  | nil =>
    intro ps h
    cases ps with
    | nil => exact .nil
    | cons q ps => cases h
  | @cons p x pt xt h t ih =>
    intro ps hp
    cases ps with
    | nil => cases hp
    | cons q ps =>
      obtain ⟨e1, e2⟩ := List.cons.inj hp
      refine .cons ?_ (ih e2)
      have z := h.2.1
      have e1 : p.1 = keyP q := e1
      rw [e1] at z
      exact z
theorem pairs_map {H : Hp} : ∀ {bs : List Addr} {ps : List (Int × Int)}, PairsAt H bs ps → bs.map (pairH H) = ps
  | _, _, .nil => rfl
  | _, _, .cons h t => by
    rw [List.map_cons, pairs_map t, pairH_of h]
def rSortedDT : List V → Hp → VK → Prop := fun vs H Q => ∃ (d : Addr) (kvs : List (List Key × V)) (ps : List (Int × Int)), vs = [V.ref d] ∧ Rd H d (.dT kvs) ∧ kvs.map (·.1) = ps.map keyP ∧
  ∀ (p : Addr) (ys : List Addr) (L : List (Int × Int)), PairsAt H ys L → SrtO.Srtd SrtO.lexB L → SrtO.Stb SrtO.lexB L ps → H p = none → Q (.ref p) (upd H p (.lst (ys.map V.ref)))
theorem cr_sortedDT {X : Cx} (hc : X.calm = true) : CallR X (.builtin "sorted") rSortedDT := by
  intro pins s σ H vs us Q I r h
  obtain ⟨d, kvs, ps, rfl, hd, hps, q⟩ := h
  obtain ⟨u, rfl, rx⟩ := r.one
  cases rx
  obtain ⟨z, hs, ks, pr, o, es, ep, ho, hx, hdt, he, hn⟩ := (show ObjOk X.prog X.w H s.heap d (.dT kvs) from hd.ok I.hok)
  have l1 := size_of_entries he
  have l2 := Paired.length pr
  refine Calls.call_function_entry kind_sorted plain_sorted entry_sorted (args_sorted1 _) ?_
  unfold Builtin.«sorted»
  refine wpAny_bind (m := checkCount "sorted" 1 1 _) (wpAny_pure ?_)
  refine wpAny_bind (PySem.W.kdu_collect (A := X.A.in1) (kdl_raw hs hx hdt) (I.ok.hd hc) ho (by omega) fun h' tk acc kp it => ?_)
  have ea : acc.toList = (ks.map fun x => x.2.1).map Value.ref := by
    apply List.ext_getElem?
    intro j
    rw [List.map_map, List.getElem?_map]
    cases hj : acc.toList[j]? with
    | none =>
      have g := List.getElem?_eq_none_iff.mp hj
      rw [Array.length_toList, it.1, l1] at g
      rw [List.getElem?_eq_none g]
      rfl
    | some v =>
      obtain ⟨en, hen, hv⟩ := it.2 j v (by rw [← Array.getElem?_toList]; exact hj)
      have qe := entry_at he j
      rw [hen] at qe
      cases hb : ks[j]? with
      | none => rw [hb] at qe; cases qe
      | some b =>
        rw [hb] at qe
        have e2 := Option.some.inj qe
        rw [hv, e2]
        rfl
  have hal : acc.toList.length = ks.length := by rw [ea, List.length_map, List.length_map]
  have hz16 : acc.toList.length ≤ sizeLine := by omega
  have hP := keys_pairs pr hps
  have I1 : Inv X pins σ H { s with heap := h', toks := tk } := I.kept kp
  refine wpAny_bind (wpAny_newList ?_ hz16)
  have hoL : (h'.push (seqObj "list" acc.toList.toArray 0)).get? h'.objs.size = some (seqObj "list" acc.toList.toArray 0) := Heap.get?_push_size _ rfl
  have hpv : ∀ v ∈ acc.toList, Srt.IsPair (h'.push (seqObj "list" acc.toList.toArray 0)) v (pairV H v).1 (pairV H v).2 := by
    intro v hv
    rw [ea] at hv
    obtain ⟨b, hb, rfl⟩ := List.mem_map.mp hv
    obtain ⟨j, hj⟩ := List.getElem?_of_mem hb
    obtain ⟨y, hy, hy2⟩ := DL.Paired.get hP hj
    obtain ⟨_, its2, r2, o2, ho2, hc2, n2, hd2⟩ := I1.hok _ _ hy2
    obtain ⟨u1, u2, rfl, ri, rj⟩ := vals2 r2
    obtain ⟨t1, rfl⟩ := ri
    obtain ⟨t2, rfl⟩ := rj
    have e : pairV H (.ref b) = y := pairH_of hy2
    rw [e]
    exact ⟨b, o2, t1, t2, n2, rfl, Heap.get?_push_of_some _ ho2, hc2, hd2⟩
  show wpAny _ _ _ _ _ { s with heap := h'.push (seqObj "list" acc.toList.toArray 0), toks := tk }
  refine wpAny_bind (wpAny_holding (wpAny_call_entry slot_list_sort ⟨_, hoL, rfl⟩ entry_list_sort
    (SrtO.list_sort_ord (s := { s with heap := h'.push (seqObj "list" acc.toList.toArray 0), toks := tk }) (SrtO.swo_lex (pairV H)) hoL hz16 (fun h2 => ?_) fun out hs2 hb => ⟨_, rfl, ?_⟩) (args_list_sort _)))
  · refine SrtO.pairs_sortableO (by omega) hpv fun o3 e3 => ?_
    rw [show (({ s with heap := h'.push (seqObj "list" acc.toList.toArray 0), toks := tk } : Shared).heap.get? h'.objs.size) = _ from hoL] at e3
    cases e3
    intro c
    exact absurd (Value.type.inj c) (by decide)
  · obtain ⟨e', he'⟩ := PyProof.Rows.sortedHeap_at (vs := acc.toList) (out := out.toArray) hoL
    have href : ∀ u ∈ out, ∃ a, u = Value.ref a := fun u hu => by
      have m := hb.perm.mem_iff.mp hu
      rw [ea] at m
      obtain ⟨b, _, e⟩ := List.mem_map.mp m
      exact ⟨b, e.symm⟩
    obtain ⟨ys, hys⟩ : ∃ ys : List Addr, out = ys.map Value.ref := by
      clear hs2 hb he'
      induction out with
      | nil => exact ⟨[], rfl⟩
      | cons u t ih =>
        obtain ⟨a, ha⟩ := href u List.mem_cons_self
        obtain ⟨ys, e⟩ := ih fun v hv => href v (List.mem_cons_of_mem _ hv)
        exact ⟨a :: ys, by rw [ha, e]; rfl⟩
    have hlo : out.length ≤ sizeLine := by rw [hb.len]; exact hz16
    refine wpAny_pure ⟨_, rfl, .ref h'.objs.size, upd H h'.objs.size (.lst (ys.map V.ref)), I1.laid (t' := tk) (fun b u e => ?_) (Nat.le_refl _) ?_, rfl,
      q _ ys (ys.map (pairH H)) ?_ ?_ ?_ (I1.hok.fresh (Nat.le_refl _))⟩
    · have hlt : b < h'.objs.size := Heap.lt_size e
      rw [PyProof.Rows.sortedHeap_old (Nat.ne_of_lt hlt) (by rw [size_push']; exact Nat.lt_succ_of_lt hlt)]
      exact Heap.get?_push_of_some _ e
    · refine ⟨by rw [List.length_map, ← List.length_map (f := Value.ref), ← hys]; exact hlo, out, e', ?_, he'⟩
      rw [hys]
      exact vals_refs ys
    · refine pairs_of_map fun b hb2 => ?_
      have m : Value.ref b ∈ acc.toList := hb.perm.mem_iff.mp (by rw [hys]; exact List.mem_map.mpr ⟨b, hb2, rfl⟩)
      rw [ea] at m
      obtain ⟨c, hc2, e⟩ := List.mem_map.mp m
      cases e
      obtain ⟨j, hj⟩ := List.getElem?_of_mem hc2
      obtain ⟨y, hy, hy2⟩ := DL.Paired.get hP hj
      rw [pairH_of hy2]
      exact hy2
    · have e : ys.map (pairH H) = out.map (pairV H) := by rw [hys, List.map_map]; rfl
      rw [e]
      exact SrtO.srtd_map hs2
    · have e : ys.map (pairH H) = out.map (pairV H) := by rw [hys, List.map_map]; rfl
      have e2 : ps = acc.toList.map (pairV H) := by rw [ea, List.map_map, ← pairs_map hP]; rfl
      rw [e, e2]
      refine SrtO.Stb.map ?_ (pairV H) hb
      refine ⟨fun x y h => ?_, fun x y z h1 h2 => ?_⟩
      · have a := SrtO.lexB_iff.mp h
        exact SrtO.lexB_no.mpr (by omega)
      · have a := SrtO.lexB_no.mp h1
        have b := SrtO.lexB_no.mp h2
        exact SrtO.lexB_no.mpr (by omega)
end DLR
namespace DL
open PySem L2 DLR
/-! ### the mirror of a run -/
abbrev GL := List ((Int × Int) × V)
def gcount : Option V → Int
  | some (.int c) => c
  | _ => 0
def bump (g : GL) (q : Int × Int) : GL := putK g q (.int (gcount (valV g q) + 1))
structure RS where
  m : Mach
  cnt : List Int
  goes : GL
  here : Option Nat
def goesOf (g : GL) (r : Nat) : Option Nat → GL
  | none => g
  | some n => bump g ((r : Int), (n : Int))
def turnS (rows : List Row) (s : RS) : RS := match s.here with
  | none => s
  | some r => ⟨(stepM s.m (rows.getD r .stop)).1, s.cnt.set r (s.cnt.getD r 0 + 1),
      goesOf s.goes r (stepM s.m (rows.getD r .stop)).2,
      (stepM s.m (rows.getD r .stop)).2⟩
def startS (p : Prog) : RS := ⟨⟨0, p.ws, []⟩, List.replicate p.rows.length 0, [], some 0⟩
def runS (p : Prog) : Nat → RS
  | 0 => startS p
  | k + 1 => turnS p.rows (runS p k)
theorem runS_none {p : Prog} {j : Nat} (h : (runS p j).here = none) : ∀ k, runS p (j + k) = runS p j
  | 0 => rfl
  | k + 1 => by
    show turnS p.rows (runS p (j + k)) = _
    rw [runS_none h k]
    unfold turnS
    rw [h]
structure ROk (p : Prog) (k : Nat) (s : RS) : Prop where
  m : MOk s.m
  w : s.m.ws.length = p.ws.length
  said : s.m.said.length ≤ k
  dl : s.cnt.length = p.rows.length
  sum : s.here ≠ none → s.cnt.sum = (k : Int)
  le : s.cnt.sum ≤ (k : Int) ∧ 0 ≤ s.cnt.sum
  gok : ∀ e ∈ s.goes, ∃ c, e.2 = .int c
  gl : s.goes.length ≤ k
  here : ∀ r, s.here = some r → r < p.rows.length
theorem getD_set_sum {l : List Int} {r : Nat} (h : r < l.length) : (l.set r (l.getD r 0 + 1)).sum = l.sum + 1 := by
  have e : l[r]? = some (l.getD r 0) := by
    rw [List.getD_eq_getElem?_getD, List.getElem?_eq_getElem h]
    rfl
  rw [L2.sum_set e]
  omega
theorem sum_rep : ∀ n : Nat, (List.replicate n (0 : Int)).sum = 0
  | 0 => rfl
  | n + 1 => by
    rw [List.replicate_succ, List.sum_cons, sum_rep n]
    rfl
theorem putK_len {κ : Type} [DecidableEq κ] {kvs : List (κ × V)} {k : κ} {v : V} : (putK kvs k v).length ≤ kvs.length + 1 := by
  unfold putK
  split
  · rw [List.length_map]; omega
  · rw [List.length_append]; exact Nat.le_refl _
theorem putK_all {κ : Type} [DecidableEq κ] {kvs : List (κ × V)} {k : κ} {c : Int} (h : ∀ e ∈ kvs, ∃ c, e.2 = V.int c) : ∀ e ∈ putK kvs k (.int c), ∃ c, e.2 = V.int c := by
  intro e he
  unfold putK at he
  split at he
  · obtain ⟨x, hx, rfl⟩ := List.mem_map.mp he
    by_cases q : x.1 = k
    · rw [if_pos q]; exact ⟨c, rfl⟩
    · rw [if_neg q]; exact h x hx
  · rcases List.mem_append.mp he with q | q
    · exact h e q
    · rw [List.mem_singleton.mp q]; exact ⟨c, rfl⟩
theorem runS_ok {p : Prog} (g : Good p) : ∀ k, ROk p k (runS p k)
  | 0 => by
    refine ⟨⟨(by show -1000000000 ≤ (0 : Int) ∧ (0 : Int) < 1000000000; decide), fun x hx => ?_⟩, rfl, Nat.le_refl _, List.length_replicate, fun _ => ?_, ?_, fun _ h => absurd h (by simp [runS, startS]), Nat.le_refl _, fun r h => ?_⟩
    · have := g.num x hx
      unfold InR
      omega
    · show (List.replicate p.rows.length (0 : Int)).sum = 0
      exact sum_rep _
    · show (List.replicate p.rows.length (0 : Int)).sum ≤ 0 ∧ 0 ≤ (List.replicate p.rows.length (0 : Int)).sum
      rw [sum_rep]
      decide
    · have e : (0 : Nat) = r := Option.some.inj h
      rw [← e]
      exact g.r1
  | k + 1 => by
    have ih := runS_ok g k
    show ROk p (k + 1) (turnS p.rows (runS p k))
    generalize runS p k = s at ih ⊢
    unfold turnS
    cases hh : s.here with
    | none =>
      exact ⟨ih.m, ih.w, Nat.le_succ_of_le ih.said, ih.dl, fun q => absurd hh q, ⟨by show s.cnt.sum ≤ ((k + 1 : Nat) : Int); have := ih.le.1; omega, ih.le.2⟩, ih.gok, Nat.le_succ_of_le ih.gl, fun r h => by rw [hh] at h; cases h⟩
    | some r =>
      have hr := ih.here r hh
      have er : p.rows.getD r .stop = p.rows[r] := by rw [List.getD_eq_getElem?_getD, List.getElem?_eq_getElem hr]; rfl
      have ho : (p.rows.getD r .stop).ok s.m.ws.length p.rows.length := by
        rw [er, ih.w]
        exact g.ok _ (List.getElem_mem hr)
      obtain ⟨s1, s2, s3, s4⟩ := stepM_ok ih.m ho
      have hs := getD_set_sum (l := s.cnt) (r := r) (by rw [ih.dl]; exact hr)
      have hsum := ih.sum (by rw [hh]; simp)
      refine ⟨s1, s2.trans ih.w, ?_, by rw [List.length_set]; exact ih.dl, fun _ => by rw [hs, hsum]; rfl, ?_, ?_, ?_, fun n h => s4 n h⟩
      · show (stepM s.m (p.rows.getD r .stop)).1.said.length ≤ k + 1
        have := ih.said
        omega
      · show (s.cnt.set r (s.cnt.getD r 0 + 1)).sum ≤ _ ∧ 0 ≤ (s.cnt.set r (s.cnt.getD r 0 + 1)).sum
        rw [hs, hsum]
        omega
      · show ∀ e ∈ goesOf s.goes r (stepM s.m (p.rows.getD r .stop)).2, _
        cases (stepM s.m (p.rows.getD r .stop)).2 with
        | none => exact ih.gok
        | some n => exact putK_all ih.gok
      · show (goesOf s.goes r (stepM s.m (p.rows.getD r .stop)).2).length ≤ _
        cases (stepM s.m (p.rows.getD r .stop)).2 with
        | none => exact Nat.le_succ_of_le ih.gl
        | some n => exact Nat.le_trans putK_len (Nat.succ_le_succ ih.gl)
/-! ### the goes as they stand in a dict -/
def kmap (g : GL) : List (List Key × V) := g.map fun e => (keyP e.1, e.2)
theorem keyP_inj {a b : Int × Int} (h : keyP a = keyP b) : a = b := by
  obtain ⟨h1, h2⟩ := List.cons.inj h
  obtain ⟨h3, _⟩ := List.cons.inj h2
  exact Prod.ext (Sum.inl.inj h1) (Sum.inl.inj h3)
theorem kmap_val (g : GL) (q : Int × Int) : valV (kmap g) (keyP q) = valV g q := by
  induction g with
  | nil => rfl
  | cons e g ih =>
    by_cases h : e.1 = q
    · rw [valV_pos h]
      exact valV_pos (p := (keyP e.1, e.2)) (by rw [h])
    · rw [valV_neg h, ← ih]
      exact valV_neg (p := (keyP e.1, e.2)) (fun z => h (keyP_inj z))
theorem kmap_put (g : GL) (q : Int × Int) (v : V) : putK (kmap g) (keyP q) v = kmap (putK g q v) := by
  unfold putK
  have e : ((kmap g).any fun kv => decide (kv.1 = keyP q)) = (g.any fun kv => decide (kv.1 = q)) := by
    rw [valV_any, valV_any, kmap_val]
  rw [e]
  split
  · unfold kmap
    rw [List.map_map, List.map_map]
    refine List.map_congr_left fun x _ => ?_
    show (if keyP x.1 = keyP q then (keyP x.1, v) else (keyP x.1, x.2)) = (keyP (if x.1 = q then (x.1, v) else x).1, (if x.1 = q then (x.1, v) else x).2)
    by_cases h : x.1 = q
    · rw [if_pos h, if_pos (by rw [h])]
    · rw [if_neg h, if_neg (fun z => h (keyP_inj z))]
  · unfold kmap
    rw [List.map_append]
    rfl
theorem kmap_keys (g : GL) : (kmap g).map (·.1) = (g.map (·.1)).map keyP := by
  unfold kmap
  rw [List.map_map, List.map_map]
  rfl
theorem kmap_len (g : GL) : (kmap g).length = g.length := List.length_map _
theorem valV_mem {κ : Type} [DecidableEq κ] {g : List (κ × V)} {q : κ} {v : V} (h : valV g q = some v) : ∃ e ∈ g, e.2 = v := by
  induction g with
  | nil => cases h
  | cons e g ih =>
    by_cases z : e.1 = q
    · rw [valV_pos z] at h
      exact ⟨e, List.mem_cons_self, Option.some.inj h⟩
    · rw [valV_neg z] at h
      obtain ⟨x, hx, hy⟩ := ih h
      exact ⟨x, List.mem_cons_of_mem _ hx, hy⟩
theorem gget {g : GL} (h : ∀ e ∈ g, ∃ c, e.2 = V.int c) (q : Int × Int) : (valV g q).getD (.int 0) = .int (gcount (valV g q)) := by
  cases e : valV g q with
  | none => rfl
  | some v =>
    obtain ⟨x, hx, hy⟩ := valV_mem e
    obtain ⟨c, hc⟩ := h x hx
    rw [← hy, hc]
    rfl
theorem ggot {g : GL} (h : ∀ e ∈ g, ∃ c, e.2 = V.int c) {q : Int × Int} (m : q ∈ g.map (·.1)) : valV g q = some (.int (gcount (valV g q))) := by
  have e := gget h q
  cases z : valV g q with
  | none => exact absurd m (L2.valV_not z)
  | some v =>
    rw [z] at e
    exact congrArg some e
/-! ### what a run tells -/
structure Res (p : Prog) (fuel : Nat) (H0 H : Hp) (a ls le ld lg : Addr) (ys : List Addr) (L : List (Int × Int)) : Prop where
  same : Same1 H0 H
  top : H a = some (.tup [.ref ls, .ref le, .ref ld, .ref lg])
  fs : H0 ls = none
  fd : H0 ld = none
  fg : H0 lg = none
  said : H ls = some (.lst ((runS p fuel).m.said.map V.int))
  fin : H le = some (.tup [.str (if (runS p fuel).here = none then "stop" else "long")])
  cnt : H ld = some (.lst ((runS p fuel).cnt.map V.int))
  goes : H lg = some (.lst (ys.map V.ref))
  each : Paired (fun b q => H b = some (.tup [.int q.1, .int q.2, .int (gcount (valV (runS p fuel).goes q))])) ys L
  srt : SrtO.Srtd SrtO.lexB L
  stb : SrtO.Stb SrtO.lexB L ((runS p fuel).goes.map (·.1))
  n1 : ls ≠ ld
  n2 : ls ≠ lg
  n3 : ld ≠ lg
def spRun : Sp := fun vs H Q _ => ∃ (pa : Addr) (p : Prog) (fuel : Nat), vs = [.ref pa, .int (fuel : Int)] ∧ ProgAt H pa p ∧ Good p ∧ fuel ≤ 5000 ∧
  ∀ a ls le ld lg ys L H', Res p fuel H H' a ls le ld lg ys L → Q (.ref a) H'
end DL
namespace DL
open PySem L2 DLR
theorem while_elim {c : TT} {tb : TS} {D : Ends} {σ : L2.St} {H : Hp} (W : Nat → L2.St → Hp → Prop) (R : L2.St → Hp → Prop) (w0 : ∃ m, W m σ H) (key : ∀ σ' H', R σ' H' → D.nx σ' H')
    (turn : ∀ Nx : L2.St → Hp → Prop, (∀ σ' H', R σ' H' → Nx σ' H') → ∀ m σ H, W m σ H → c σ H fun b H1 => if b = true then ∃ N : L2.St → Hp → Prop, (∀ σ' H', N σ' H' → ∃ m', m' < m ∧ W m' σ' H') ∧ tb { D with nx := N, ct := N, bk := D.nx } σ H1 else Nx σ H1) :
    tWhile c tb D σ H := ⟨W, w0, fun m σ H w => turn D.nx key m σ H w⟩
abbrev sLRun : Stmt := top 84
abbrev pLRun : List Str := ["_law_program", "_law_fuel"]
abbrev FLRun (K : Frg) (mg : Str → Option Value) := Fd K mg "_law_run" sLRun pLRun
abbrev nRun : List Str := ["_law_program", "_law_fuel", "_law_s", "_law_done", "_law_goes", "_law_here", "_law_other", "_law_end", "_law_pair"]
def exN : Key → Option V := fun _ => none
structure LRunAt (p : Prog) (H0 H : Hp) (ad aw as_ ld lg : Addr) (s : RS) : Prop where
  same : Same1 H0 H
  mach : LawM exN H ad aw as_ s.m
  cnt : H ld = some (.lst (s.cnt.map V.int))
  goes : H lg = some (.dT (kmap s.goes))
  fa : H0 ad = none
  fw : H0 aw = none
  fs : H0 as_ = none
  fd : H0 ld = none
  fg : H0 lg = none
  n1 : as_ ≠ ld
  n2 : aw ≠ ld
theorem same_but3 {H0 H H' : Hp} {a b c : Addr} (s : Same1 H0 H) (h : But3 a b c H H') (ha : H0 a = none) (hb : H0 b = none) (hc : H0 c = none) : Same1 H0 H' := fun x o e =>
  h x o (ne_of_none e ha) (ne_of_none e hb) (ne_of_none e hc) (s x o e)
theorem LRunAt.alloc {p : Prog} {H0 H H' : Hp} {ad aw as_ ld lg : Addr} {s : RS} (h : LRunAt p H0 H ad aw as_ ld lg s) (t : Same1 H H') : LRunAt p H0 H' ad aw as_ ld lg s :=
  ⟨h.same.trans t, h.mach.same t, t _ _ h.cnt, t _ _ h.goes, h.fa, h.fw, h.fs, h.fd, h.fg, h.n1, h.n2⟩
theorem LRunAt.nad {p : Prog} {H0 H : Hp} {ad aw as_ ld lg : Addr} {s : RS} (h : LRunAt p H0 H ad aw as_ ld lg s) : ad ≠ ld ∧ aw ≠ lg ∧ as_ ≠ lg ∧ ld ≠ lg ∧ ad ≠ lg := by
  obtain ⟨kvs, h1, _⟩ := h.mach.dic
  exact ⟨ne_of h1 h.cnt (by intro z; cases z), ne_of h.mach.ws h.goes (by intro z; cases z), ne_of h.mach.said h.goes (by intro z; cases z), ne_of h.cnt h.goes (by intro z; cases z), ne_of h1 h.goes (by intro z; cases z)⟩
theorem LRunAt.setCnt {p : Prog} {H0 H : Hp} {ad aw as_ ld lg : Addr} {s : RS} {l : List Int} (h : LRunAt p H0 H ad aw as_ ld lg s) : LRunAt p H0 (upd H ld (.lst (l.map V.int))) ad aw as_ ld lg { s with cnt := l } := by
  obtain ⟨q1, q2, q3, q4, q5⟩ := h.nad
  obtain ⟨kvs, h1, h2⟩ := h.mach.dic
  exact ⟨Same.mut h.same h.fd, ⟨⟨kvs, by rw [upd_ne q1]; exact h1, h2⟩, by rw [upd_ne h.n2]; exact h.mach.ws, by rw [upd_ne h.n1]; exact h.mach.said, h.mach.ne⟩, upd_same, by rw [upd_ne q4.symm]; exact h.goes, h.fa, h.fw, h.fs, h.fd, h.fg, h.n1, h.n2⟩
theorem LRunAt.setGoes {p : Prog} {H0 H : Hp} {ad aw as_ ld lg : Addr} {s : RS} {g : GL} (h : LRunAt p H0 H ad aw as_ ld lg s) : LRunAt p H0 (upd H lg (.dT (kmap g))) ad aw as_ ld lg { s with goes := g } := by
  obtain ⟨q1, q2, q3, q4, q5⟩ := h.nad
  obtain ⟨kvs, h1, h2⟩ := h.mach.dic
  exact ⟨Same.mut h.same h.fg, ⟨⟨kvs, by rw [upd_ne q5]; exact h1, h2⟩, by rw [upd_ne q2]; exact h.mach.ws, by rw [upd_ne q3]; exact h.mach.said, h.mach.ne⟩, by rw [upd_ne q4]; exact h.cnt, upd_same, h.fa, h.fw, h.fs, h.fd, h.fg, h.n1, h.n2⟩
theorem LRunAt.setM {p : Prog} {H0 H H' : Hp} {ad aw as_ ld lg : Addr} {s : RS} {m : Mach} (h : LRunAt p H0 H ad aw as_ ld lg s) (b : But3 ad aw as_ H H') (hm : LawM exN H' ad aw as_ m) : LRunAt p H0 H' ad aw as_ ld lg { s with m := m } := by
  obtain ⟨q1, q2, q3, q4, q5⟩ := h.nad
  exact ⟨same_but3 h.same b h.fa h.fw h.fs, hm, b _ _ q1.symm h.n2.symm h.n1.symm h.cnt, b _ _ q5.symm q2.symm q3.symm h.goes, h.fa, h.fw, h.fs, h.fd, h.fg, h.n1, h.n2⟩
theorem LRunAt.cast {p : Prog} {H0 H : Hp} {ad aw as_ ld lg : Addr} {s t : RS} (h : LRunAt p H0 H ad aw as_ ld lg s) (e1 : t.m = s.m) (e2 : t.cnt = s.cnt) (e3 : t.goes = s.goes) : LRunAt p H0 H ad aw as_ ld lg t := by
  refine ⟨h.same, ?_, ?_, ?_, h.fa, h.fw, h.fs, h.fd, h.fg, h.n1, h.n2⟩
  · rw [e1]; exact h.mach
  · rw [e2]; exact h.cnt
  · rw [e3]; exact h.goes
theorem LRunAt.other {p : Prog} {H0 H H' : Hp} {ad aw as_ ld lg D : Addr} {s : RS} (h : LRunAt p H0 H ad aw as_ ld lg s) (b : But D H H') (n : H0 D = none) (n1 : ad ≠ D) (n2 : aw ≠ D) (n3 : as_ ≠ D) (n4 : ld ≠ D) (n5 : lg ≠ D) : LRunAt p H0 H' ad aw as_ ld lg s := by
  obtain ⟨kvs, h1, h2⟩ := h.mach.dic
  exact ⟨fun x o e => b x o (ne_of_none e n) (h.same x o e), ⟨⟨kvs, b _ _ n1 h1, h2⟩, b _ _ n2 h.mach.ws, b _ _ n3 h.mach.said, h.mach.ne⟩, b _ _ n4 h.cnt, b _ _ n5 h.goes, h.fa, h.fw, h.fs, h.fd, h.fg, h.n1, h.n2⟩
section
variable {P : Program} {w : World} {K : PySem.W.Frag} {mg : Str → Option Value} {base : Heap}
theorem scRun : FnScope nRun pLRun (defScope sLRun) := ⟨rfl, rfl, rfl, by decide +kernel, rfl, by decide +kernel, by decide +kernel⟩
theorem ok_lrun (cRun : FLRun K mg) (cStep : FStep K mg) (cRing : FRing K mg) (T : Bt mg) : FnOk P w K mg base CX0 3 cRun.f cRun.fd pLRun spRun := by
  have GStep : FnOk P w K mg base CX0 2 cStep.f cStep.fd ["_law_s", "_law_row"] spStep := ok_step cStep cRing T
  refine cRun.F.ok scRun (fun vs H Q E h => ?_) (fun cdv A outer s H vs Q E hr h => ?_)
  · obtain ⟨pa, p, fuel, rfl, _⟩ := h
    rfl
  · obtain ⟨pa, p, fuel, rfl, ⟨wa, ra, bs, hpa, hwa, hra, hR⟩, g, hfu, k⟩ := h
    refine ⟨_, (pss_cons (ps_set (i := 2) scRun.nd rfl (Or.inl rfl) (pe_disp (pps_cons pe_str (pe_callTy call_list_of (by rfl) T.list (by decide +kernel) (pa_cons (pe_ix ix_tup (pv 0) pe_int (fun _ _ => rfl)) pa_nil)) (pps_cons pe_str pe_int (pps_cons pe_str (pe_lst pa_nil) pps_nil))) (by rfl) (by rfl) (fun z => by cases z) (by decide)))
      (pss_cons (ps_set (i := 3) scRun.nd rfl (Or.inl rfl) (pe_op op_rep (pe_lst (pa_cons pe_int pa_nil)) (pe_callB call_len_seq (by rfl) T.len PySem.boot_len (pa_cons (pe_ix ix_tup (pv 0) pe_int (fun _ _ => rfl)) pa_nil))))
      (pss_cons (ps_set (i := 4) scRun.nd rfl (Or.inr rfl) pe_dnewT)
      (pss_cons (ps_set (i := 5) scRun.nd rfl (Or.inl rfl) pe_int)
      (pss_cons (ps_while PassesOwn.never (PW.pt (pw_and (pt_cmpR op_notN (pv 5) pe_non (nomark _)) (pw_and1 (pt_cmpR op_lt (pe_callB (cr_sum rfl) (by rfl) T.sum (by decide +kernel) (pa_cons (pv 3) pa_nil)) (pv 1) (nomark _)))))
          (pss_cons (ps_asg (pe_op op_add (pe_ix ix_list (pv 3) (pv 5) (fun _ _ => rfl)) pe_int) (pg_sub (pv 3) (pv 5) set_list))
          (pss_cons (ps_set (i := 6) scRun.nd rfl (Or.inl rfl) (pe_call GStep (hr.mono (by first | omega | decide)) (by rfl) cStep.m cStep.F.kp cStep.b .nil pass0 (pa_cons (pv 2) (pa_cons (pe_ix ix_tup (pe_ix ix_tup (pv 0) pe_int (fun _ _ => rfl)) (pv 5) (fun _ _ => rfl)) pa_nil))))
          (pss_cons (ps_if (pt_cmpR op_notN (pv 6) pe_non (nomark _))
              (pss_one (ps_dput (hu_of hr) (pv 4) (pe_tup (pa_cons (pv 5) (pa_cons (pv 6) pa_nil))) (pe_op op_add (pe_dget2 (hu_of hr) (pv 4) (pe_tup (pa_cons (pv 5) (pa_cons (pv 6) pa_nil))) pe_int ⟨rfl, rfl, rfl, rfl⟩) pe_int) rfl))
              pss_nil)
          (pss_one (ps_set (i := 5) scRun.nd rfl (Or.inl rfl) (pv 6)))))))
      (pss_cons (ps_set (i := 7) scRun.nd rfl (Or.inl rfl) (pe_ifExp (pt_cmpR op_isN (pv 5) pe_non (nomark _)) (pe_tup (pa_cons pe_str pa_nil)) (pe_tup (pa_cons pe_str pa_nil))))
      (pss_one (ps_ret (pe_tup (pa_cons (pe_dget (hu_of hr) (pv 2) pe_str (fun _ _ => rfl)) (pa_cons (pv 7) (pa_cons (pv 3) (pa_cons (pe_lc (own := [("_law_pair", 8)]) (g := gName 8) (tt := tYes) rfl scRun.nd (pi_list (pe_callB (cr_sortedDT rfl) (by rfl) T.sorted (by decide +kernel) (pa_cons (pv 4) pa_nil))) (blkOk_by (N := nRun) (sc := defScope sLRun) (by decide +kernel)) (fun _ _ _ _ _ => (pg_name (i := 8) scRun.nd rfl (Or.inl rfl))) (fun _ _ _ _ _ => pts_nil) (fun _ _ _ _ _ => (pe_op op_catS (pv 8) (pe_tup (pa_cons (pe_dget (hu_of hr) (pv 4) (pv 8) (fun _ _ => rfl)) pa_nil))))) pa_nil))))))))))))), ?_⟩
    have hbr := Paired.length hR
    have hR40 := g.r40
    have hW8 := g.w8
    intro ad had
    refine alloc had fun H1 s1 e1 => ?_
    refine ⟨_, rfl, pa, _, _, _, rfl, rfl, SqT.of (s1 _ _ hpa), at0, wa, _, rfl, .inr (SqT.of (s1 _ _ hwa)), fun aw haw => ?_⟩
    refine alloc haw fun H2 s2 e2 => ?_
    refine ⟨Nat.zero_le _, fun as_ has => ?_⟩
    refine alloc has fun H3 s3 e3 => ?_
    have d3 : H3 ad = some (.dK []) := (s2.trans s3) _ _ e1
    refine ⟨d3, [(kW, .ref aw), (kD, .int 0), (kS, .ref as_)], rfl, (by show 3 ≤ 15; decide), ?_⟩
    have na : aw ≠ as_ := ne_of_none e2 has
    have fw : H aw = none := s1.free haw
    have fs : H as_ = none := (s1.trans s2).free has
    have S3 := (s1.trans s2).trans s3
    have S4 : Same1 H (upd H3 ad (.dK (mergeK [] [(kW, .ref aw), (kD, .int 0), (kS, .ref as_)]))) := Same.mut S3 had
    have M4 : LawM exN (upd H3 ad (.dK (mergeK [] [(kW, .ref aw), (kD, .int 0), (kS, .ref as_)]))) ad aw as_ ⟨0, p.ws, []⟩ := by
      have e : mergeK [] [(kW, .ref aw), (kD, .int 0), (kS, .ref as_)] = putK (putK (putK [] kW (.ref aw)) kD (.int 0)) kS (.ref as_) := rfl
      have nw : aw ≠ ad := ne_of (s3 _ _ e2) d3 (by intro z; cases z)
      have ns : as_ ≠ ad := ne_of e3 d3 (by intro z; cases z)
      rw [e]
      refine ⟨⟨_, upd_same, ?_, ?_, ?_, ?_, fun k a b c => by rw [valV_put, if_neg c, valV_put, if_neg b, valV_put, if_neg a]; rfl⟩, by rw [upd_ne nw]; exact s3 _ _ e2, by rw [upd_ne ns]; exact e3, na⟩
      · have h1 := putK_len (kvs := putK (putK [] kW (V.ref aw)) kD (V.int 0)) (k := kS) (v := V.ref as_)
        have h2 := putK_len (kvs := putK [] kW (V.ref aw)) (k := kD) (v := V.int 0)
        have h3 := putK_len (kvs := ([] : List (Key × V))) (k := kW) (v := V.ref aw)
        have h4 : ([] : List (Key × V)).length = 0 := rfl
        omega
      · rw [valV_put, if_neg k_WS, valV_put, if_neg k_WD, valV_put, if_pos rfl]
      · rw [valV_put, if_neg k_DS, valV_put, if_pos rfl]
      · rw [valV_put, if_pos rfl]
    revert S4 M4
    refine change fun H4 b4 e4 => ?_
    intro S4 M4
    refine ⟨(by show 1 ≤ sizeLine; decide), fun l0 hl0 => ?_⟩
    refine alloc hl0 fun H5 s5 e5 => ?_
    refine ⟨_, rfl, pa, _, _, _, rfl, rfl, SqT.of ((S4.trans s5) _ _ hpa), at1, ra, _, rfl, .inr (SqT.of ((S4.trans s5) _ _ hra)), l0, _, _, rfl, rfl, e5, ?_, ?_, ?_, fun ld hld => ?_⟩
    · rw [List.length_map]; omega
    · rw [List.length_map]; omega
    · refine sz ?_
      show 1 * _ ≤ _
      rw [List.length_map]; omega
    refine alloc hld fun H6 s6 e6 => ?_
    rw [List.flatten_replicate_singleton, List.length_map, hbr] at e6
    refine fun lg hlg => ?_
    refine alloc hlg fun H7 s7 e7 => ?_
    have S47 := (s5.trans s6).trans s7
    have L0 : LRunAt p H H7 ad aw as_ ld lg (startS p) := by
      refine ⟨S4.trans S47, M4.same S47, ?_, e7, had, fw, fs, (S4.trans s5).free hld, ((S4.trans s5).trans s6).free hlg, ne_of_none ((s5) _ _ M4.said) hld, ne_of_none ((s5) _ _ M4.ws) hld⟩
      rw [s7 _ _ e6]
      show _ = some (HO.lst ((List.replicate p.rows.length (0 : Int)).map V.int))
      rw [List.map_replicate, Int.toNat_natCast]
    dsimp only [gName]
    refine while_elim (fun m σ H' => ∃ (j : Nat) (x6 : Option V), m = fuel + 1 - j ∧ j ≤ fuel ∧ σ = [some (.ref pa), some (.int (fuel : Int)), some (.ref ad), some (.ref ld), some (.ref lg), some (oV (runS p j).here), x6, none, none] ∧ LRunAt p H H' ad aw as_ ld lg (runS p j))
      (fun σ H' => ∃ x6 : Option V, σ = [some (.ref pa), some (.int (fuel : Int)), some (.ref ad), some (.ref ld), some (.ref lg), some (oV (runS p fuel).here), x6, none, none] ∧ LRunAt p H H' ad aw as_ ld lg (runS p fuel))
      ⟨fuel + 1, 0, none, rfl, Nat.zero_le _, rfl, L0⟩ ?_ ?_
    · rintro σ H9 ⟨x6, rfl, L⟩
      have O := runS_ok g fuel
      dsimp only
      refine asg_elim (fun v H' => ∃ le, v = .ref le ∧ Same1 H9 H' ∧ H' le = some (.tup [.str (if (runS p fuel).here = none then "stop" else "long")])) ?_ ?_
      · rintro v H10 ⟨le, rfl, s10, e10⟩
        have L10 := L.alloc s10
        obtain ⟨kvs, d1, d2, d3, d4, d5, _⟩ := L10.mach.dic
        refine ⟨_, rfl, ad, _, rfl, dget (k := kS) d1 d5, _, rfl, _, rfl, _, rfl, lg, _, (runS p fuel).goes.map (·.1), rfl, .inl L10.goes, kmap_keys _, fun pl ys L' hP hs hb hpl => ?_⟩
        have hPm := Paired.length hP
        refine alloc hpl fun H11 s11 e11 => ?_
        have L11 := L10.alloc s11
        obtain ⟨kv2, f1, _⟩ := L11.mach.dic
        refine ⟨pl, rfl, ⟨_, SqL.of e11⟩, fun D hD => ?_⟩
        have n1 : ad ≠ D := ne_of_none f1 hD
        have n2 : aw ≠ D := ne_of_none L11.mach.ws hD
        have n3 : as_ ≠ D := ne_of_none L11.mach.said hD
        have n4 : ld ≠ D := ne_of_none L11.cnt hD
        have n5 : lg ≠ D := ne_of_none L11.goes hD
        have n6 : pl ≠ D := ne_of_none e11 hD
        have n0 : H D = none := L11.same.free hD
        refine lc_list (K := K) (a := pl) (xs := ys.map V.ref) (fun i H' => ∃ zs : List Addr, LRunAt p H H' ad aw as_ ld lg (runS p fuel) ∧ H' D = some (.lst (zs.map V.ref)) ∧
            Paired (fun b q => H' b = some (.tup [.int q.1, .int q.2, .int (gcount (valV (runS p fuel).goes q))])) zs (L'.take i) ∧ H' pl = some (.lst (ys.map V.ref)) ∧ Kp H11 H')
          ⟨[], L11.alloc (Same.new hD), upd_same, .nil, by rw [upd_ne n6]; exact e11, Kp.new hD⟩ (fun i H' _ ⟨_, _, _, _, q, _⟩ => SqL.of q) ?_ ?_
        · rintro i x H12 hi ⟨zs, L12, hD12, hz, hpl12, k12⟩
          have hiy : i < ys.length := by
            have q := (List.getElem?_eq_some_iff.mp hi).1
            rwa [List.length_map] at q
          have ex : x = .ref ys[i] := by
            rw [List.getElem?_map, List.getElem?_eq_getElem hiy] at hi
            exact (Option.some.inj hi).symm
          subst ex
          obtain ⟨q, hq1, hq2⟩ := Paired.get hP (List.getElem?_eq_getElem hiy)
          have hb12 := k12 _ _ (s11 _ _ hq2)
          have hmem : q ∈ (runS p fuel).goes.map (·.1) := hb.perm.mem_iff.mp (List.mem_of_getElem? hq1)
          have hget : DGet H12 lg (.ref ys[i]) (some (.int (gcount (valV (runS p fuel).goes q)))) := by
            have z := DGet.t (k := keyP q) L12.goes hb12
            rw [kmap_val, ggot O.gok hmem] at z
            exact z
          have hzl := Paired.length hz
          have hgl : (runS p fuel).goes.length ≤ 5000 := Nat.le_trans O.gl hfu
          have hLl : L'.length ≤ 5000 := by rw [hb.perm.length_eq, List.length_map]; exact hgl
          rw [List.length_take] at hzl
          refine ⟨rfl, _, rfl, _, rfl, _, rfl, lg, _, rfl, hget, (by show 1 ≤ sizeLine; decide), fun t ht => ?_⟩
          refine alloc ht fun H13 s13 e13 => ?_
          refine ⟨ys[i], t, _, _, rfl, rfl, s13 _ _ hb12, e13, (by show 3 ≤ sizeLine; decide), fun t2 H14 s14 e14 => ?_⟩
          have S := s13.trans s14
          have hD14 := S _ _ hD12
          refine ⟨_, hD14, szl (by rw [List.length_map]; omega), zs ++ [t2], (L12.alloc S).other (fun a o n e => by rw [upd_ne n]; exact e) n0 n1 n2 n3 n4 n5, by rw [upd_same, List.map_append]; rfl, ?_, by rw [upd_ne n6]; exact S _ _ hpl12, (k12.trans (Kp.same S)).trans (Kp.lst hD14)⟩
          rw [List.take_add_one, hq1]
          refine Paired.app (Paired.mapP hz fun b q h => Kp.lst hD14 _ _ (S _ _ h)) (Paired.one (Kp.lst hD14 _ _ e14))
        · rintro H12 ⟨zs, L12, hD12, hz, hpl12, k12⟩
          rw [List.length_map, hPm, List.take_length] at hz
          refine ⟨(by show 4 ≤ sizeLine; decide), fun top ht => ?_⟩
          refine alloc ht fun H13 s13 e13 => ?_
          have L13 := L12.alloc s13
          obtain ⟨q1, q2, q3, q4, q5⟩ := L13.nad
          exact k top as_ le ld D zs L' H13 ⟨L13.same, e13, L13.fs, L13.fd, n0, L13.mach.said, s13 _ _ (k12 _ _ (s11 _ _ e10)), L13.cnt, s13 _ _ hD12, Paired.mapP hz fun b q h => s13 _ _ h, hs, hb, L13.n1, n3, n4⟩
      · intro Q' hQ
        refine ⟨_, rfl, rfl, _, rfl, ?_⟩
        cases hh : (runS p fuel).here with
        | none => exact ⟨(by show 1 ≤ sizeLine; decide), fun le hle => hQ _ _ ⟨le, rfl, Same.new hle, by rw [upd_same, hh, if_pos rfl]⟩⟩
        | some r => exact ⟨(by show 1 ≤ sizeLine; decide), fun le hle => hQ _ _ ⟨le, rfl, Same.new hle, by rw [upd_same, hh, if_neg (by simp)]⟩⟩
    · intro Nx hNx
      rintro m σ H8 ⟨j, x6, rfl, hj, rfl, L⟩
      have O := runS_ok g j
      refine ⟨_, rfl, rfl, _, rfl, ?_⟩
      cases hh : (runS p j).here with
      | none =>
        have ef : runS p fuel = runS p j := by
          have q := runS_none hh (fuel - j)
          rw [show j + (fuel - j) = fuel by omega] at q
          exact q
        refine hNx _ _ ⟨x6, ?_, by rw [ef]; exact L⟩
        rw [ef, hh]
      | some r =>
        have hr := O.here r hh
        have hsum := O.sum (by rw [hh]; simp)
        refine ⟨_, rfl, ld, _, rfl, SqL.of L.cnt, _, rfl, _, _, rfl, rfl, _, rfl, ite2 (fun c => ?_) (fun c => ?_)⟩
        · have c := of_decide_eq_true c
          rw [hsum] at c
          have er : p.rows.getD r .stop = p.rows[r] := by rw [List.getD_eq_getElem?_getD, List.getElem?_eq_getElem hr]; rfl
          have hcr : ((runS p j).cnt.map V.int)[r]? = some (.int ((runS p j).cnt.getD r 0)) := by
            rw [List.getElem?_map, List.getD_eq_getElem?_getD, List.getElem?_eq_getElem (by rw [O.dl]; exact hr)]
            rfl
          refine ⟨_, fun σ' H' q => q, ?_⟩
          refine ⟨_, rfl, _, rfl, ld, _, _, _, rfl, rfl, SqL.of L.cnt, atI_nat hcr, _, _, rfl, rfl, _, rfl, _, rfl, ld, _, _, r, rfl, rfl, L.cnt, ixN_nat (by rw [List.length_map, O.dl]; exact hr), ?_⟩
          have L9 := L.setCnt (l := (runS p j).cnt.set r ((runS p j).cnt.getD r 0 + 1))
          rw [List.map_set] at L9
          revert L9
          refine change fun H9 b9 e9 => ?_
          intro L9
          obtain ⟨b, hb1, hb2⟩ := Paired.getR hR (List.getElem?_eq_getElem hr)
          have hbV : (bs.map V.ref)[r]? = some (.ref b) := by rw [List.getElem?_map, hb1]; rfl
          have S9 := L9.same
          refine ⟨_, rfl, _, rfl, pa, _, _, _, rfl, rfl, SqT.of (S9 _ _ hpa), at1, _, rfl, ra, _, _, _, rfl, rfl, SqT.of (S9 _ _ hra), atI_nat hbV, ?_⟩
          refine ⟨_, ad, aw, as_, b, (runS p j).m, p.rows.getD r .stop, p.rows.length, rfl, L9.mach, O.m, by have := O.said; omega, ?_, ?_, fun H10 B10 M10 => ?_⟩
          · rw [er]; exact S9 _ _ hb2
          · rw [er, O.w]; exact g.ok _ (List.getElem_mem hr)
          have L10 := L9.setM B10 M10
          have en : runS p (j + 1) = ⟨(stepM (runS p j).m (p.rows.getD r .stop)).1, (runS p j).cnt.set r ((runS p j).cnt.getD r 0 + 1), goesOf (runS p j).goes r (stepM (runS p j).m (p.rows.getD r .stop)).2, (stepM (runS p j).m (p.rows.getD r .stop)).2⟩ := by
            show turnS p.rows (runS p j) = _
            unfold turnS
            rw [hh]
          refine ⟨_, rfl, rfl, _, rfl, ?_⟩
          cases ho : (stepM (runS p j).m (p.rows.getD r .stop)).2 with
          | none =>
            refine ⟨_, rfl, fuel + 1 - (j + 1), by omega, j + 1, some (oV none), rfl, by omega, ?_, ?_⟩
            · rw [en, ho]; rfl
            · rw [en, ho]
              exact L10.cast rfl rfl rfl
          | some n =>
            refine ⟨_, rfl, lg, rfl, .inr ⟨_, .inl L10.goes⟩, _, rfl, _, rfl, (by show 2 ≤ sizeLine; decide), fun t1 ht1 => ?_⟩
            refine alloc ht1 fun H11 s11 e11 => ?_
            have L11 := L10.alloc s11
            refine ⟨_, DGet.t (k := keyP ((r : Int), (n : Int))) L11.goes e11, ?_⟩
            rw [kmap_val, gget O.gok]
            refine ⟨_, _, rfl, rfl, _, rfl, _, rfl, _, rfl, (by show 2 ≤ sizeLine; decide), fun t2 ht2 => ?_⟩
            refine alloc ht2 fun H12 s12 e12 => ?_
            have L12 := L11.alloc s12
            refine ⟨lg, _, rfl, DPut.t (k := keyP ((r : Int), (n : Int))) L12.goes e12 (szl (by rw [kmap_len]; show (runS p j).goes.length < 100000; have := O.gl; omega)), ?_⟩
            have L13 := L12.setGoes (g := bump (runS p j).goes ((r : Int), (n : Int)))
            rw [kmap_put]
            refine ⟨_, rfl, fuel + 1 - (j + 1), by omega, j + 1, some (oV (some n)), rfl, by omega, ?_, ?_⟩
            · rw [en, ho]; rfl
            · rw [en, ho]
              exact L13.cast rfl rfl rfl
        · have c : ¬ (runS p j).cnt.sum < (fuel : Int) := fun q => c (decide_eq_true q)
          rw [hsum] at c
          have ej : j = fuel := by omega
          subst ej
          exact hNx _ _ ⟨x6, by rw [hh], L⟩
end
end DL
namespace DL
open PySem L2 DLR
theorem relI {i : Int} {t : Tok} : RelV (.int i) (.int i t) := ⟨t, rfl⟩
structure Cn (mg : Str → Option Value) where
  tW : Tok
  tR : Tok
  tN : Tok
  mW : mg "MOST_WORTHS" = some (.int 8 tW)
  mR : mg "MOST_ROWS" = some (.int 40 tR)
  mN : mg "MOST_NUMBER" = some (.int 1000000 tN)
structure Cf (mg : Str → Option Value) where
  tF : Tok
  mF : mg "MOST_FUEL" = some (.int 5000 tF)
structure Cd (mg : Str → Option Value) where
  tL : Tok
  tC : Tok
  mL : mg "DESK_LOW" = some (.int (-1000000000) tL)
  mC : mg "DESK_COUNT" = some (.int 2000000000 tC)
abbrev sIsNumber : Stmt := top 16
abbrev sIsBetween : Stmt := top 17
abbrev sPart : Stmt := top 18
abbrev sCheckWorths : Stmt := top 24
abbrev sCheckFuel : Stmt := top 56
abbrev sOnDesk : Stmt := top 55
abbrev FIsNumber (K : Frg) (mg : Str → Option Value) := Fd K mg "is_number" sIsNumber ["thing"]
abbrev FIsBetween (K : Frg) (mg : Str → Option Value) := Fd K mg "is_between" sIsBetween ["thing", "low", "high"]
abbrev FPart (K : Frg) (mg : Str → Option Value) := Fd K mg "part" sPart ["whole", "at"]
abbrev FCheckWorths (K : Frg) (mg : Str → Option Value) := Fd K mg "check_worths" sCheckWorths ["worths"]
abbrev FCheckFuel (K : Frg) (mg : Str → Option Value) := Fd K mg "check_fuel" sCheckFuel ["fuel"]
abbrev FOnDesk (K : Frg) (mg : Str → Option Value) := Fd K mg "on_desk" sOnDesk ["number"]
def spNum : Sp := fun vs H Q _ => ∃ i : Int, vs = [.int i] ∧ Q (.bl true) H
def spBetween : Sp := fun vs H Q _ => ∃ i lo hi : Int, vs = [.int i, .int lo, .int hi] ∧ lo ≤ i ∧ i ≤ hi ∧ Q (.bl true) H
def spPart : Sp := fun vs H Q _ => ∃ (a : Addr) (xs : List V) (j : Nat) (v : V), vs = [.ref a, .int (j : Int)] ∧ H a = some (.tup xs) ∧ xs[j]? = some v ∧ Q v H
def spCheckWorths : Sp := fun vs H Q _ => ∃ (a : Addr) (ws : List Int), vs = [.ref a] ∧ H a = some (.tup (ws.map V.int)) ∧ ws.length ≤ 8 ∧ (∀ x ∈ ws, -1000000 ≤ x ∧ x ≤ 1000000) ∧ Q .non H
def spCheckFuel : Sp := fun vs H Q _ => ∃ n : Int, vs = [.int n] ∧ 0 ≤ n ∧ n ≤ 5000 ∧ Q .non H
section
variable {P : Program} {w : World} {K : PySem.W.Frag} {mg : Str → Option Value} {base : Heap}
theorem scIsNumber : FnScope ["thing"] ["thing"] (defScope sIsNumber) := ⟨rfl, rfl, rfl, by decide +kernel, rfl, by decide +kernel, by decide +kernel⟩
theorem ok_isNumber (c : FIsNumber K mg) (T : Bt mg) : FnOk P w K mg base CX0 1 c.f c.fd ["thing"] spNum := by
  refine c.F.ok scIsNumber (fun vs H Q E h => ?_) (fun cdv A outer s H vs Q E hr h => ?_)
  · obtain ⟨n, rfl, _⟩ := h
    rfl
  · obtain ⟨n, rfl, k⟩ := h
    refine ⟨_, (pss_one (ps_ret (pe_and (pe_callB call_isi (by rfl) T.isinstance (by decide +kernel) (pa_cons (pv 0) (pa_cons (pe_bltn (v := .ty "int") (by rfl) T.int (by decide +kernel) rfl) pa_nil))) (pe_one (pe_not (pe_callB call_isi (by rfl) T.isinstance (by decide +kernel) (pa_cons (pv 0) (pa_cons (pe_bltn (v := .ty "bool") (by rfl) T.bool (by decide +kernel) rfl) pa_nil)))))))), ?_⟩
    refine ⟨_, rfl, _, _, _, _, true, rfl, .ty _, .base (.int _), kit_ty (by decide +kernel), _, rfl, ?_⟩
    exact ⟨_, rfl, _, _, _, _, false, rfl, .ty _, .base (.int _), kit_ty (by decide +kernel), _, rfl, k⟩
theorem scIsBetween : FnScope ["thing", "low", "high"] ["thing", "low", "high"] (defScope sIsBetween) := ⟨rfl, rfl, rfl, by decide +kernel, rfl, by decide +kernel, by decide +kernel⟩
theorem ok_isBetween (c : FIsBetween K mg) (cIsNumber : FIsNumber K mg) (T : Bt mg) : FnOk P w K mg base CX0 2 c.f c.fd ["thing", "low", "high"] spBetween := by
  have GIsNumber : FnOk P w K mg base CX0 1 cIsNumber.f cIsNumber.fd ["thing"] spNum := ok_isNumber cIsNumber T
  refine c.F.ok scIsBetween (fun vs H Q E h => ?_) (fun cdv A outer s H vs Q E hr h => ?_)
  · obtain ⟨i, lo, hi, rfl, _⟩ := h
    rfl
  · obtain ⟨i, lo, hi, rfl, h1, h2, k⟩ := h
    refine ⟨_, (pss_one (ps_ret (pe_and (pe_call GIsNumber (hr.mono (by first | omega | decide)) (by rfl) cIsNumber.m cIsNumber.F.kp cIsNumber.b .nil pass0 (pa_cons (pv 0) pa_nil)) (pe_one (pe_chain op_le op_le (pv 1) (pv 0) (pv 2)))))), ?_⟩
    refine ⟨_, rfl, _, rfl, _, rfl, ?_⟩
    refine ⟨_, rfl, _, rfl, _, _, rfl, rfl, _, rfl, ?_⟩
    rw [decide_eq_true h1]
    refine iteT ⟨_, rfl, _, _, rfl, rfl, ?_⟩
    show Q (.bl (decide (i ≤ hi))) H
    rw [decide_eq_true h2]
    exact k
theorem scPart : FnScope ["whole", "at"] ["whole", "at"] (defScope sPart) := ⟨rfl, rfl, rfl, by decide +kernel, rfl, by decide +kernel, by decide +kernel⟩
theorem ok_part (c : FPart K mg) (T : Bt mg) : FnOk P w K mg base CX0 1 c.f c.fd ["whole", "at"] spPart := by
  refine c.F.ok scPart (fun vs H Q E h => ?_) (fun cdv A outer s H vs Q E hr h => ?_)
  · obtain ⟨a, xs, j, v, rfl, _⟩ := h
    rfl
  · obtain ⟨a, xs, j, v, rfl, h1, h2, k⟩ := h
    have hj := (List.getElem?_eq_some_iff.mp h2).1
    refine ⟨_, (pss_cons (ps_if (PW.pt (pw_and (pt_val (pe_callB call_isi (by rfl) T.isinstance (by decide +kernel) (pa_cons (pv 0) (pa_cons (pe_bltn (v := .ty "tuple") (by rfl) T.tuple (by decide +kernel) rfl) pa_nil)))) (pw_and1 (pt_cmpR op_lt (pv 1) (pe_callB call_len_seq (by rfl) T.len PySem.boot_len (pa_cons (pv 0) pa_nil)) (nomark _)))))
          (pss_one (ps_ret (pe_ix ix_tup (pv 0) (pv 1) (fun _ _ => rfl))))
          pss_nil)
      (pss_one (ps_ret pe_non))), ?_⟩
    refine ⟨_, rfl, _, _, _, _, true, rfl, .ty _, .base (.tup h1), kit_ty (by decide +kernel), _, rfl, ?_⟩
    refine ⟨_, rfl, _, rfl, a, _, rfl, .inr (SqT.of h1), _, _, rfl, rfl, _, rfl, ?_⟩
    rw [decide_eq_true (show (j : Int) < (xs.length : Int) by omega)]
    exact iteT ⟨_, rfl, _, rfl, a, _, _, _, rfl, rfl, SqT.of h1, atI_nat h2, k⟩
theorem scCheckWorths : FnScope ["worths", "worth"] ["worths"] (defScope sCheckWorths) := ⟨rfl, rfl, rfl, by decide +kernel, rfl, by decide +kernel, by decide +kernel⟩
theorem ok_checkWorths (c : FCheckWorths K mg) (cIsBetween : FIsBetween K mg) (cIsNumber : FIsNumber K mg) (T : Bt mg) (C : Cn mg) : FnOk P w K mg base CX0 3 c.f c.fd ["worths"] spCheckWorths := by
  have GIsBetween : FnOk P w K mg base CX0 2 cIsBetween.f cIsBetween.fd ["thing", "low", "high"] spBetween := ok_isBetween cIsBetween cIsNumber T
  refine c.F.ok scCheckWorths (fun vs H Q E h => ?_) (fun cdv A outer s H vs Q E hr h => ?_)
  · obtain ⟨a, ws, rfl, _⟩ := h
    rfl
  · obtain ⟨a, ws, rfl, h1, h8, hb, k⟩ := h
    refine ⟨_, (pss_cons (ps_if (PW.pt (pw_or (pt_not (pt_val (pe_callB call_isi (by rfl) T.isinstance (by decide +kernel) (pa_cons (pv 0) (pa_cons (pe_bltn (v := .ty "tuple") (by rfl) T.tuple (by decide +kernel) rfl) pa_nil))))) (pw_or1 (pt_cmpR op_gt (pe_callB call_len_seq (by rfl) T.len PySem.boot_len (pa_cons (pv 0) pa_nil)) (pe_glob rfl C.mW relI) (nomark _)))))
          (pss_one ps_never)
          pss_nil)
      (pss_one (ps_for PassesOwn.never rfl (pi_tup (pv 0)) (pg_name (i := 1) scCheckWorths.nd rfl (Or.inl rfl))
          (pss_one (ps_if (pt_not (pt_val (pe_call GIsBetween (hr.mono (by first | omega | decide)) (by rfl) cIsBetween.m cIsBetween.F.kp cIsBetween.b .nil pass0 (pa_cons (pv 1) (pa_cons (pe_un un_neg (pe_glob rfl C.mN relI)) (pa_cons (pe_glob rfl C.mN relI) pa_nil))))))
              (pss_one ps_never)
              pss_nil))))), ?_⟩
    refine ⟨_, rfl, _, _, _, _, true, rfl, .ty _, .base (.tup h1), kit_ty (by decide +kernel), _, rfl, ?_⟩
    refine ⟨_, rfl, a, _, rfl, .inr (SqT.of h1), _, _, rfl, rfl, _, rfl, ?_⟩
    rw [decide_eq_false (show ¬ (8 : Int) < ((ws.map V.int).length : Int) by rw [List.length_map]; omega)]
    refine iteF ⟨_, rfl, a, rfl, ⟨_, SqT.of h1⟩, for_tup (K := K) (a := a) (xs := ws.map V.int) (fun i σ H' => ∃ x : Option V, σ = [some (.ref a), x] ∧ H' = H) ⟨_, rfl, rfl⟩ (fun i σ H' _ ⟨_, _, e⟩ => by rw [e]; exact SqT.of h1) ?_ ?_⟩
    · rintro i x σ H' hi ⟨y, rfl, rfl⟩
      rw [List.getElem?_map] at hi
      cases hz : ws[i]? with
      | none => rw [hz] at hi; cases hi
      | some z =>
        rw [hz] at hi
        have e : V.int z = x := Option.some.inj hi
        subst e
        obtain ⟨b1, b2⟩ := hb z (List.mem_of_getElem? hz)
        refine ⟨_, rfl, _, rfl, z, _, _, rfl, by omega, by omega, _, rfl, ?_⟩
        exact ⟨_, rfl, rfl⟩
    · rintro σ H' ⟨y, rfl, rfl⟩
      exact k
theorem scCheckFuel : FnScope ["fuel"] ["fuel"] (defScope sCheckFuel) := ⟨rfl, rfl, rfl, by decide +kernel, rfl, by decide +kernel, by decide +kernel⟩
theorem ok_checkFuel (c : FCheckFuel K mg) (cIsBetween : FIsBetween K mg) (cIsNumber : FIsNumber K mg) (T : Bt mg) (CF : Cf mg) : FnOk P w K mg base CX0 3 c.f c.fd ["fuel"] spCheckFuel := by
  have GIsBetween : FnOk P w K mg base CX0 2 cIsBetween.f cIsBetween.fd ["thing", "low", "high"] spBetween := ok_isBetween cIsBetween cIsNumber T
  refine c.F.ok scCheckFuel (fun vs H Q E h => ?_) (fun cdv A outer s H vs Q E hr h => ?_)
  · obtain ⟨n, rfl, _⟩ := h
    rfl
  · obtain ⟨n, rfl, h1, h2, k⟩ := h
    refine ⟨_, (pss_one (ps_if (pt_not (pt_val (pe_call GIsBetween (hr.mono (by first | omega | decide)) (by rfl) cIsBetween.m cIsBetween.F.kp cIsBetween.b .nil pass0 (pa_cons (pv 0) (pa_cons pe_int (pa_cons (pe_glob rfl CF.mF relI) pa_nil))))))
          (pss_one ps_never)
          pss_nil)), ?_⟩
    exact ⟨_, rfl, n, _, _, rfl, h1, h2, _, rfl, k⟩
theorem scOnDesk : FnScope ["number"] ["number"] (defScope sOnDesk) := ⟨rfl, rfl, rfl, by decide +kernel, rfl, by decide +kernel, by decide +kernel⟩
theorem ok_onDesk (c : FOnDesk K mg) (CD : Cd mg) : FnOk P w K mg base CX0 1 c.f c.fd ["number"] spRing := by
  refine c.F.ok scOnDesk (fun vs H Q E h => ?_) (fun cdv A outer s H vs Q E hr h => ?_)
  · obtain ⟨n, rfl, _⟩ := h
    rfl
  · obtain ⟨n, rfl, k⟩ := h
    refine ⟨_, (pss_one (ps_ret (pe_op op_add (pe_op op_mod (pe_op op_sub (pv 0) (pe_glob rfl CD.mL relI)) (pe_glob rfl CD.mC relI)) (pe_glob rfl CD.mL relI)))), ?_⟩
    refine ⟨_, rfl, _, _, rfl, rfl, _, _, rfl, rfl, (by show (0 : Int) < 2000000000; decide), _, _, rfl, rfl, ?_⟩
    show Q (.int ((n - -1000000000) % 2000000000 + -1000000000)) H
    have e : (n - -1000000000) % 2000000000 + -1000000000 = ring n := by
      unfold ring
      rw [show n - -1000000000 = n + 1000000000 by omega]
      omega
    rw [e]
    exact k
end
end DL
namespace DL
open PySem L2 DLR
def Row.parts : Row → List Str
  | .say _ => ["next"]
  | .test _ _ => ["next", "next"]
  | .stop => []
  | _ => ["worth", "next"]
theorem Row.parts_len (r : Row) : (rowVs r).length = r.parts.length + 1 := by cases r <;> rfl
structure Pt (K : Frg) (w : World) (mg : Str → Option Value) where
  d : Addr
  es : Array DictEntry
  n : Nat
  m : mg "PARTS" = some (.ref d)
  kd : KDict K w d es n
  at_ : ∀ r : Row, ∃ t, PySem.W.nsIn K d r.word = some (some (.ref t)) ∧ ∀ H, SqT K H t (r.parts.map V.str)
theorem Pt.get {K : Frg} {w : World} {mg : Str → Option Value} (Z : Pt K w mg) (r : Row) : ∃ t, PySem.W.nsIn K Z.d r.word = some (some (.ref t)) ∧ KDct K w Z.d r.word (.ref t) ∧ ∀ H, SqT K H t (r.parts.map V.str) := by
  obtain ⟨t, h1, h2⟩ := Z.at_ r
  exact ⟨t, h1, ⟨_, _, _, Z.kd.at_, Z.kd.lit, h1, rfl⟩, h2⟩
theorem Row.args (r : Row) {i : Nat} (h : i < r.parts.length) : ∃ x : Nat, ((rowVs r).drop 1)[i]? = some (.int (x : Int)) ∧ ∀ {W N : Nat}, r.ok W N →
    (r.parts[i]? = some "worth" ∧ x < W) ∨ (r.parts[i]? = some "next" ∧ x < N) := by
  have hi : i < 2 := by cases r <;> simp [Row.parts] at h <;> omega
  match i, hi with
  | 0, _ =>
    cases r <;> first
      | exact ⟨_, rfl, fun o => .inl ⟨rfl, o.1⟩⟩
      | exact ⟨_, rfl, fun o => .inr ⟨rfl, o⟩⟩
      | exact ⟨_, rfl, fun o => .inr ⟨rfl, o.1⟩⟩
      | (exfalso; simp [Row.parts] at h)
  | 1, _ =>
    cases r <;> first
      | exact ⟨_, rfl, fun o => .inr ⟨rfl, o.2⟩⟩
      | (exfalso; simp [Row.parts] at h)
theorem Row.ints (r : Row) : ∃ ns : List Int, (rowVs r).drop 1 = ns.map V.int ∧ ns.length = r.parts.length := by
  cases r with
  | load a b => exact ⟨[(a : Int), (b : Int)], rfl, rfl⟩
  | add a b => exact ⟨[(a : Int), (b : Int)], rfl, rfl⟩
  | take a b => exact ⟨[(a : Int), (b : Int)], rfl, rfl⟩
  | store a b => exact ⟨[(a : Int), (b : Int)], rfl, rfl⟩
  | say b => exact ⟨[(b : Int)], rfl, rfl⟩
  | test a b => exact ⟨[(a : Int), (b : Int)], rfl, rfl⟩
  | stop => exact ⟨[], rfl, rfl⟩
abbrev sHasShape : Stmt := top 26
abbrev sCheckRow : Stmt := top 25
abbrev sCheckProgram : Stmt := top 23
abbrev FHasShape (K : Frg) (mg : Str → Option Value) := Fd K mg "has_shape" sHasShape ["row"]
abbrev FCheckRow (K : Frg) (mg : Str → Option Value) := Fd K mg "check_row" sCheckRow ["row", "number", "counts"]
abbrev FCheckProgram (K : Frg) (mg : Str → Option Value) := Fd K mg "check_program" sCheckProgram ["program"]
def spHasShape : Sp := fun vs H Q _ => ∃ (a : Addr) (r : Row), vs = [.ref a] ∧ H a = some (.tup (rowVs r)) ∧ ∀ H', Same1 H H' → Q (.bl true) H'
def kWo : Key := .inr "worth"
def kNx : Key := .inr "next"
def spCheckRow : Sp := fun vs H Q _ => ∃ (a c : Addr) (n : Int) (r : Row) (W N : Nat) (kvs : List (Key × V)), vs = [.ref a, .int n, .ref c] ∧ H a = some (.tup (rowVs r)) ∧ r.ok W N ∧
  H c = some (.dK kvs) ∧ valV kvs kWo = some (.int (W : Int)) ∧ valV kvs kNx = some (.int (N : Int)) ∧ ∀ H', Same1 H H' → Q .non H'
def spCheckProgram : Sp := fun vs H Q _ => ∃ (a : Addr) (p : Prog), vs = [.ref a] ∧ ProgAt H a p ∧ Good p ∧ ∀ H', Same1 H H' → Q .non H'
abbrev sUsesWorth : Stmt := top 19
abbrev FUsesWorth (K : Frg) (mg : Str → Option Value) := Fd K mg "uses_worth" sUsesWorth ["row"]
def spUses : Sp := fun vs H Q _ => ∃ (a : Addr) (r : Row), vs = [.ref a] ∧ H a = some (.tup (rowVs r)) ∧ Q (.bl r.uses) H
theorem uses_in (r : Row) : inV (.str "worth") (r.parts.map V.str) = r.uses := by
  cases r <;> (dsimp only [Row.parts, Row.uses, List.map]; decide +kernel)
section
variable {P : Program} {w : World} {K : PySem.W.Frag} {mg : Str → Option Value} {base : Heap}
abbrev nHasShape : List Str := ["row", "word", "thing"]
theorem scHasShape : FnScope nHasShape ["row"] (defScope sHasShape) := ⟨rfl, rfl, rfl, by decide +kernel, rfl, by decide +kernel, by decide +kernel⟩
theorem ok_hasShape (c : FHasShape K mg) (cPart : FPart K mg) (cIsNumber : FIsNumber K mg) (T : Bt mg) (Z : Pt K w mg) : FnOk P w K mg base CX0 2 c.f c.fd ["row"] spHasShape := by
  have GPart : FnOk P w K mg base CX0 1 cPart.f cPart.fd ["whole", "at"] spPart := ok_part cPart T
  have GIsNumber : FnOk P w K mg base CX0 1 cIsNumber.f cIsNumber.fd ["thing"] spNum := ok_isNumber cIsNumber T
  refine c.F.ok scHasShape (fun vs H Q E h => ?_) (fun cdv A outer s H vs Q E hr h => ?_)
  · obtain ⟨a, r, rfl, _⟩ := h
    rfl
  · obtain ⟨a, r, rfl, ha, k⟩ := h
    obtain ⟨t, z1, z2, z3⟩ := Z.get r
    obtain ⟨ns, n1, n2⟩ := Row.ints r
    have rl := Row.vs_len r
    refine ⟨_, (pss_cons (ps_set (i := 1) scHasShape.nd rfl (Or.inl rfl) (pe_call GPart (hr.mono (by first | omega | decide)) (by rfl) cPart.m cPart.F.kp cPart.b .nil pass0 (pa_cons (pv 0) (pa_cons pe_int pa_nil))))
      (pss_cons (ps_if (PW.pt (pw_or (pt_not (pt_val (pe_callB call_isi (by rfl) T.isinstance (by decide +kernel) (pa_cons (pv 1) (pa_cons (pe_bltn (v := .ty "str") (by rfl) T.str (by decide +kernel) rfl) pa_nil))))) (pw_or1 (pt_cmpR (op_notIn_kd Z.kd) (pv 1) (pe_glob (v := .ref Z.d) rfl Z.m rfl) rfl))))
          (pss_one (ps_ret pe_bl))
          pss_nil)
      (pss_one (ps_ret (pe_and (pe_cmpR op_eq (pe_callB call_len_seq (by rfl) T.len PySem.boot_len (pa_cons (pv 0) pa_nil)) (pe_op op_add (pe_callB call_len_seq (by rfl) T.len PySem.boot_len (pa_cons (pe_ix ix_kdict (pe_glob (v := .ref Z.d) rfl Z.m rfl) (pv 1) (fun _ _ => rfl)) pa_nil)) pe_int) (nomark _)) (pe_one (pe_callB (cr_all rfl) (by rfl) T.all (by decide +kernel) (pa_cons (pe_lc (own := [("thing", 2)]) (g := gName 2) (tt := tYes) rfl scHasShape.nd (pi_tup (pe_slice sl_tupS (pv 0) (po_some pe_int) po_none)) (blkOk_by (N := nHasShape) (sc := defScope sHasShape) (by decide +kernel)) (fun _ _ _ _ _ => (pg_name (i := 2) scHasShape.nd rfl (Or.inl rfl))) (fun _ _ _ _ _ => pts_nil) (fun _ _ _ _ _ => (pe_call GIsNumber (hr.mono (by first | omega | decide)) (by rfl) cIsNumber.m cIsNumber.F.kp cIsNumber.b .nil pass0 (pa_cons (pv 2) pa_nil)))) pa_nil)))))))), ?_⟩
    refine ⟨_, rfl, a, _, 0, _, rfl, ha, Row.w0 r, ?_⟩
    refine ⟨_, rfl, _, _, _, _, true, rfl, .ty _, .base (.str _), kit_ty (by decide +kernel), _, rfl, ?_⟩
    refine ⟨_, rfl, _, _, rfl, rfl, z1, _, rfl, ?_⟩
    refine ⟨_, rfl, a, _, rfl, .inr (SqT.of ha), _, rfl, Z.d, _, _, rfl, rfl, z2, t, _, rfl, .inr (z3 H), _, _, rfl, rfl, rfl, _, rfl, ?_⟩
    rw [List.length_map, Row.parts_len, decide_eq_true (show V.int ((r.parts.length + 1 : Nat) : Int) = V.int ((r.parts.length : Int) + 1) from rfl)]
    refine iteT ⟨_, rfl, _, rfl, a, _, rfl, ha, fun t2 H2 s2 e2 => ?_⟩
    rw [drop1, n1] at e2
    refine ⟨t2, rfl, ⟨_, SqT.of e2⟩, fun D hD => ?_⟩
    refine lc_tup (K := K) (a := t2) (xs := ns.map V.int) (fun i H' => H' D = some (.lst ((List.replicate i true).map V.bl)) ∧ Same1 H2 H') ⟨upd_same, Same.new hD⟩ (fun i H' _ ⟨_, q⟩ => SqT.of (q _ _ e2)) ?_ ?_
    · rintro i x H3 hi ⟨hd, s3⟩
      have hin : i < ns.length := by
        have q := (List.getElem?_eq_some_iff.mp hi).1
        rwa [List.length_map] at q
      obtain ⟨z, rfl⟩ : ∃ z, x = V.int z := by
        rw [List.getElem?_map, List.getElem?_eq_getElem hin] at hi
        exact ⟨_, (Option.some.inj hi).symm⟩
      refine ⟨rfl, _, rfl, z, rfl, _, hd, szl (by rw [List.length_map, List.length_replicate]; rw [n2] at hin; have := Row.parts_len r; omega), ?_, Same.mut s3 hD⟩
      rw [upd_same, List.replicate_succ', List.map_append]
      rfl
    · rintro H3 ⟨hd, s3⟩
      refine ⟨D, _, rfl, SqL.of hd, ?_⟩
      rw [show (List.replicate (ns.map V.int).length true).all id = true by rw [List.all_eq_true]; intro x hx; rw [List.eq_of_mem_replicate hx]; rfl]
      exact k _ (s2.trans s3)
abbrev nCheckRow : List Str := ["row", "number", "counts", "name", "thing"]
theorem scCheckRow : FnScope nCheckRow ["row", "number", "counts"] (defScope sCheckRow) := ⟨rfl, rfl, rfl, by decide +kernel, rfl, by decide +kernel, by decide +kernel⟩
theorem ok_checkRow (c : FCheckRow K mg) (cHasShape : FHasShape K mg) (cPart : FPart K mg) (cIsNumber : FIsNumber K mg) (T : Bt mg) (Z : Pt K w mg) : FnOk P w K mg base CX0 3 c.f c.fd ["row", "number", "counts"] spCheckRow := by
  have GHasShape : FnOk P w K mg base CX0 2 cHasShape.f cHasShape.fd ["row"] spHasShape := ok_hasShape cHasShape cPart cIsNumber T Z
  refine c.F.ok scCheckRow (fun vs H Q E h => ?_) (fun cdv A outer s H vs Q E hr h => ?_)
  · obtain ⟨a, c, n, r, W, N, kvs, rfl, _⟩ := h
    rfl
  · obtain ⟨a, c, n, r, W, N, kvs, rfl, ha, ho, hc, hW, hN, k⟩ := h
    obtain ⟨t, z1, z2, z3⟩ := Z.get r
    refine ⟨_, (pss_cons (ps_if (pt_not (pt_val (pe_call GHasShape (hr.mono (by first | omega | decide)) (by rfl) cHasShape.m cHasShape.F.kp cHasShape.b .nil pass0 (pa_cons (pv 0) pa_nil))))
          (pss_one ps_never)
          pss_nil)
      (pss_one (ps_for PassesOwn.never rfl (RZ.pi_zipA (by rfl) T.zip (pa_cons (pe_ix ix_kdict (pe_glob (v := .ref Z.d) rfl Z.m rfl) (pe_ix ix_tup (pv 0) pe_int (fun _ _ => rfl)) (fun _ _ => rfl)) (pa_cons (pe_slice sl_tupS (pv 0) (po_some pe_int) po_none) pa_nil))) (pg_tup rfl (pgs_cons (pg_name (i := 3) scCheckRow.nd rfl (Or.inl rfl)) (pgs_cons (pg_name (i := 4) scCheckRow.nd rfl (Or.inl rfl)) pgs_nil)))
          (pss_one (ps_if (pt_not (pt_chain op_le op_lt pe_int (pv 4) (pe_dget (hu_of hr) (pv 2) (pv 3) (fun _ _ => rfl))))
              (pss_one ps_never)
              pss_nil))))), ?_⟩
    refine ⟨_, rfl, a, r, rfl, ha, fun H1 s1 => ⟨_, rfl, ?_⟩⟩
    have ha1 := s1 _ _ ha
    refine ⟨_, rfl, a, _, _, _, rfl, rfl, SqT.of ha1, atI_nat (j := 0) (Row.w0 r), Z.d, _, _, rfl, rfl, z2, _, rfl, _, rfl, a, _, rfl, ha1, fun t2 H2 s2 e2 => ?_⟩
    rw [drop1] at e2
    have hl : (r.parts.map V.str).length = ((rowVs r).drop 1).length := by
      rw [List.length_map, List.length_drop, Row.parts_len]
      omega
    have S2 := s1.trans s2
    refine ⟨t, t2, _, _, rfl, .inr ⟨z3 H2, SqT.of e2, RZ.for_zipT hl (fun i σ H' => ∃ x3 x4 : Option V, σ = [some (.ref a), some (.int n), some (.ref c), x3, x4] ∧ Same1 H2 H') ⟨none, none, rfl, Same.refl _⟩
      (fun i σ H' ⟨_, _, _, q⟩ => ⟨z3 H', SqT.of (q _ _ e2)⟩) ?_ ?_⟩⟩
    · rintro i x y T' σ H3 hx hy ⟨x3, x4, rfl, s3⟩ hT'
      have hi : i < r.parts.length := by
        have q := (List.getElem?_eq_some_iff.mp hx).1
        rwa [List.length_map] at q
      obtain ⟨z, g1, g2⟩ := Row.args r hi
      have ey : y = .int (z : Int) := by
        rw [hy] at g1
        exact Option.some.inj g1
      subst ey
      have hc3 := (S2.trans s3) _ _ hc
      refine alloc hT' fun H4 s4 e4 => ?_
      have hc4 := s4 _ _ hc3
      refine ⟨T', _, rfl, SqT.of e4, rfl, _, _, rfl, _, _, rfl, rfl, ?_⟩
      refine ⟨_, rfl, _, _, rfl, rfl, _, rfl, ?_⟩
      rw [decide_eq_true (show (0 : Int) ≤ (z : Int) by omega)]
      rw [List.getElem?_map] at hx
      rcases g2 ho with ⟨q1, q2⟩ | ⟨q1, q2⟩
      · rw [q1] at hx
        have ex : V.str "worth" = x := Option.some.inj hx
        subst ex
        refine iteT ⟨_, rfl, _, rfl, c, _, rfl, dget (k := kWo) hc4 hW, _, _, rfl, rfl, _, rfl, ?_⟩
        rw [decide_eq_true (show (z : Int) < (W : Int) by omega)]
        exact ⟨_, _, rfl, s3.trans s4⟩
      · rw [q1] at hx
        have ex : V.str "next" = x := Option.some.inj hx
        subst ex
        refine iteT ⟨_, rfl, _, rfl, c, _, rfl, dget (k := kNx) hc4 hN, _, _, rfl, rfl, _, rfl, ?_⟩
        rw [decide_eq_true (show (z : Int) < (N : Int) by omega)]
        exact ⟨_, _, rfl, s3.trans s4⟩
    · rintro σ H3 ⟨x3, x4, rfl, s3⟩
      exact k _ (S2.trans s3)
theorem k_WN : kWo ≠ kNx := by decide +kernel
abbrev nCheckProgram : List Str := ["program", "rows", "number", "row"]
theorem scCheckProgram : FnScope nCheckProgram ["program"] (defScope sCheckProgram) := ⟨rfl, rfl, rfl, by decide +kernel, rfl, by decide +kernel, by decide +kernel⟩
theorem ok_checkProgram (c : FCheckProgram K mg) (cCheckRow : FCheckRow K mg) (cCheckWorths : FCheckWorths K mg) (cHasShape : FHasShape K mg) (cPart : FPart K mg) (cIsBetween : FIsBetween K mg) (cIsNumber : FIsNumber K mg) (T : Bt mg) (C : Cn mg) (Z : Pt K w mg) : FnOk P w K mg base CX0 4 c.f c.fd ["program"] spCheckProgram := by
  have GCheckRow : FnOk P w K mg base CX0 3 cCheckRow.f cCheckRow.fd ["row", "number", "counts"] spCheckRow := ok_checkRow cCheckRow cHasShape cPart cIsNumber T Z
  have GCheckWorths : FnOk P w K mg base CX0 3 cCheckWorths.f cCheckWorths.fd ["worths"] spCheckWorths := ok_checkWorths cCheckWorths cIsBetween cIsNumber T C
  have GPart : FnOk P w K mg base CX0 1 cPart.f cPart.fd ["whole", "at"] spPart := ok_part cPart T
  refine c.F.ok scCheckProgram (fun vs H Q E h => ?_) (fun cdv A outer s H vs Q E hr h => ?_)
  · obtain ⟨a, p, rfl, _⟩ := h
    rfl
  · obtain ⟨a, p, rfl, ⟨wa, ra, bs, ha, hwa, hra, hR⟩, g, k⟩ := h
    have hbr := Paired.length hR
    have hR40 := g.r40
    have hR1 := g.r1
    refine ⟨_, (pss_cons (ps_expr (pe_call GCheckWorths (hr.mono (by first | omega | decide)) (by rfl) cCheckWorths.m cCheckWorths.F.kp cCheckWorths.b .nil pass0 (pa_cons (pe_call GPart (hr.mono (by first | omega | decide)) (by rfl) cPart.m cPart.F.kp cPart.b .nil pass0 (pa_cons (pv 0) (pa_cons pe_int pa_nil))) pa_nil)))
      (pss_cons (ps_set (i := 1) scCheckProgram.nd rfl (Or.inl rfl) (pe_call GPart (hr.mono (by first | omega | decide)) (by rfl) cPart.m cPart.F.kp cPart.b .nil pass0 (pa_cons (pv 0) (pa_cons pe_int pa_nil))))
      (pss_cons (ps_if (PW.pt (pw_or (pt_not (pt_val (pe_callB call_isi (by rfl) T.isinstance (by decide +kernel) (pa_cons (pv 1) (pa_cons (pe_bltn (v := .ty "tuple") (by rfl) T.tuple (by decide +kernel) rfl) pa_nil))))) (pw_or (pt_cmpR op_ne (pe_callB call_len_seq (by rfl) T.len PySem.boot_len (pa_cons (pv 0) pa_nil)) pe_int (nomark _)) (pw_or1 (pt_not (pt_chain op_le op_le pe_int (pe_callB call_len_seq (by rfl) T.len PySem.boot_len (pa_cons (pv 1) pa_nil)) (pe_glob rfl C.mR relI)))))))
          (pss_one ps_never)
          pss_nil)
      (pss_one (ps_for PassesOwn.never rfl (pi_enumT (by rfl) T.enumerate (pa_cons (pv 1) pa_nil)) (pg_tup rfl (pgs_cons (pg_name (i := 2) scCheckProgram.nd rfl (Or.inl rfl)) (pgs_cons (pg_name (i := 3) scCheckProgram.nd rfl (Or.inl rfl)) pgs_nil)))
          (pss_one (ps_expr (pe_call GCheckRow (hr.mono (by first | omega | decide)) (by rfl) cCheckRow.m cCheckRow.F.kp cCheckRow.b .nil pass0 (pa_cons (pv 3) (pa_cons (pv 2) (pa_cons (pe_disp (pps_cons pe_str (pe_callB call_len_seq (by rfl) T.len PySem.boot_len (pa_cons (pe_ix ix_tup (pv 0) pe_int (fun _ _ => rfl)) pa_nil)) (pps_cons pe_str (pe_callB call_len_seq (by rfl) T.len PySem.boot_len (pa_cons (pv 1) pa_nil)) pps_nil)) (by rfl) (by rfl) (fun z => by cases z) (by decide)) pa_nil))))))))))), ?_⟩
    refine ⟨_, rfl, a, _, 0, _, rfl, ha, rfl, wa, p.ws, rfl, hwa, g.w8, g.num, ?_⟩
    refine ⟨_, rfl, a, _, 1, _, rfl, ha, rfl, ?_⟩
    refine ⟨_, rfl, _, _, _, _, true, rfl, .ty _, .base (.tup hra), kit_ty (by decide +kernel), _, rfl, ?_⟩
    refine ⟨_, rfl, a, _, rfl, .inr (SqT.of ha), rfl, _, rfl, ?_⟩
    rw [decide_eq_true (show V.int ((([V.ref wa, V.ref ra] : List V).length : Nat) : Int) = V.int 2 from rfl)]
    refine iteF ⟨_, rfl, ra, _, rfl, .inr (SqT.of hra), _, _, rfl, rfl, _, rfl, ?_⟩
    rw [List.length_map, hbr, decide_eq_true (show (1 : Int) ≤ (p.rows.length : Int) by omega)]
    refine iteT ⟨_, _, rfl, rfl, _, rfl, ?_⟩
    rw [decide_eq_true (show (p.rows.length : Int) ≤ 40 by omega)]
    refine iteF ?_
    refine ⟨_, rfl, ra, _, rfl, SqT.of hra, for_enumT (K := K) (a := ra) (xs := bs.map V.ref) (fun i σ H' => ∃ x2 x3 : Option V, σ = [some (.ref a), some (.ref ra), x2, x3] ∧ Same1 H H') ⟨none, none, rfl, Same.refl _⟩
      (fun i σ H' ⟨_, _, _, q⟩ => SqT.of (q _ _ hra)) ?_ ?_⟩
    · rintro i x T' σ H1 hi ⟨x2, x3, rfl, s1⟩ hT'
      have hiR : i < p.rows.length := by
        have q := (List.getElem?_eq_some_iff.mp hi).1
        rwa [List.length_map, hbr] at q
      have hr1 : p.rows[i]? = some p.rows[i] := List.getElem?_eq_getElem hiR
      obtain ⟨b, hb1, hb2⟩ := Paired.getR hR hr1
      have ex : x = V.ref b := by
        rw [List.getElem?_map, hb1] at hi
        exact (Option.some.inj hi).symm
      subst ex
      refine alloc hT' fun H2 s2 e2 => ?_
      have S2 := s1.trans s2
      refine ⟨T', _, rfl, SqT.of e2, rfl, _, _, rfl, _, _, rfl, rfl, ?_⟩
      refine ⟨_, rfl, _, rfl, fun c1 hc1 => ?_⟩
      refine alloc hc1 fun H3 s3 e3 => ?_
      have S3 := S2.trans s3
      refine ⟨_, rfl, a, _, _, _, rfl, rfl, SqT.of (S3 _ _ ha), at0, wa, _, rfl, .inr (SqT.of (S3 _ _ hwa)), _, rfl, ra, _, rfl, .inr (SqT.of (S3 _ _ hra)), e3,
        [(kWo, .int (((p.ws.map V.int).length : Nat) : Int)), (kNx, .int (((bs.map V.ref).length : Nat) : Int))], rfl, (by show 2 ≤ 15; decide), ?_⟩
      have em : mergeK [] [(kWo, .int (((p.ws.map V.int).length : Nat) : Int)), (kNx, .int (((bs.map V.ref).length : Nat) : Int))] = putK (putK [] kWo (.int (p.ws.length : Int))) kNx (.int (p.rows.length : Int)) := by
        rw [List.length_map, List.length_map, hbr]
        rfl
      rw [em]
      have S4 : Same1 H (upd H3 c1 (.dK (putK (putK [] kWo (.int (p.ws.length : Int))) kNx (.int (p.rows.length : Int))))) := Same.mut S3 (S2.free hc1)
      refine ⟨b, c1, _, p.rows[i], p.ws.length, p.rows.length, putK (putK [] kWo (.int (p.ws.length : Int))) kNx (.int (p.rows.length : Int)), rfl, S4 _ _ hb2, g.ok _ (List.getElem_mem hiR), upd_same, ?_, ?_, fun H5 s5 => ⟨_, _, rfl, S4.trans s5⟩⟩
      · rw [valV_put, if_neg k_WN, valV_put, if_pos rfl]
      · rw [valV_put, if_pos rfl]
    · rintro σ H1 ⟨x2, x3, rfl, s1⟩
      exact k _ s1
theorem scUsesWorth : FnScope ["row"] ["row"] (defScope sUsesWorth) := ⟨rfl, rfl, rfl, by decide +kernel, rfl, by decide +kernel, by decide +kernel⟩
theorem ok_usesWorth (c : FUsesWorth K mg) (Z : Pt K w mg) : FnOk P w K mg base CX0 1 c.f c.fd ["row"] spUses := by
  refine c.F.ok scUsesWorth (fun vs H Q E h => ?_) (fun cdv A outer s H vs Q E hr h => ?_)
  · obtain ⟨a, r, rfl, _⟩ := h
    rfl
  · obtain ⟨a, r, rfl, ha, k⟩ := h
    obtain ⟨t, z1, z2, z3⟩ := Z.get r
    refine ⟨_, (pss_one (ps_ret (pe_cmpR op_in_seq pe_str (pe_ix ix_kdict (pe_glob (v := .ref Z.d) rfl Z.m rfl) (pe_ix ix_tup (pv 0) pe_int (fun _ _ => rfl)) (fun _ _ => rfl)) rfl))), ?_⟩
    refine ⟨_, rfl, a, _, _, _, rfl, rfl, SqT.of ha, atI_nat (j := 0) (Row.w0 r), Z.d, _, _, rfl, rfl, z2, t, _, rfl, .inr (z3 H), rfl, ?_, ?_⟩
    · rw [List.all_eq_true]
      intro x hx
      obtain ⟨y, _, rfl⟩ := List.mem_map.mp hx
      rfl
    · show Q (.bl (inV (.str "worth") (r.parts.map V.str))) H
      rw [uses_in]
      exact k
end
end DL
namespace DL
open PySem L2 DLR
structure Dk (K : Frg) (mg : Str → Option Value) (C : Addr) : Prop where
  cl : Cls K C
  nN : NoAttr K C "number"
  nW : NoAttr K C "worths"
  nS : NoAttr K C "said"
  m : mg "Desk" = some (.ref C)
abbrev fN : Str := "number"
abbrev fW : Str := "worths"
abbrev fS : Str := "said"
theorem f_NW : fN ≠ fW := by decide +kernel
theorem f_NS : fN ≠ fS := by decide +kernel
theorem f_WS : fW ≠ fS := by decide +kernel
structure DeskM (C : Addr) (H : Hp) (p aw as_ : Addr) (m : Mach) : Prop where
  ins : ∃ (dx : Addr) (fs : List (Str × V)), H p = some (.ins C dx fs) ∧ fs.length ≤ 100 ∧ fs.lookup fN = some (.int m.desk) ∧ fs.lookup fW = some (.ref aw) ∧ fs.lookup fS = some (.ref as_) ∧ (∀ x, x ≠ fN → x ≠ fW → x ≠ fS → fs.lookup x = none)
  ws : H aw = some (.lst (m.ws.map V.int))
  said : H as_ = some (.lst (m.said.map V.int))
  ne : aw ≠ as_
theorem DeskM.same {C : Addr} {H H' : Hp} {p aw as_ : Addr} {m : Mach} (h : DeskM C H p aw as_ m) (s : Same1 H H') : DeskM C H' p aw as_ m := by
  obtain ⟨⟨dx, fs, h1, h2⟩, h3, h4, h5⟩ := h
  exact ⟨⟨dx, fs, s _ _ h1, h2⟩, s _ _ h3, s _ _ h4, h5⟩
theorem put_len2 : ∀ {fs : List (Str × V)} {f : Str} {v x : V}, fs.lookup f = some x → (putF f v fs).length = fs.length
  | [], f, v, x, h => by cases h
  | (g, y) :: fs, f, v, x, h => by
    unfold putF
    by_cases e : g = f
    · rw [if_pos e]
      rfl
    · rw [if_neg e]
      have h' : fs.lookup f = some x := by
        rw [List.lookup_cons] at h
        rw [show (f == g) = false from beq_eq_false_iff_ne.mpr (fun z => e z.symm)] at h
        exact h
      show (putF f v fs).length + 1 = fs.length + 1
      rw [put_len2 h']
theorem DeskM.put {C : Addr} {H : Hp} {p aw as_ dx : Addr} {m : Mach} {fs : List (Str × V)} {z : Int} (h : DeskM C H p aw as_ m) (e : H p = some (.ins C dx fs)) : DeskM C (upd H p (.ins C dx (putF fN (.int z) fs))) p aw as_ { m with desk := z } := by
  obtain ⟨⟨dx', fs', h1, h2, h3, h4, h5, h9⟩, h6, h7, h8⟩ := h
  rw [e] at h1
  have q := Option.some.inj h1
  injection q with q1 q2 q3
  subst q2 q3
  have nw : aw ≠ p := ne_of h6 e (by intro z; cases z)
  have ns : as_ ≠ p := ne_of h7 e (by intro z; cases z)
  refine ⟨⟨dx, putF fN (.int z) fs, upd_same, by rw [put_len2 h3]; exact h2, ?_, ?_, ?_, fun x a b c => ?_⟩, by rw [upd_ne nw]; exact h6, by rw [upd_ne ns]; exact h7, h8⟩
  · rw [lookup_putF, if_pos rfl]
  · rw [lookup_putF, if_neg f_NW.symm]; exact h4
  · rw [lookup_putF, if_neg f_NS.symm]; exact h5
  · rw [lookup_putF, if_neg a]; exact h9 x a b c
theorem But.free {H H' : Hp} {p a : Addr} {o : HO} (b : But p H H') (e : H' p = some o) (h : H' a = none) : H a = none := by
  cases q : H a with
  | none => rfl
  | some u =>
    by_cases z : a = p
    · subst z; rw [e] at h; cases h
    · rw [b _ _ z q] at h; cases h
theorem putF_le {fs : List (Str × V)} {f : Str} {v : V} : (putF f v fs).length ≤ fs.length + 1 := by
  induction fs with
  | nil => exact Nat.le_refl _
  | cons e fs ih =>
    obtain ⟨g, y⟩ := e
    unfold putF
    split
    · exact Nat.le_succ _
    · exact Nat.succ_le_succ ih
theorem Row.wd3 (r : Row) : r.isWd "load" = (match r with | .load _ _ => true | _ => false) ∧ r.isWd "add" = (match r with | .add _ _ => true | _ => false) ∧ r.isWd "take" = (match r with | .take _ _ => true | _ => false) := by
  cases r with
  | load _ _ => exact (by decide +kernel : decide (V.str "load" = V.str "load") = true ∧ decide (V.str "load" = V.str "add") = false ∧ decide (V.str "load" = V.str "take") = false)
  | add _ _ => exact (by decide +kernel : decide (V.str "add" = V.str "load") = false ∧ decide (V.str "add" = V.str "add") = true ∧ decide (V.str "add" = V.str "take") = false)
  | take _ _ => exact (by decide +kernel : decide (V.str "take" = V.str "load") = false ∧ decide (V.str "take" = V.str "add") = false ∧ decide (V.str "take" = V.str "take") = true)
  | store _ _ => exact (by decide +kernel : decide (V.str "store" = V.str "load") = false ∧ decide (V.str "store" = V.str "add") = false ∧ decide (V.str "store" = V.str "take") = false)
  | say _ => exact (by decide +kernel : decide (V.str "say" = V.str "load") = false ∧ decide (V.str "say" = V.str "add") = false ∧ decide (V.str "say" = V.str "take") = false)
  | test _ _ => exact (by decide +kernel : decide (V.str "test" = V.str "load") = false ∧ decide (V.str "test" = V.str "add") = false ∧ decide (V.str "test" = V.str "take") = false)
  | stop => exact (by decide +kernel : decide (V.str "stop" = V.str "load") = false ∧ decide (V.str "stop" = V.str "add") = false ∧ decide (V.str "stop" = V.str "take") = false)
abbrev sDInit : Stmt := inClass (top 54) 0
abbrev sDStep : Stmt := inClass (top 54) 1
abbrev sDOnward : Stmt := inClass (top 54) 2
abbrev sDUse : Stmt := inClass (top 54) 3
def spDInit (C : Addr) : Sp := fun vs H Q _ => ∃ (p dx : Addr) (v : V), vs = [.ref p, v] ∧ H p = some (.ins C dx []) ∧
  ∀ as_ fs H', (∀ x o, x ≠ p → H x = some o → H' x = some o) → H as_ = none → H' p = some (.ins C dx fs) → fs.length ≤ 100 → fs.lookup fN = some (.int 0) → fs.lookup fW = some v → fs.lookup fS = some (.ref as_) → (∀ x, x ≠ fN → x ≠ fW → x ≠ fS → fs.lookup x = none) → H' as_ = some (.lst []) → Q .non H'
def spDUse (C : Addr) : Sp := fun vs H Q _ => ∃ (p aw as_ : Addr) (m : Mach) (r : Row) (x N : Nat), vs = [.ref p, .str r.word, .int (x : Int)] ∧ DeskM C H p aw as_ m ∧ MOk m ∧ r.uses = true ∧ (rowVs r)[1]? = some (.int (x : Int)) ∧ r.ok m.ws.length N ∧
  ∀ H', But3 p aw as_ H H' → DeskM C H' p aw as_ (stepM m r).1 → Q .non H'
def spDOnward (C : Addr) : Sp := fun vs H Q _ => ∃ (p aw as_ ra : Addr) (m : Mach) (r : Row) (N : Nat), vs = [.ref p, .ref ra] ∧ DeskM C H p aw as_ m ∧ MOk m ∧ m.said.length ≤ 9000 ∧ H ra = some (.tup (rowVs r)) ∧ r.uses = false ∧ r.ok m.ws.length N ∧
  ∀ H', But3 p aw as_ H H' → DeskM C H' p aw as_ (stepM m r).1 → Q (oV (stepM m r).2) H'
def spDStep (C : Addr) : Sp := fun vs H Q _ => ∃ (p aw as_ ra : Addr) (m : Mach) (r : Row) (N : Nat), vs = [.ref p, .ref ra] ∧ DeskM C H p aw as_ m ∧ MOk m ∧ m.said.length ≤ 9000 ∧ H ra = some (.tup (rowVs r)) ∧ r.ok m.ws.length N ∧
  ∀ H', But3 p aw as_ H H' → DeskM C H' p aw as_ (stepM m r).1 → Q (oV (stepM m r).2) H'
section
variable {P : Program} {w : World} {K : PySem.W.Frag} {mg : Str → Option Value} {base : Heap} {C0 : Addr}
theorem scDInit : FnScope ["self", "worths"] ["self", "worths"] (defScope sDInit) := ⟨rfl, rfl, rfl, by decide +kernel, rfl, by decide +kernel, by decide +kernel⟩
theorem ok_dinit {f : Addr} {fd : FuncData} (F : Fun K "__init__" "Desk.__init__" sDInit f fd) (T : Bt mg) (TC : Dk K mg C0) : FnOk P w K mg base CX0 1 f fd ["self", "worths"] (spDInit C0) := by
  refine F.ok scDInit (fun vs H Q E h => ?_) (fun cdv A outer s H vs Q E hr h => ?_)
  · obtain ⟨p, dx, v, rfl, _⟩ := h
    rfl
  · obtain ⟨p, dx, v, rfl, hp, k⟩ := h
    refine ⟨_, (pss_cons (ps_fld (pv 0) pe_int rfl)
      (pss_cons (ps_fld (pv 0) (pv 1) rfl)
      (pss_one (ps_fld (pv 0) (pe_lst pa_nil) rfl)))), ?_⟩
    refine ⟨_, rfl, p, C0, dx, _, rfl, hp, TC.cl, TC.nN, (by show 0 < 1000; decide), ?_⟩
    refine change fun H1 b1 e1 => ?_
    refine ⟨_, rfl, _, rfl, p, C0, dx, _, rfl, e1, TC.cl, TC.nW, (by show 1 < 1000; decide), ?_⟩
    refine change fun H3 b3 e3 => ?_
    refine ⟨Nat.zero_le _, fun as_ has => ?_⟩
    refine alloc has fun H4 s4 e4 => ?_
    have h4 := s4 _ _ e3
    have nas : as_ ≠ p := ne_of e4 h4 (by intro z; cases z)
    refine ⟨_, rfl, p, C0, dx, _, rfl, h4, TC.cl, TC.nS, (by show 2 < 1000; decide), ?_⟩
    refine k as_ _ _ (fun x o n e => ?_) ?_ upd_same ?_ ?_ ?_ ?_ (fun x a b c => ?_) (by rw [upd_ne nas]; exact e4)
    · rw [upd_ne n]
      exact s4 _ _ (b3 _ _ n (b1 _ _ n e))
    · exact (b1.trans b3).free e3 has
    · have h1 := putF_le (fs := putF fW v (putF fN (.int 0) [])) (f := fS) (v := .ref as_)
      have h2 := putF_le (fs := putF fN (.int 0) []) (f := fW) (v := v)
      have h3 := putF_le (fs := []) (f := fN) (v := .int 0)
      have h4 : ([] : List (Str × V)).length = 0 := rfl
      exact Nat.le_trans h1 (by omega)
    · rw [lookup_putF, if_neg f_NS, lookup_putF, if_neg f_NW, lookup_putF, if_pos rfl]
    · rw [lookup_putF, if_neg f_WS, lookup_putF, if_pos rfl]
    · rw [lookup_putF, if_pos rfl]
    · rw [lookup_putF, if_neg c, lookup_putF, if_neg b, lookup_putF, if_neg a]
      rfl
end
end DL
namespace DL
open PySem L2 DLR
theorem DeskM.get {C : Addr} {H : Hp} {p aw as_ : Addr} {m : Mach} (h : DeskM C H p aw as_ m) : ∃ (dx : Addr) (fs : List (Str × V)), H p = some (.ins C dx fs) ∧ fs.length ≤ 100 ∧ fs.lookup fN = some (.int m.desk) ∧ fs.lookup fW = some (.ref aw) ∧ fs.lookup fS = some (.ref as_) ∧ (∀ x, x ≠ fN → x ≠ fW → x ≠ fS → fs.lookup x = none) := h.ins
theorem Row.use_at {r : Row} (h : r.uses = true) {x W N : Nat} (e : (rowVs r)[1]? = some (.int (x : Int))) (ho : r.ok W N) : x < W ∧ ∃ n : Nat, n < N ∧ (rowVs r)[2]? = some (.int (n : Int)) ∧ (r = .load x n ∨ r = .add x n ∨ r = .take x n ∨ r = .store x n) := by
  cases r with
  | load w n => have q : w = x := Int.ofNat.inj (V.int.inj (Option.some.inj e)); subst q; exact ⟨ho.1, n, ho.2, rfl, .inl rfl⟩
  | add w n => have q : w = x := Int.ofNat.inj (V.int.inj (Option.some.inj e)); subst q; exact ⟨ho.1, n, ho.2, rfl, .inr (.inl rfl)⟩
  | take w n => have q : w = x := Int.ofNat.inj (V.int.inj (Option.some.inj e)); subst q; exact ⟨ho.1, n, ho.2, rfl, .inr (.inr (.inl rfl))⟩
  | store w n => have q : w = x := Int.ofNat.inj (V.int.inj (Option.some.inj e)); subst q; exact ⟨ho.1, n, ho.2, rfl, .inr (.inr (.inr rfl))⟩
  | say n => cases h
  | test a b => cases h
  | stop => cases h
section
variable {P : Program} {w : World} {K : PySem.W.Frag} {mg : Str → Option Value} {base : Heap} {C0 : Addr}
theorem scDUse : FnScope ["self", "word", "worth"] ["self", "word", "worth"] (defScope sDUse) := ⟨rfl, rfl, rfl, by decide +kernel, rfl, by decide +kernel, by decide +kernel⟩
theorem ok_duse {f : Addr} {fd : FuncData} (F : Fun K "use" "Desk.use" sDUse f fd) (cOnDesk : FOnDesk K mg) (T : Bt mg) (CD : Cd mg) (TC : Dk K mg C0) : FnOk P w K mg base CX0 2 f fd ["self", "word", "worth"] (spDUse C0) := by
  have GOnDesk : FnOk P w K mg base CX0 1 cOnDesk.f cOnDesk.fd ["number"] spRing := ok_onDesk cOnDesk CD
  refine F.ok scDUse (fun vs H Q E h => ?_) (fun cdv A outer s H vs Q E hr h => ?_)
  · obtain ⟨p, aw, as_, m, r, x, N, rfl, _⟩ := h
    rfl
  · obtain ⟨p, aw, as_, m, r, x, N, rfl, hM, hO, hu, hx, ho, k⟩ := h
    refine ⟨_, (pss_one (ps_if (pt_cmpR op_eq (pv 1) pe_str (nomark _))
          (pss_one (ps_fld (pv 0) (pe_ix ix_list (pe_fld (pv 0) rfl) (pv 2) (fun _ _ => rfl)) rfl))
          (pss_one (ps_if (pt_cmpR op_eq (pv 1) pe_str (nomark _))
              (pss_one (ps_fld (pv 0) (pe_call GOnDesk (hr.mono (by first | omega | decide)) (by rfl) cOnDesk.m cOnDesk.F.kp cOnDesk.b .nil pass0 (pa_cons (pe_op op_add (pe_fld (pv 0) rfl) (pe_ix ix_list (pe_fld (pv 0) rfl) (pv 2) (fun _ _ => rfl))) pa_nil)) rfl))
              (pss_one (ps_if (pt_cmpR op_eq (pv 1) pe_str (nomark _))
                  (pss_one (ps_fld (pv 0) (pe_call GOnDesk (hr.mono (by first | omega | decide)) (by rfl) cOnDesk.m cOnDesk.F.kp cOnDesk.b .nil pass0 (pa_cons (pe_op op_sub (pe_fld (pv 0) rfl) (pe_ix ix_list (pe_fld (pv 0) rfl) (pv 2) (fun _ _ => rfl))) pa_nil)) rfl))
                  (pss_one (ps_asg (pe_fld (pv 0) rfl) (pg_sub (pe_fld (pv 0) rfl) (pv 2) set_list))))))))), ?_⟩
    obtain ⟨hxw, n, hn, hn2, hcase⟩ := Row.use_at hu hx ho
    obtain ⟨dx, fs, h1, h2, h3, h4, h5, h9⟩ := hM.get
    have hat := (at_in hO hxw).1
    have hatV : (m.ws.map V.int)[x]? = some (.int (m.at x)) := by rw [List.getElem?_map, hat]; rfl
    obtain ⟨w1, w2, w3⟩ := Row.wd3 r
    refine ⟨_, rfl, rfl, r.isWd "load", rfl, ?_⟩
    rcases hcase with rfl | rfl | rfl | rfl
    · rw [w1]
      refine iteT ⟨_, rfl, p, _, _, _, _, rfl, h1, TC.cl, TC.nW, h4, _, rfl, aw, _, _, _, rfl, rfl, SqL.of hM.ws, atI_nat hatV, _, rfl, p, _, _, _, rfl, h1, TC.cl, TC.nN, Nat.lt_of_le_of_lt h2 (by decide), ?_⟩
      exact k _ But3.upd1 (hM.put h1)
    · rw [w1]
      refine iteF ⟨_, rfl, rfl, Row.isWd "add" (.add x n), rfl, ?_⟩
      rw [w2]
      refine iteT ⟨_, rfl, p, _, _, _, _, rfl, h1, TC.cl, TC.nN, h3, _, rfl, p, _, _, _, _, rfl, h1, TC.cl, TC.nW, h4, _, rfl, aw, _, _, _, rfl, rfl, SqL.of hM.ws, atI_nat hatV, _, _, rfl, rfl, _, rfl, _, rfl, p, _, _, _, rfl, h1, TC.cl, TC.nN, Nat.lt_of_le_of_lt h2 (by decide), ?_⟩
      exact k _ But3.upd1 (hM.put h1)
    · rw [w1]
      refine iteF ⟨_, rfl, rfl, Row.isWd "add" (.take x n), rfl, ?_⟩
      rw [w2]
      refine iteF ⟨_, rfl, rfl, Row.isWd "take" (.take x n), rfl, ?_⟩
      rw [w3]
      refine iteT ⟨_, rfl, p, _, _, _, _, rfl, h1, TC.cl, TC.nN, h3, _, rfl, p, _, _, _, _, rfl, h1, TC.cl, TC.nW, h4, _, rfl, aw, _, _, _, rfl, rfl, SqL.of hM.ws, atI_nat hatV, _, _, rfl, rfl, _, rfl, _, rfl, p, _, _, _, rfl, h1, TC.cl, TC.nN, Nat.lt_of_le_of_lt h2 (by decide), ?_⟩
      exact k _ But3.upd1 (hM.put h1)
    · rw [w1]
      refine iteF ⟨_, rfl, rfl, Row.isWd "add" (.store x n), rfl, ?_⟩
      rw [w2]
      refine iteF ⟨_, rfl, rfl, Row.isWd "take" (.store x n), rfl, ?_⟩
      rw [w3]
      refine iteF ⟨_, rfl, p, _, _, _, _, rfl, h1, TC.cl, TC.nN, h3, _, rfl, p, _, _, _, _, rfl, h1, TC.cl, TC.nW, h4, _, rfl, aw, _, _, x, rfl, rfl, hM.ws, ixN_nat (by rw [List.length_map]; exact hxw), ?_⟩
      refine k _ But3.upd2 ⟨⟨dx, fs, by rw [upd_ne (ne_of h1 hM.ws (by intro z; cases z))]; exact h1, h2, h3, h4, h5, h9⟩, ?_, by rw [upd_ne hM.ne.symm]; exact hM.said, hM.ne⟩
      rw [upd_same]
      show _ = some (HO.lst ((m.ws.set x m.desk).map V.int))
      rw [List.map_set]
theorem scDOnward : FnScope ["self", "row"] ["self", "row"] (defScope sDOnward) := ⟨rfl, rfl, rfl, by decide +kernel, rfl, by decide +kernel, by decide +kernel⟩
theorem ok_donward {f : Addr} {fd : FuncData} (F : Fun K "onward" "Desk.onward" sDOnward f fd) (T : Bt mg) (TC : Dk K mg C0) : FnOk P w K mg base CX0 1 f fd ["self", "row"] (spDOnward C0) := by
  refine F.ok scDOnward (fun vs H Q E h => ?_) (fun cdv A outer s H vs Q E hr h => ?_)
  · obtain ⟨p, aw, as_, ra, m, r, N, rfl, _⟩ := h
    rfl
  · obtain ⟨p, aw, as_, ra, m, r, N, rfl, hM, hO, hS, hra, hu, ho, k⟩ := h
    refine ⟨_, (pss_cons (ps_if (pt_cmpR op_eq (pe_ix ix_tup (pv 1) pe_int (fun _ _ => rfl)) pe_str (nomark _))
          (pss_one (ps_ret pe_non))
          pss_nil)
      (pss_cons (ps_if (pt_cmpR op_eq (pe_ix ix_tup (pv 1) pe_int (fun _ _ => rfl)) pe_str (nomark _))
          (pss_one (ps_ret (pe_ifExp (pt_cmpR op_eq (pe_fld (pv 0) rfl) pe_int (nomark _)) (pe_ix ix_tup (pv 1) pe_int (fun _ _ => rfl)) (pe_ix ix_tup (pv 1) pe_int (fun _ _ => rfl)))))
          pss_nil)
      (pss_cons (ps_expr (pe_bm PySem.F.plainAttrs_list PySem.F.slot_list_append PySem.F.type_list_append mt_append (pe_fld (pv 0) rfl) (pa_cons (pe_fld (pv 0) rfl) pa_nil)))
      (pss_one (ps_ret (pe_ix ix_tup (pv 1) pe_int (fun _ _ => rfl))))))), ?_⟩
    obtain ⟨dx, fs, h1, h2, h3, h4, h5, h9⟩ := hM.get
    obtain ⟨w1, w2, w3, w4⟩ := Row.wd_eq r
    refine ⟨_, rfl, ra, _, _, _, rfl, rfl, SqT.of hra, atI_nat (j := 0) (Row.w0 r), rfl, r.isWd "stop", rfl, ?_⟩
    cases r with
    | load w n => cases hu
    | add w n => cases hu
    | take w n => cases hu
    | store w n => cases hu
    | say n =>
      rw [w4]
      refine iteF ⟨_, rfl, ra, _, _, _, rfl, rfl, SqT.of hra, atI_nat (j := 0) (Row.w0 (.say n)), rfl, Row.isWd "test" (.say n), rfl, ?_⟩
      rw [w1]
      refine iteF ⟨_, rfl, p, _, _, _, _, rfl, h1, TC.cl, TC.nS, h5, .inl ⟨rfl, _, SqL.of hM.said⟩, _, rfl, p, _, _, _, _, rfl, h1, TC.cl, TC.nN, h3, as_, _, _, rfl, rfl, hM.said, szl (by rw [List.length_map]; omega), ?_⟩
      have hra2 : (upd H as_ (.lst (m.said.map V.int ++ [.int m.desk]))) ra = some (.tup (rowVs (.say n))) := by
        rw [upd_ne (ne_of hra hM.said (by intro z; cases z))]; exact hra
      refine ⟨_, rfl, ra, _, _, _, rfl, rfl, SqT.of hra2, at1, k _ But3.upd3 ⟨⟨dx, fs, by rw [upd_ne (ne_of h1 hM.said (by intro z; cases z))]; exact h1, h2, h3, h4, h5, h9⟩, by rw [upd_ne hM.ne]; exact hM.ws, ?_, hM.ne⟩⟩
      rw [upd_same]
      show _ = some (HO.lst ((m.said ++ [m.desk]).map V.int))
      rw [List.map_append]
      rfl
    | test a b =>
      rw [w4]
      refine iteF ⟨_, rfl, ra, _, _, _, rfl, rfl, SqT.of hra, atI_nat (j := 0) (Row.w0 (.test a b)), rfl, Row.isWd "test" (.test a b), rfl, ?_⟩
      rw [w1]
      refine iteT ⟨_, rfl, p, _, _, _, _, rfl, h1, TC.cl, TC.nN, h3, rfl, _, rfl, ?_⟩
      by_cases c : m.desk = 0
      · rw [decide_eq_true (show V.int m.desk = V.int 0 by rw [c])]
        refine iteT ⟨_, rfl, ra, _, _, _, rfl, rfl, SqT.of hra, at1, ?_⟩
        have q := k _ (But3.of (Same.refl _)) hM
        show Q (V.int (a : Int)) H
        have e : (stepM m (.test a b)).2 = some a := by show some (if m.desk = 0 then a else b) = _; rw [if_pos c]
        rw [e] at q
        exact q
      · rw [decide_eq_false (show ¬ V.int m.desk = V.int 0 from fun z => c (V.int.inj z))]
        refine iteF ⟨_, rfl, ra, _, _, _, rfl, rfl, SqT.of hra, at2, ?_⟩
        have q := k _ (But3.of (Same.refl _)) hM
        show Q (V.int (b : Int)) H
        have e : (stepM m (.test a b)).2 = some b := by show some (if m.desk = 0 then a else b) = _; rw [if_neg c]
        rw [e] at q
        exact q
    | stop =>
      rw [w4]
      exact iteT (k _ (But3.of (Same.refl _)) hM)
theorem scDStep : FnScope ["self", "row"] ["self", "row"] (defScope sDStep) := ⟨rfl, rfl, rfl, by decide +kernel, rfl, by decide +kernel, by decide +kernel⟩
theorem ok_dstep {f : Addr} {fd : FuncData} {fu : Addr} {fdu : FuncData} {fo : Addr} {fdo : FuncData} (F : Fun K "step" "Desk.step" sDStep f fd) (FU : Fun K "use" "Desk.use" sDUse fu fdu) (mUse : Meth K C0 "use" fu) (bUse : Binds K fdu ["self", "word", "worth"] [])
    (FO : Fun K "onward" "Desk.onward" sDOnward fo fdo) (mOnward : Meth K C0 "onward" fo) (bOnward : Binds K fdo ["self", "row"] []) (cOnDesk : FOnDesk K mg) (cUsesWorth : FUsesWorth K mg) (T : Bt mg) (CD : Cd mg) (Z : Pt K w mg) (TC : Dk K mg C0) : FnOk P w K mg base CX0 3 f fd ["self", "row"] (spDStep C0) := by
  have GUse : FnOk P w K mg base CX0 2 fu fdu ["self", "word", "worth"] (spDUse C0) := ok_duse FU cOnDesk T CD TC
  have GOnward : FnOk P w K mg base CX0 1 fo fdo ["self", "row"] (spDOnward C0) := ok_donward FO T TC
  have GUsesWorth : FnOk P w K mg base CX0 1 cUsesWorth.f cUsesWorth.fd ["row"] spUses := ok_usesWorth cUsesWorth Z
  refine F.ok scDStep (fun vs H Q E h => ?_) (fun cdv A outer s H vs Q E hr h => ?_)
  · obtain ⟨p, aw, as_, ra, m, r, N, rfl, _⟩ := h
    rfl
  · obtain ⟨p, aw, as_, ra, m, r, N, rfl, hM, hO, hS, hra, ho, k⟩ := h
    refine ⟨_, (pss_cons (ps_if (pt_val (pe_call GUsesWorth (hr.mono (by first | omega | decide)) (by rfl) cUsesWorth.m cUsesWorth.F.kp cUsesWorth.b .nil pass0 (pa_cons (pv 1) pa_nil)))
          (pss_cons (ps_expr (pe_meth (pv 0) TC.cl mUse GUse (hr.mono (by first | omega | decide)) bUse .nil pass0 (pa_cons (pe_ix ix_tup (pv 1) pe_int (fun _ _ => rfl)) (pa_cons (pe_ix ix_tup (pv 1) pe_int (fun _ _ => rfl)) pa_nil))))
          (pss_one (ps_ret (pe_ix ix_tup (pv 1) pe_int (fun _ _ => rfl)))))
          pss_nil)
      (pss_one (ps_ret (pe_meth (pv 0) TC.cl mOnward GOnward (hr.mono (by first | omega | decide)) bOnward .nil pass0 (pa_cons (pv 1) pa_nil))))), ?_⟩
    obtain ⟨dx, fs, h1, h2, h3, h4, h5, h9⟩ := hM.get
    refine ⟨_, rfl, ra, r, rfl, hra, _, rfl, ?_⟩
    cases hu : r.uses with
    | true =>
      have h01 : ∃ x : Nat, (rowVs r)[1]? = some (.int (x : Int)) := by
        cases r <;> first | exact ⟨_, rfl⟩ | cases hu
      obtain ⟨x, hx⟩ := h01
      obtain ⟨hxw, n, hn, hn2, hcase⟩ := Row.use_at hu hx ho
      refine iteT ⟨_, rfl, p, dx, fs, rfl, h1, h9 _ (by decide +kernel) (by decide +kernel) (by decide +kernel), _, rfl, ra, _, _, _, rfl, rfl, SqT.of hra, atI_nat (j := 0) (Row.w0 r), _, rfl, ra, _, _, _, rfl, rfl, SqT.of hra, atI_nat (j := 1) hx, p, aw, as_, m, r, x, N, rfl, hM, hO, hu, hx, ho, fun H' b' m' => ?_⟩
      have hnp : ra ≠ p := ne_of hra h1 (by intro z; cases z)
      have hnw : ra ≠ aw := ne_of hra hM.ws (by intro z; cases z)
      have hns : ra ≠ as_ := ne_of hra hM.said (by intro z; cases z)
      refine ⟨_, rfl, ra, _, _, _, rfl, rfl, SqT.of (b' _ _ hnp hnw hns hra), atI_nat (j := 2) hn2, ?_⟩
      have q := k H' b' m'
      rcases hcase with rfl | rfl | rfl | rfl <;> exact q
    | false =>
      exact iteF ⟨_, rfl, p, dx, fs, rfl, h1, h9 _ (by decide +kernel) (by decide +kernel) (by decide +kernel), _, rfl, p, aw, as_, ra, m, r, N, rfl, hM, hO, hS, hra, hu, ho, k⟩
end
structure DkM (K : Frg) (mg : Str → Option Value) where
  C : Addr
  d : Dk K mg C
  fi : Addr
  fdi : FuncData
  FI : Fun K "__init__" "Desk.__init__" sDInit fi fdi
  bI : Binds K fdi ["self", "worths"] []
  mkd : Mk K C fi
  fs : Addr
  fds : FuncData
  FS : Fun K "step" "Desk.step" sDStep fs fds
  bS : Binds K fds ["self", "row"] []
  mS : Meth K C "step" fs
  fu : Addr
  fdu : FuncData
  FU : Fun K "use" "Desk.use" sDUse fu fdu
  bU : Binds K fdu ["self", "word", "worth"] []
  mU : Meth K C "use" fu
  fo : Addr
  fdo : FuncData
  FO : Fun K "onward" "Desk.onward" sDOnward fo fdo
  bO : Binds K fdo ["self", "row"] []
  mO : Meth K C "onward" fo
end DL
namespace DL
open PySem L2 DLR
abbrev sPRun : Stmt := top 57
abbrev pPRun : List Str := ["program", "fuel"]
abbrev FPRun (K : Frg) (mg : Str → Option Value) := Fd K mg "run" sPRun pPRun
abbrev nPRun : List Str := ["program", "fuel", "worths", "rows", "desk", "done", "gone", "end", "row", "_", "to", "goes", "begin"]
structure DRunAt (C : Addr) (p : Prog) (H0 H : Hp) (ad aw as_ ld lg : Addr) (s : RS) : Prop where
  same : Same1 H0 H
  mach : DeskM C H ad aw as_ s.m
  cnt : H ld = some (.lst (s.cnt.map V.int))
  goes : H lg = some (.dT (kmap s.goes))
  fa : H0 ad = none
  fw : H0 aw = none
  fs : H0 as_ = none
  fd : H0 ld = none
  fg : H0 lg = none
  n1 : as_ ≠ ld
  n2 : aw ≠ ld
theorem DRunAt.alloc {C : Addr} {p : Prog} {H0 H H' : Hp} {ad aw as_ ld lg : Addr} {s : RS} (h : DRunAt C p H0 H ad aw as_ ld lg s) (t : Same1 H H') : DRunAt C p H0 H' ad aw as_ ld lg s :=
  ⟨h.same.trans t, h.mach.same t, t _ _ h.cnt, t _ _ h.goes, h.fa, h.fw, h.fs, h.fd, h.fg, h.n1, h.n2⟩
theorem DRunAt.nad {C : Addr} {p : Prog} {H0 H : Hp} {ad aw as_ ld lg : Addr} {s : RS} (h : DRunAt C p H0 H ad aw as_ ld lg s) : ad ≠ ld ∧ aw ≠ lg ∧ as_ ≠ lg ∧ ld ≠ lg ∧ ad ≠ lg := by
  obtain ⟨dx, fs, h1, _⟩ := h.mach.ins
  exact ⟨ne_of h1 h.cnt (by intro z; cases z), ne_of h.mach.ws h.goes (by intro z; cases z), ne_of h.mach.said h.goes (by intro z; cases z), ne_of h.cnt h.goes (by intro z; cases z), ne_of h1 h.goes (by intro z; cases z)⟩
theorem DRunAt.setCnt {C : Addr} {p : Prog} {H0 H : Hp} {ad aw as_ ld lg : Addr} {s : RS} {l : List Int} (h : DRunAt C p H0 H ad aw as_ ld lg s) : DRunAt C p H0 (upd H ld (.lst (l.map V.int))) ad aw as_ ld lg { s with cnt := l } := by
  obtain ⟨q1, q2, q3, q4, q5⟩ := h.nad
  obtain ⟨dx, fs, h1, h2⟩ := h.mach.ins
  exact ⟨Same.mut h.same h.fd, ⟨⟨dx, fs, by rw [upd_ne q1]; exact h1, h2⟩, by rw [upd_ne h.n2]; exact h.mach.ws, by rw [upd_ne h.n1]; exact h.mach.said, h.mach.ne⟩, upd_same, by rw [upd_ne q4.symm]; exact h.goes, h.fa, h.fw, h.fs, h.fd, h.fg, h.n1, h.n2⟩
theorem DRunAt.setGoes {C : Addr} {p : Prog} {H0 H : Hp} {ad aw as_ ld lg : Addr} {s : RS} {g : GL} (h : DRunAt C p H0 H ad aw as_ ld lg s) : DRunAt C p H0 (upd H lg (.dT (kmap g))) ad aw as_ ld lg { s with goes := g } := by
  obtain ⟨q1, q2, q3, q4, q5⟩ := h.nad
  obtain ⟨dx, fs, h1, h2⟩ := h.mach.ins
  exact ⟨Same.mut h.same h.fg, ⟨⟨dx, fs, by rw [upd_ne q5]; exact h1, h2⟩, by rw [upd_ne q2]; exact h.mach.ws, by rw [upd_ne q3]; exact h.mach.said, h.mach.ne⟩, by rw [upd_ne q4]; exact h.cnt, upd_same, h.fa, h.fw, h.fs, h.fd, h.fg, h.n1, h.n2⟩
theorem DRunAt.setM {C : Addr} {p : Prog} {H0 H H' : Hp} {ad aw as_ ld lg : Addr} {s : RS} {m : Mach} (h : DRunAt C p H0 H ad aw as_ ld lg s) (b : But3 ad aw as_ H H') (hm : DeskM C H' ad aw as_ m) : DRunAt C p H0 H' ad aw as_ ld lg { s with m := m } := by
  obtain ⟨q1, q2, q3, q4, q5⟩ := h.nad
  exact ⟨same_but3 h.same b h.fa h.fw h.fs, hm, b _ _ q1.symm h.n2.symm h.n1.symm h.cnt, b _ _ q5.symm q2.symm q3.symm h.goes, h.fa, h.fw, h.fs, h.fd, h.fg, h.n1, h.n2⟩
theorem DRunAt.cast {C : Addr} {p : Prog} {H0 H : Hp} {ad aw as_ ld lg : Addr} {s t : RS} (h : DRunAt C p H0 H ad aw as_ ld lg s) (e1 : t.m = s.m) (e2 : t.cnt = s.cnt) (e3 : t.goes = s.goes) : DRunAt C p H0 H ad aw as_ ld lg t := by
  refine ⟨h.same, ?_, ?_, ?_, h.fa, h.fw, h.fs, h.fd, h.fg, h.n1, h.n2⟩
  · rw [e1]; exact h.mach
  · rw [e2]; exact h.cnt
  · rw [e3]; exact h.goes
theorem DRunAt.other {C : Addr} {p : Prog} {H0 H H' : Hp} {ad aw as_ ld lg D : Addr} {s : RS} (h : DRunAt C p H0 H ad aw as_ ld lg s) (b : But D H H') (n : H0 D = none) (n1 : ad ≠ D) (n2 : aw ≠ D) (n3 : as_ ≠ D) (n4 : ld ≠ D) (n5 : lg ≠ D) : DRunAt C p H0 H' ad aw as_ ld lg s := by
  obtain ⟨dx, fs, h1, h2⟩ := h.mach.ins
  exact ⟨fun x o e => b x o (ne_of_none e n) (h.same x o e), ⟨⟨dx, fs, b _ _ n1 h1, h2⟩, b _ _ n2 h.mach.ws, b _ _ n3 h.mach.said, h.mach.ne⟩, b _ _ n4 h.cnt, b _ _ n5 h.goes, h.fa, h.fw, h.fs, h.fd, h.fg, h.n1, h.n2⟩
theorem runS_go {p : Prog} {j r : Nat} (hh : (runS p j).here = some r) : runS p (j + 1) = ⟨(stepM (runS p j).m (p.rows.getD r .stop)).1, (runS p j).cnt.set r ((runS p j).cnt.getD r 0 + 1), goesOf (runS p j).goes r (stepM (runS p j).m (p.rows.getD r .stop)).2, (stepM (runS p j).m (p.rows.getD r .stop)).2⟩ := by
  show turnS p.rows (runS p j) = _
  unfold turnS
  rw [hh]
theorem runS_end {p : Prog} {j fuel : Nat} (h : (runS p j).here = none) (le : j ≤ fuel) : runS p fuel = runS p j := by
  have q := runS_none h (fuel - j)
  rw [show j + (fuel - j) = fuel by omega] at q
  exact q
section
variable {P : Program} {w : World} {K : PySem.W.Frag} {mg : Str → Option Value} {base : Heap}
theorem scPRun : FnScope nPRun pPRun (defScope sPRun) := ⟨rfl, rfl, rfl, by decide +kernel, rfl, by decide +kernel, by decide +kernel⟩
theorem ok_prun (cRun : FPRun K mg) (cCheckProgram : FCheckProgram K mg) (cCheckFuel : FCheckFuel K mg) (cCheckRow : FCheckRow K mg) (cCheckWorths : FCheckWorths K mg) (cHasShape : FHasShape K mg) (cPart : FPart K mg) (cIsBetween : FIsBetween K mg) (cIsNumber : FIsNumber K mg) (cOnDesk : FOnDesk K mg) (cUsesWorth : FUsesWorth K mg) (DM : DkM K mg) (T : Bt mg) (C : Cn mg) (CF : Cf mg) (CD : Cd mg) (Z : Pt K w mg) : FnOk P w K mg base CX0 5 cRun.f cRun.fd pPRun spRun := by
  have GCheckProgram : FnOk P w K mg base CX0 4 cCheckProgram.f cCheckProgram.fd ["program"] spCheckProgram := ok_checkProgram cCheckProgram cCheckRow cCheckWorths cHasShape cPart cIsBetween cIsNumber T C Z
  have GCheckFuel : FnOk P w K mg base CX0 3 cCheckFuel.f cCheckFuel.fd ["fuel"] spCheckFuel := ok_checkFuel cCheckFuel cIsBetween cIsNumber T CF
  have TC := DM.d
  have mStep := DM.mS
  have bStep := DM.bS
  have bI := DM.bI
  have MK := DM.mkd
  have GI : FnOk P w K mg base CX0 1 DM.fi DM.fdi ["self", "worths"] (spDInit DM.C) := ok_dinit DM.FI T DM.d
  have GStep : FnOk P w K mg base CX0 3 DM.fs DM.fds ["self", "row"] (spDStep DM.C) := ok_dstep DM.FS DM.FU DM.mU DM.bU DM.FO DM.mO DM.bO cOnDesk cUsesWorth T CD Z DM.d
  refine cRun.F.ok scPRun (fun vs H Q E h => ?_) (fun cdv A outer s H vs Q E hr h => ?_)
  · obtain ⟨pa, p, fuel, rfl, _⟩ := h
    rfl
  · obtain ⟨pa, p, fuel, rfl, hPA, g, hfu, k⟩ := h
    refine ⟨_, (pss_cons (ps_expr (pe_call GCheckProgram (hr.mono (by first | omega | decide)) (by rfl) cCheckProgram.m cCheckProgram.F.kp cCheckProgram.b .nil pass0 (pa_cons (pv 0) pa_nil)))
      (pss_cons (ps_expr (pe_call GCheckFuel (hr.mono (by first | omega | decide)) (by rfl) cCheckFuel.m cCheckFuel.F.kp cCheckFuel.b .nil pass0 (pa_cons (pv 1) pa_nil)))
      (pss_cons (ps_asg (pv 0) (pg_tup rfl (pgs_cons (pg_name (i := 2) scPRun.nd rfl (Or.inl rfl)) (pgs_cons (pg_name (i := 3) scPRun.nd rfl (Or.inl rfl)) pgs_nil))))
      (pss_cons (ps_set (i := 4) scPRun.nd rfl (Or.inl rfl) (pe_make MK GI (hr.mono (by first | omega | decide)) (by rfl) TC.m bI .nil pass0 (pa_cons (pe_callTy call_list_of (by rfl) T.list (by decide +kernel) (pa_cons (pv 2) pa_nil)) pa_nil)))
      (pss_cons (ps_set (i := 5) scPRun.nd rfl (Or.inl rfl) (pe_op op_rep (pe_lst (pa_cons pe_int pa_nil)) (pe_callB call_len_seq (by rfl) T.len PySem.boot_len (pa_cons (pv 3) pa_nil))))
      (pss_cons (ps_set (i := 6) scPRun.nd rfl (Or.inr rfl) pe_dnewT)
      (pss_cons (ps_set (i := 7) scPRun.nd rfl (Or.inl rfl) (pe_tup (pa_cons pe_str pa_nil)))
      (pss_cons (ps_set (i := 8) scPRun.nd rfl (Or.inl rfl) pe_int)
      (pss_cons (ps_for PassesOwn.never rfl (pi_range1 rfl T.range (pa_cons (pv 1) pa_nil)) (pg_name (i := 9) scPRun.nd rfl (Or.inl rfl))
          (pss_cons (ps_augS (pv 5) (pv 8) get_list pe_int ip_add set_list)
          (pss_cons (ps_set (i := 10) scPRun.nd rfl (Or.inl rfl) (pe_meth (pv 4) TC.cl mStep GStep (hr.mono (by first | omega | decide)) bStep .nil pass0 (pa_cons (pe_ix ix_tup (pv 3) (pv 8) (fun _ _ => rfl)) pa_nil)))
          (pss_cons (ps_if (pt_cmpR op_isN (pv 10) pe_non (nomark _))
              (pss_cons (ps_set (i := 7) scPRun.nd rfl (Or.inl rfl) (pe_tup (pa_cons pe_str pa_nil)))
              (pss_one ps_break))
              pss_nil)
          (pss_cons (ps_dput (hu_of hr) (pv 6) (pe_tup (pa_cons (pv 8) (pa_cons (pv 10) pa_nil))) (pe_op op_add (pe_dget2 (hu_of hr) (pv 6) (pe_tup (pa_cons (pv 8) (pa_cons (pv 10) pa_nil))) pe_int ⟨rfl, rfl, rfl, rfl⟩) pe_int) rfl)
          (pss_one (ps_set (i := 8) scPRun.nd rfl (Or.inl rfl) (pv 10))))))))
      (pss_cons (ps_setLc (i := 11) (own := [("begin", 12), ("to", 10)]) (g := gTup K 2 (gCons (gName 12) (gCons (gName 10) gNil))) (tt := tYes) rfl scPRun.nd rfl rfl (sw_true rfl rfl rfl (by decide +kernel)) (pi_list (pe_callB (cr_sortedDT rfl) (by rfl) T.sorted (by decide +kernel) (pa_cons (pv 6) pa_nil))) (blkOk_by (N := nPRun) (sc := defScope sPRun) (by decide +kernel)) (fun _ _ _ _ _ => (pg_tupK K rfl rfl (pgs_cons (pg_name (i := 12) scPRun.nd rfl (Or.inl rfl)) (pgs_cons (pg_name (i := 10) scPRun.nd rfl (Or.inl rfl)) pgs_nil)))) (fun _ _ _ _ _ => pts_nil) (fun _ _ _ _ _ => (pe_tup (pa_cons (pv 12) (pa_cons (pv 10) (pa_cons (pe_dget (hu_of hr) (pv 6) (pe_tup (pa_cons (pv 12) (pa_cons (pv 10) pa_nil))) (fun _ _ => rfl)) pa_nil))))))
      (pss_one (ps_ret (pe_tup (pa_cons (pe_fld (pv 4) rfl) (pa_cons (pv 7) (pa_cons (pv 5) (pa_cons (pv 11) pa_nil))))))))))))))))), ?_⟩
    have hR40 := g.r40
    have hW8 := g.w8
    have hR1 := g.r1
    refine ⟨_, rfl, pa, p, rfl, hPA, g, fun H1 s1 => ?_⟩
    refine ⟨_, rfl, (fuel : Int), rfl, by omega, by omega, ?_⟩
    obtain ⟨wa, ra, bs, hpa, hwa, hra, hR⟩ := hPA
    have hbr := Paired.length hR
    refine ⟨_, rfl, pa, _, rfl, SqT.of (s1 _ _ hpa), rfl, _, _, rfl, _, _, rfl, rfl, ?_⟩
    refine ⟨_, rfl, wa, _, rfl, .inr (SqT.of (s1 _ _ hwa)), fun aw haw1 => ?_⟩
    refine alloc haw1 fun H1a s1a e1a => ?_
    refine fun ad dx had hdx hne => ?_
    refine ⟨ad, dx, _, rfl, upd_same, fun as_ fs0 H2 b2 has i1 i2 i3 i4 i5 i6 i7 => ⟨rfl, ?_⟩⟩
    have has1 : H1a as_ = none := upd_none (upd_none has)
    have s2a : Same1 H1a H2 := fun x o e => b2 x o (ne_of_none e had) (by rw [upd_ne (ne_of_none e had), upd_ne (ne_of_none e hdx)]; exact e)
    have s2 : Same1 H1 H2 := s1a.trans s2a
    have M2 : DeskM DM.C H2 ad aw as_ ⟨0, p.ws, []⟩ := ⟨⟨dx, fs0, i1, i2, i3, i4, i5, i6⟩, s2a _ _ e1a, i7, ne_of_none e1a has1⟩
    have S2 := s1.trans s2
    refine ⟨(by show 1 ≤ sizeLine; decide), fun l0 hl0 => ?_⟩
    refine alloc hl0 fun H5 s5 e5 => ?_
    refine ⟨_, rfl, ra, _, rfl, .inr (SqT.of ((S2.trans s5) _ _ hra)), l0, _, _, rfl, rfl, e5, ?_, ?_, ?_, fun ld hld => ?_⟩
    · rw [List.length_map]; omega
    · rw [List.length_map]; omega
    · refine sz ?_
      show 1 * _ ≤ _
      rw [List.length_map]; omega
    refine alloc hld fun H6 s6 e6 => ?_
    rw [List.flatten_replicate_singleton, List.length_map, hbr] at e6
    refine fun lg hlg => ?_
    refine alloc hlg fun H7 s7 e7 => ?_
    have S47 := (s5.trans s6).trans s7
    have L0 : DRunAt DM.C p H H7 ad aw as_ ld lg (startS p) := by
      refine ⟨S2.trans S47, M2.same S47, ?_, e7, s1.free (s1a.free had), s1.free haw1, s1.free (s1a.free has1), (S2.trans s5).free hld, ((S2.trans s5).trans s6).free hlg, ne_of_none (s5 _ _ M2.said) hld, ne_of_none (s5 _ _ M2.ws) hld⟩
      rw [s7 _ _ e6]
      show _ = some (HO.lst ((List.replicate p.rows.length (0 : Int)).map V.int))
      rw [List.map_replicate, Int.toNat_natCast]
    refine ⟨(by show 1 ≤ sizeLine; decide), fun le0 hle0 => ?_⟩
    refine alloc hle0 fun H8 s8 e8 => ?_
    have L8 := L0.alloc s8
    refine ⟨_, rfl, (fuel : Int), rfl, by omega, by omega, ?_⟩
    refine range_elim (lo := 0) (n := fuel) (fun j σ H' => ∃ (x9 x10 : Option V) (r : Nat), σ = [some (.ref pa), some (.int (fuel : Int)), some (.ref wa), some (.ref ra), some (.ref ad), some (.ref ld), some (.ref lg), some (.ref le0), some (.int (r : Int)), x9, x10, none, none] ∧
      (runS p j).here = some r ∧ DRunAt DM.C p H H' ad aw as_ ld lg (runS p j) ∧ H' le0 = some (.tup [.str "long"]))
      (fun σ H' => ∃ (le : Addr) (x8 x9 x10 : Option V), σ = [some (.ref pa), some (.int (fuel : Int)), some (.ref wa), some (.ref ra), some (.ref ad), some (.ref ld), some (.ref lg), some (.ref le), x8, x9, x10, none, none] ∧
        DRunAt DM.C p H H' ad aw as_ ld lg (runS p fuel) ∧ H' le = some (.tup [.str (if (runS p fuel).here = none then "stop" else "long")]))
      ⟨none, none, 0, rfl, rfl, L8, e8⟩ ?_ ?_ ?_
    · rintro σ H10 ⟨le, x8, x9, x10, rfl, L10, e10⟩
      have O := runS_ok g fuel
      refine ⟨_, rfl, lg, _, (runS p fuel).goes.map (·.1), rfl, .inl L10.goes, kmap_keys _, fun pl ys L' hP hs hb hpl => ?_⟩
      have hPm := Paired.length hP
      refine alloc hpl fun H11 s11 e11 => ?_
      have L11 := L10.alloc s11
      obtain ⟨dx2, fs2, f1, _⟩ := L11.mach.ins
      refine ⟨pl, rfl, ⟨_, SqL.of e11⟩, fun D hD => ?_⟩
      have n1 : ad ≠ D := ne_of_none f1 hD
      have n2 : aw ≠ D := ne_of_none L11.mach.ws hD
      have n3 : as_ ≠ D := ne_of_none L11.mach.said hD
      have n4 : ld ≠ D := ne_of_none L11.cnt hD
      have n5 : lg ≠ D := ne_of_none L11.goes hD
      have n6 : pl ≠ D := ne_of_none e11 hD
      have n0 : H D = none := L11.same.free hD
      refine lc_list (K := K) (a := pl) (xs := ys.map V.ref) (fun i H' => ∃ zs : List Addr, DRunAt DM.C p H H' ad aw as_ ld lg (runS p fuel) ∧ H' D = some (.lst (zs.map V.ref)) ∧
          Paired (fun b q => H' b = some (.tup [.int q.1, .int q.2, .int (gcount (valV (runS p fuel).goes q))])) zs (L'.take i) ∧ H' pl = some (.lst (ys.map V.ref)) ∧ Kp H11 H')
        ⟨[], L11.alloc (Same.new hD), upd_same, .nil, by rw [upd_ne n6]; exact e11, Kp.new hD⟩ (fun i H' _ ⟨_, _, _, _, q, _⟩ => SqL.of q) ?_ ?_
      · rintro i x H12 hi ⟨zs, L12, hD12, hz, hpl12, k12⟩
        have hiy : i < ys.length := by
          have q := (List.getElem?_eq_some_iff.mp hi).1
          rwa [List.length_map] at q
        have ex : x = .ref ys[i] := by
          rw [List.getElem?_map, List.getElem?_eq_getElem hiy] at hi
          exact (Option.some.inj hi).symm
        subst ex
        obtain ⟨q, hq1, hq2⟩ := Paired.get hP (List.getElem?_eq_getElem hiy)
        have hb12 := k12 _ _ (s11 _ _ hq2)
        have hmem : q ∈ (runS p fuel).goes.map (·.1) := hb.perm.mem_iff.mp (List.mem_of_getElem? hq1)
        have hzl := Paired.length hz
        have hgl : (runS p fuel).goes.length ≤ 5000 := Nat.le_trans O.gl hfu
        have hLl : L'.length ≤ 5000 := by rw [hb.perm.length_eq, List.length_map]; exact hgl
        rw [List.length_take] at hzl
        refine ⟨ys[i], _, rfl, SqT.of hb12, rfl, _, _, rfl, _, _, rfl, rfl, ?_⟩
        refine ⟨rfl, _, rfl, _, rfl, _, rfl, _, rfl, _, rfl, (by show 2 ≤ sizeLine; decide), fun t ht => ?_⟩
        refine alloc ht fun H13 s13 e13 => ?_
        have L13 := L12.alloc s13
        have hget : DGet H13 lg (.ref t) (some (.int (gcount (valV (runS p fuel).goes q)))) := by
          have z := DGet.t (k := keyP q) L13.goes e13
          rw [kmap_val, ggot O.gok hmem] at z
          exact z
        refine ⟨lg, _, rfl, hget, (by show 3 ≤ sizeLine; decide), fun t2 ht2 => ?_⟩
        refine alloc ht2 fun H14 s14 e14 => ?_
        have S := s13.trans s14
        have hD14 := S _ _ hD12
        refine ⟨_, hD14, szl (by rw [List.length_map]; omega), zs ++ [t2], (L12.alloc S).other (fun a o n e => by rw [upd_ne n]; exact e) n0 n1 n2 n3 n4 n5, by rw [upd_same, List.map_append]; rfl, ?_, by rw [upd_ne n6]; exact S _ _ hpl12, (k12.trans (Kp.same S)).trans (Kp.lst hD14)⟩
        rw [List.take_add_one, hq1]
        refine Paired.app (Paired.mapP hz fun b q h => Kp.lst hD14 _ _ (S _ _ h)) (Paired.one (Kp.lst hD14 _ _ e14))
      · rintro H12 ⟨zs, L12, hD12, hz, hpl12, k12⟩
        rw [List.length_map, hPm, List.take_length] at hz
        obtain ⟨dx3, fs3, g1, g2, g3, g4, g5, g9⟩ := L12.mach.ins
        refine ⟨_, rfl, ad, _, _, _, _, rfl, g1, TC.cl, TC.nS, g5, _, rfl, _, rfl, _, rfl, (by show 4 ≤ sizeLine; decide), fun top ht => ?_⟩
        refine alloc ht fun H13 s13 e13 => ?_
        have L13 := L12.alloc s13
        obtain ⟨q1, q2, q3, q4, q5⟩ := L13.nad
        exact k top as_ le ld D zs L' H13 ⟨L13.same, e13, L13.fs, L13.fd, n0, L13.mach.said, s13 _ _ (k12 _ _ (s11 _ _ e10)), L13.cnt, s13 _ _ hD12, Paired.mapP hz fun b q h => s13 _ _ h, hs, hb, L13.n1, n3, n4⟩
    · intro Nx hNx
      rintro j σ H9 hj ⟨x9, x10, r, rfl, hh, L, ele⟩
      have O := runS_ok g j
      have hr := O.here r hh
      have er : p.rows.getD r .stop = p.rows[r] := by rw [List.getD_eq_getElem?_getD, List.getElem?_eq_getElem hr]; rfl
      have hcr : ((runS p j).cnt.map V.int)[r]? = some (.int ((runS p j).cnt.getD r 0)) := by
        rw [List.getElem?_map, List.getD_eq_getElem?_getD, List.getElem?_eq_getElem (by rw [O.dl]; exact hr)]
        rfl
      refine ⟨_, rfl, _, rfl, ld, _, r, _, rfl, rfl, SqL.of L.cnt, hcr, _, _, rfl, rfl, ld, _, _, r, rfl, rfl, L.cnt, ixN_nat (by rw [List.length_map, O.dl]; exact hr), ?_⟩
      have hle9 : le0 ≠ ld := ne_of ele L.cnt (by intro z; cases z)
      have L9 := L.setCnt (l := (runS p j).cnt.set r ((runS p j).cnt.getD r 0 + 1))
      rw [List.map_set] at L9
      revert L9
      refine change fun H10 b10 e10 => ?_
      intro L10
      have ele10 := b10 _ _ hle9 ele
      obtain ⟨b, hb1, hb2⟩ := Paired.getR hR (List.getElem?_eq_getElem hr)
      have hbV : (bs.map V.ref)[r]? = some (.ref b) := by rw [List.getElem?_map, hb1]; rfl
      have S10 := L10.same
      obtain ⟨dx3, fs3, g1, g2, g3, g4, g5, g9⟩ := L10.mach.ins
      refine ⟨_, rfl, ad, dx3, fs3, rfl, g1, g9 _ (by decide +kernel) (by decide +kernel) (by decide +kernel), _, rfl, _, rfl, ra, _, _, _, rfl, rfl, SqT.of (S10 _ _ hra), atI_nat hbV, ?_⟩
      refine ⟨ad, aw, as_, b, (runS p j).m, p.rows.getD r .stop, p.rows.length, rfl, L10.mach, O.m, by have := O.said; omega, ?_, ?_, fun H11 B11 M11 => ?_⟩
      · rw [er]; exact S10 _ _ hb2
      · rw [er, O.w]; exact g.ok _ (List.getElem_mem hr)
      have L11 := L10.setM B11 M11
      have ele11 := B11 _ _ (ne_of ele10 g1 (by intro z; cases z)) (ne_of ele10 L10.mach.ws (by intro z; cases z)) (ne_of ele10 L10.mach.said (by intro z; cases z)) ele10
      have en := runS_go hh
      refine ⟨_, rfl, rfl, _, rfl, ?_⟩
      cases ho : (stepM (runS p j).m (p.rows.getD r .stop)).2 with
      | none =>
        have en2 : (runS p (j + 1)).here = none := by rw [en, ho]
        have ef := runS_end en2 (show j + 1 ≤ fuel by omega)
        refine ⟨(by show 1 ≤ sizeLine; decide), fun le hle => ?_⟩
        refine alloc hle fun H12 s12 e12 => ?_
        refine hNx _ _ ⟨le, _, _, _, rfl, ?_, ?_⟩
        · rw [ef, en, ho]
          exact (L11.alloc s12).cast rfl rfl rfl
        · rw [ef, en2, if_pos rfl]
          exact e12
      | some n =>
        refine ⟨_, rfl, lg, rfl, .inr ⟨_, .inl L11.goes⟩, _, rfl, _, rfl, (by show 2 ≤ sizeLine; decide), fun t1 ht1 => ?_⟩
        refine alloc ht1 fun H12 s12 e12 => ?_
        have L12 := L11.alloc s12
        refine ⟨_, DGet.t (k := keyP ((r : Int), (n : Int))) L12.goes e12, ?_⟩
        rw [kmap_val, gget O.gok]
        refine ⟨_, _, rfl, rfl, _, rfl, _, rfl, _, rfl, (by show 2 ≤ sizeLine; decide), fun t2 ht2 => ?_⟩
        refine alloc ht2 fun H13 s13 e13 => ?_
        have L13 := L12.alloc s13
        refine ⟨lg, _, rfl, DPut.t (k := keyP ((r : Int), (n : Int))) L13.goes e13 (szl (by rw [kmap_len]; show (runS p j).goes.length < 100000; have := O.gl; omega)), ?_⟩
        have L14 := L13.setGoes (g := bump (runS p j).goes ((r : Int), (n : Int)))
        have ele13 := (s12.trans s13) _ _ ele11
        rw [kmap_put]
        refine ⟨_, rfl, _, _, n, rfl, by rw [en, ho], ?_, by rw [upd_ne (ne_of ele13 L13.goes (by intro z; cases z))]; exact ele13⟩
        rw [en, ho]
        exact L14.cast rfl rfl rfl
    · rintro σ H9 ⟨x9, x10, r, rfl, hh, L, ele⟩
      refine ⟨le0, _, _, _, rfl, L, ?_⟩
      rw [hh, if_neg (by simp)]
      exact ele
end
end DL
namespace DL
open PySem L2 DLR
theorem lexB_swo : SrtO.Swo SrtO.lexB := by
  refine ⟨fun x y h => ?_, fun x y z h1 h2 => ?_⟩
  · rw [SrtO.lexB_no]
    rw [SrtO.lexB_iff] at h
    omega
  · rw [SrtO.lexB_no] at *
    omega
/-! ### what a run tells, as data -/
def dI (x : Int) : D := .int x
def d3 (g : GL) (q : Int × Int) : D := .tup [.int q.1, .int q.2, .int (gcount (valV g q))]
def resD (s : RS) (L : List (Int × Int)) : D := .tup [.lst (s.m.said.map dI), .tup [.str (if s.here = none then "stop" else "long")], .lst (s.cnt.map dI), .lst (L.map (d3 s.goes))]
theorem ats_ints (H : Hp) : ∀ l : List Int, Ats H (l.map V.int) (l.map dI)
  | [] => by simp [Ats]
  | x :: l => by
    show Ats H (V.int x :: l.map V.int) (D.int x :: l.map dI)
    simp only [Ats, At]
    exact ⟨trivial, ats_ints H l⟩
theorem ats_goes {H : Hp} {g : GL} : ∀ {ys : List Addr} {L : List (Int × Int)}, Paired (fun b q => H b = some (.tup [.int q.1, .int q.2, .int (gcount (valV g q))])) ys L → Ats H (ys.map V.ref) (L.map (d3 g))
  | _, _, .nil => by simp [Ats]
  | _, _, .cons (a := b) (l₁ := ys) (b := q) (l₂ := L) h t => by
    show Ats H (V.ref b :: ys.map V.ref) (d3 g q :: L.map (d3 g))
    simp only [Ats]
    refine ⟨?_, ats_goes t⟩
    unfold d3
    simp only [At]
    exact ⟨b, _, rfl, h, by simp [Ats, At]⟩
theorem Res.at {p : Prog} {fuel : Nat} {H0 H : Hp} {a ls le ld lg : Addr} {ys : List Addr} {L : List (Int × Int)} (r : Res p fuel H0 H a ls le ld lg ys L) : At H (.ref a) (resD (runS p fuel) L) := by
  unfold resD
  simp only [At, Ats]
  refine ⟨a, _, rfl, r.top, ?_⟩
  simp only [At, Ats]
  refine ⟨⟨ls, _, rfl, r.said, ats_ints _ _⟩, ⟨le, _, rfl, r.fin, by simp [Ats, At]⟩, ⟨ld, _, rfl, r.cnt, ats_ints _ _⟩, ⟨lg, _, rfl, r.goes, ats_goes r.each⟩, trivial⟩
theorem depL_map {α : Type} {f : α → D} {n : Nat} (h : ∀ x, (f x).dep ≤ n) : ∀ l : List α, depL (l.map f) ≤ n
  | [] => Nat.zero_le _
  | x :: l => by
    show max (f x).dep (depL (l.map f)) ≤ n
    have := depL_map h l
    have := h x
    omega
theorem resD_dep (s : RS) (L : List (Int × Int)) : (resD s L).dep ≤ 3 := by
  have h1 : depL (s.m.said.map dI) ≤ 0 := depL_map (fun x => Nat.le_refl 0) _
  have h2 : depL (s.cnt.map dI) ≤ 0 := depL_map (fun x => Nat.le_refl 0) _
  have h3 : depL (L.map (d3 s.goes)) ≤ 1 := depL_map (fun x => by simp [d3, D.dep, depL]) _
  unfold resD
  simp only [D.dep, depL]
  omega
theorem fit_map {α : Type} {f : α → D} (h : ∀ x, (f x).fit) (l : List α) : fitL (l.map f) := fitL_iff.mpr fun x hx => by
  obtain ⟨y, _, rfl⟩ := List.mem_map.mp hx
  exact h y
theorem resD_fit {s : RS} {L : List (Int × Int)} (h1 : s.m.said.length ≤ 100000) (h2 : s.cnt.length ≤ 100000) (h3 : L.length ≤ 100000) : (resD s L).fit := by
  have g1 : fitL (s.m.said.map dI) := fit_map (fun x => by simp [dI, D.fit]) _
  have g2 : fitL (s.cnt.map dI) := fit_map (fun x => by simp [dI, D.fit]) _
  have g3 : fitL (L.map (d3 s.goes)) := fit_map (fun x => by simp [d3, D.fit, fitL]) _
  unfold resD
  simp only [D.fit, fitL, List.length_map, List.length_cons, List.length_nil]
  refine ⟨by decide, ⟨h1, g1⟩, ⟨by decide, trivial, trivial⟩, ⟨h2, g2⟩, ⟨h3, g3⟩, trivial⟩
theorem Res.uniq {p : Prog} {fuel : Nat} {H0 H H1 H2 : Hp} {a ls le ld lg a' ls' le' ld' lg' : Addr} {ys ys' : List Addr} {L L' : List (Int × Int)} (r : Res p fuel H0 H a ls le ld lg ys L) (r' : Res p fuel H1 H2 a' ls' le' ld' lg' ys' L') : L = L' :=
  SrtO.stb_uniq lexB_swo r.srt r'.srt (r.stb.trans ⟨r'.stb.perm.symm, fun x => (r'.stb.cls x).symm⟩)
theorem Res.len {p : Prog} {fuel : Nat} {H0 H : Hp} {a ls le ld lg : Addr} {ys : List Addr} {L : List (Int × Int)} (g : Good p) (r : Res p fuel H0 H a ls le ld lg ys L) : L.length ≤ fuel := by
  rw [r.stb.perm.length_eq, List.length_map]
  exact (runS_ok g fuel).gl
end DL
namespace DLR
open PySem PySem.Spec PyProof.Rows L2
/-! ### set(xs) of a list or a tuple of whole numbers; its rules over the layer -/
def newSet (w : World) : Obj := { cls := .type "set", dict := none, data := .set #[] 0 (.fresh 0 0 (!w.params.followText "set-order")) }
def SetMade (w : World) (s : Shared) (ns : List Int) (v : Value) (s2 : Shared) : Prop := v = .none ∧ ∃ (h2 : Heap) (tk c : Nat), s2 = { s with heap := h2, toks := tk } ∧ SetR w h2 s.heap.objs.size (fun j => decide (j ∈ ns)) c ∧ c ≤ ns.length ∧ ∀ b o, s.heap.get? b = some o → h2.get? b = some o
section
variable {P : Program} {w : World} {A : Around} {E : Value → Shared → Prop} {s : Shared}
set_option maxHeartbeats 3200000 in
theorem set_of_list {l : Addr} {items : Array Value} (ns : List Int) {Q : Value → Shared → Prop} (hh : A.handled = none) (hl : s.heap.IsList l items) (hit : IntsAre items.toList ns) (room : ns.length + 1 < scanBound)
    (k : ∀ (h2 : Heap) (tk c : Nat), SetR w h2 s.heap.objs.size (fun j => decide (j ∈ ns)) c → c ≤ ns.length → (∀ b o, s.heap.get? b = some o → h2.get? b = some o) → Q (.ref s.heap.objs.size) { s with heap := h2, toks := tk }) :
    wpAny (model P w) A (call (.type "set") [.ref l]) Q E s := by
  have size_eq : items.size = ns.length := by simpa using IntsAre.length hit
  obtain ⟨_, _, mro⟩ := F.called_set.mro
  have made := F.called_set.made
  have sub := F.called_set.sub
  have nt := F.called_set.notType
  have cc := F.called_set.canCreate
  have tc := F.typeCall_set_1 (.ref l)
  refine wpAny_call (codeAny_of_tree (show wpAny _ _ (callAny (.type "set") _) _ _ _ from wpAny_pure ⟨Code.quiet_builtin _ (by decide +kernel), codeAny_builtin F.entry_type_call ?_⟩))
  rw [Around.under_plain (weight_type_call_type "set" [.ref l] []) rfl]
  repeat (any_goals (first | assumption | wp_step))

  refine codeAny_mono (code_set_led1 (.ref l) (E := E) (Q₁ := fun o s1 => o = .ref s.heap.objs.size ∧ s1 = { s with heap := s.heap.push (newSet w) }) ⟨rfl, rfl⟩) fun r s1 hr => ?_
  match r, hr with
  | .error e, hr => exact hr
  | .ok (.ret o), hr =>
    obtain ⟨rfl, rfl⟩ := hr
    have at0 : (s.heap.push (newSet w)).get? s.heap.objs.size = some (newSet w) := Heap.get?_push_size _ rfl
    have ty : Shared.TypeIs { s with heap := s.heap.push (newSet w) } (.ref s.heap.objs.size) "set" := ⟨_, at0, rfl⟩
    have il := F.called_set.init.lookup
    have ib := F.called_set.init.bind (.ref s.heap.objs.size)
    repeat (any_goals (first | assumption | wp_step))

    refine codeAny_mono (codeAny_call_builtin (R := wants (SetMade w s ns) E) F.called_set.init.plain F.entry_set_init (check_set_init_1 ty ?_)) fun r2 s2 hr2 => ?_
    · obtain ⟨ol, hol, rfl', nl, hdl⟩ := hl
      obtain ⟨cls0, dict0, data0, slots0⟩ := ol
      dsimp only at rfl' hdl
      subst rfl' hdl
      have ol2 : (s.heap.push (newSet w)).get? l = some { cls := .type "list", dict := dict0, data := .seq items nl, slots := slots0 } := Heap.get?_push_of_some _ hol
      have s_ls := F.sub_list_set
      have s_lf := F.sub_list_frozenset
      have ne_d : (Value.type "list" == Value.type "dict") = false := by decide
      have isl : (s.heap.push (newSet w)).IsList l items := ⟨_, ol2, rfl, nl, rfl⟩
      unfold Builtin.«set.__init__» noKeywords Builtin.Frozenset.updateFrom
      generalize hPI : pyIter = PI
      wp_walk
      subst hPI

      refine wpAny_pyIter_list isl (wpAny_bind (wpAny_runValue ?_))
      have low : l < s.heap.objs.size := Heap.lt_size hol
      have h_in : A.in1.in1.in1.handled = none := by simp [hh]
      have sz1 : (s.heap.push (newSet w)).objs.size = s.heap.objs.size + 1 := Heap.size_push ..
      have neI : l ≠ (s.heap.push (newSet w)).objs.size := Nat.ne_of_lt (by rw [sz1]; exact Nat.lt_succ_of_lt low)
      have out0 : s.heap.objs.size ∉ [(s.heap.push (newSet w)).objs.size, l] := fun q => by
        rcases List.mem_cons.mp q with e | e
        · exact Nat.ne_of_lt (by rw [sz1]; exact Nat.lt_succ_self _) e
        · exact Nat.ne_of_gt low (List.mem_singleton.mp e)
      have vals : ∀ (i : Nat) (v : Value), items[i]? = some v → ∃ k t, ns[i]? = some k ∧ v = .int k t := fun i v hv => by
        have lt : i < ns.length := size_eq ▸ (Array.getElem?_eq_some_iff.mp hv).1
        obtain ⟨t, e⟩ := IntsAre.int_at hit i v (by rw [Array.getElem?_toList]; exact hv)
        refine ⟨ns[i], t, List.getElem?_eq_getElem lt, e.trans ?_⟩
        rw [List.getD_eq_getElem?_getD, List.getElem?_eq_getElem lt]
        rfl
      refine set_update_ints ((Walks.list h_in _ l neI items).toS) s.heap.objs.size out0 ns size_eq room vals (items.size - 0) 0 _ (by omega) (Nat.zero_le _) ⟨⟨_, Heap.get?_push_size _ rfl, rfl, rfl⟩, isl.push _⟩ ⟨0, Nat.le_refl 0, setR_new_at (Heap.get?_push_of_some _ at0)⟩ ?_
      intro s3 c3 mv hc3 set3
      have g3 := mv.gens
      have d3 := mv.drawn
      have o3 := mv.os
      have m3 := mv.heap
      obtain ⟨hp3, gs3, dr3, tk3, os3⟩ := s3
      have g3 : gs3 = s.gens := g3
      have d3 : dr3 = s.drawn := d3
      have o3 : os3 = s.os := o3
      subst g3 d3 o3
      refine show wpAny _ _ _ _ _ _ from wpAny_pure (show wpAny _ _ (ret Value.none) _ _ _ from wpAny_pure ⟨rfl, hp3, tk3, c3, rfl, set3, size_eq ▸ hc3, fun b o e => ?_⟩)
      have b0 : b < s.heap.objs.size := Heap.lt_size e
      refine m3 b o (fun q => ?_) (Heap.get?_push_of_some _ (Heap.get?_push_of_some _ e))
      rcases List.mem_cons.mp q with e2 | e2
      · exact Nat.ne_of_lt b0 e2
      · exact Nat.ne_of_lt (by rw [sz1]; exact Nat.lt_succ_of_lt b0) (List.mem_singleton.mp e2)
    · match r2, hr2 with
      | .error e, q => exact q
      | .ok (.ret v), q =>
        obtain ⟨rfl, h2, tk, c, rfl, q1, q2, q3⟩ := q
        repeat (any_goals (first | assumption | wp_step))
        exact k _ _ _ q1 q2 q3
      | .ok .next, q => exact q.elim
      | .ok .brk, q => exact q.elim
      | .ok .cont, q => exact q.elim
  | .ok .next, hr => exact hr.elim
  | .ok .brk, hr => exact hr.elim
  | .ok .cont, hr => exact hr.elim
end
end DLR
namespace DLR
open PySem PySem.Spec PyProof.Rows L2
def rSetL (K : PySem.W.Frag) (w : World) : List V → Hp → VK → Prop := fun vs H Q => ∃ (l : Addr) (ns : List Int), vs = [V.ref l] ∧ SqL K H l (ns.map V.int) ∧ ns.length < 60 ∧
  ∀ p c, c ≤ ns.length → H p = none → Q (.ref p) (upd H p (SetO w p (fun j => decide (j ∈ ns)) c))
def rSetT (K : PySem.W.Frag) (w : World) : List V → Hp → VK → Prop := fun vs H Q => ∃ (l : Addr) (ns : List Int), vs = [V.ref l] ∧ SqT K H l (ns.map V.int) ∧ ns.length < 60 ∧
  ∀ p c, c ≤ ns.length → H p = none → Q (.ref p) (upd H p (SetO w p (fun j => decide (j ∈ ns)) c))
theorem scan60 {n : Nat} (h : n < 60) : n + 1 < scanBound := Nat.lt_of_lt_of_le (Nat.succ_lt_succ h) (by decide)
section
variable {X : Cx}
theorem cr_setL (hc : X.calm = true) : CallR X (.type "set") (rSetL X.K X.w) := by
  intro pins s σ H vs us Q I r h
  obtain ⟨l, ns, rfl, hs, hb, q⟩ := h
  rw [Vals.ref1 r]
  obtain ⟨its, rv, pl, hz⟩ := I.list hs
  refine set_of_list ns (I.ok.hd hc) pl.isList (by simpa using rv.ints) (scan60 hb) fun h2 tk c R hc2 k => ?_
  exact ⟨.ref s.heap.objs.size, _, I.laid (t' := tk) k (Nat.le_refl _) (setO_new R), rfl, q _ c hc2 (I.hok.fresh (Nat.le_refl _))⟩
theorem cr_setT (hc : X.calm = true) : CallR X (.type "set") (rSetT X.K X.w) := by
  intro pins s σ H vs us Q I r h
  obtain ⟨l, ns, rfl, hs, hb, q⟩ := h
  rw [Vals.ref1 r]
  obtain ⟨its, rv, ⟨o, ho, hcl, n, hd⟩, _⟩ := I.tuple hs
  refine call_set_tupI (items := its.toArray) ns (I.ok.hd hc) ⟨o, ho, hcl, n, hd⟩ (by simpa using rv.ints) (scan60 hb) fun h2 tk c R hc2 k => ?_
  exact ⟨.ref s.heap.objs.size, _, I.laid (t' := tk) k (Nat.le_refl _) (setO_new R), rfl, q _ c hc2 (I.hok.fresh (Nat.le_refl _))⟩
end
theorem rise_uniq : ∀ {l m : List Int}, l.Pairwise (· < ·) → m.Pairwise (· < ·) → (∀ x, x ∈ l ↔ x ∈ m) → l = m
  | [], [], _, _, _ => rfl
  | [], y :: m, _, _, h => absurd ((h y).mpr List.mem_cons_self) (by simp)
  | x :: l, [], _, _, h => absurd ((h x).mp List.mem_cons_self) (by simp)
  | x :: l, y :: m, hl, hm, h => by
    have h1 := List.pairwise_cons.mp hl
    have h2 := List.pairwise_cons.mp hm
    have e : x = y := by
      have a := (h x).mp List.mem_cons_self
      have b := (h y).mpr List.mem_cons_self
      rcases List.mem_cons.mp a with e | e
      · exact e
      · rcases List.mem_cons.mp b with e2 | e2
        · exact e2.symm
        · have := h2.1 x e
          have := h1.1 y e2
          omega
    subst e
    rw [rise_uniq h1.2 h2.2 fun z => ⟨fun hz => ?_, fun hz => ?_⟩]
    · rcases List.mem_cons.mp ((h z).mp (List.mem_cons_of_mem _ hz)) with e | e
      · have := h1.1 z hz
        omega
      · exact e
    · rcases List.mem_cons.mp ((h z).mpr (List.mem_cons_of_mem _ hz)) with e | e
      · have := h2.1 z hz
        omega
      · exact e
end DLR
namespace DL
open PySem L2 DLR
/-! ### layings -/
structure Lay where
  wide : Nat
  places : List Nat
  homes : List (List Nat)
abbrev HomesAt (H : Hp) (bs : List Addr) (hs : List (List Nat)) : Prop := Paired (fun b h => H b = some (.tup (h.map nI))) bs hs
def LayAt (H : Hp) (a : Addr) (y : Lay) : Prop :=
  ∃ (pa ha : Addr) (bs : List Addr), H a = some (.tup [nI y.wide, .ref pa, .ref ha]) ∧ H pa = some (.tup (y.places.map nI)) ∧ H ha = some (.tup (bs.map V.ref)) ∧ HomesAt H bs y.homes
theorem HomesAt.kp {H H' : Hp} {bs : List Addr} {hs : List (List Nat)} (h : HomesAt H bs hs) (k : Kp H H') : HomesAt H' bs hs := Paired.mapP h fun b x e => k _ _ e
theorem LayAt.kp {H H' : Hp} {a : Addr} {y : Lay} (h : LayAt H a y) (k : Kp H H') : LayAt H' a y := by
  obtain ⟨pa, ha, bs, h1, h2, h3, h4⟩ := h
  exact ⟨pa, ha, bs, k _ _ h1, k _ _ h2, k _ _ h3, h4.kp k⟩
structure HomeOk (wide : Nat) (h : List Nat) : Prop where
  l1 : 1 ≤ h.length
  l3 : h.length ≤ 3
  up : h.Pairwise (· < ·)
  lt : ∀ x ∈ h, x < wide
structure LayOk (p : Prog) (y : Lay) : Prop where
  w2 : 2 ≤ y.wide
  w24 : y.wide ≤ 24
  pl : y.places.length = p.rows.length
  pok : ∀ x ∈ y.places, x < y.wide
  hl : y.homes.length = p.ws.length
  hok : ∀ h ∈ y.homes, HomeOk y.wide h
structure Bs (mg : Str → Option Value) : Prop where
  set : mg "set" = none
theorem rise_nat {ns : List Int} (h0 : ∀ x ∈ ns, 0 ≤ x) (up : ns.Pairwise (· < ·)) : ∃ h : List Nat, ns.map V.int = h.map nI ∧ h.length = ns.length ∧ h.Pairwise (· < ·) ∧ (∀ x ∈ h, (x : Int) ∈ ns) := by
  refine ⟨ns.map Int.toNat, ?_, List.length_map _, ?_, fun x hx => ?_⟩
  · rw [List.map_map]
    refine List.map_congr_left fun x hx => ?_
    show V.int x = V.int ((x.toNat : Nat) : Int)
    rw [Int.toNat_of_nonneg (h0 x hx)]
  · rw [List.pairwise_map]
    refine up.imp_of_mem fun {a b} ha hb h => ?_
    have := h0 a ha
    have := h0 b hb
    omega
  · obtain ⟨z, hz, rfl⟩ := List.mem_map.mp hx
    rw [Int.toNat_of_nonneg (h0 z hz)]
    exact hz
abbrev sLaying : Stmt := top 81
abbrev pLaying : List Str := ["_law_d", "_law_program", "_law_most"]
abbrev nLaying : List Str := ["_law_d", "_law_program", "_law_most", "_law_wide", "_law_places", "_law_homes", "_law_worth", "_law_some", "_law_row", "_law_k"]
abbrev FLaying (K : Frg) (mg : Str → Option Value) := Fd K mg "_law_laying" sLaying pLaying
def spLaying (K : Frg) : Sp := fun vs H Q _ => ∃ (d sa : Addr) (ns : List Int) (pa : Addr) (p : Prog) (most : Int), vs = [.ref d, .ref pa, .int most] ∧ Ent K H d sa ns ∧ ProgAt H pa p ∧ Good p ∧ 1 ≤ most ∧ most ≤ 3 ∧
  ∀ a y H', Dc K H H' d sa ns → LayAt H' a y → LayOk p y → (∀ h ∈ y.homes, (h.length : Int) ≤ most) → Q (.ref a) H'
section
variable {P : Program} {w : World} {K : PySem.W.Frag} {mg : Str → Option Value} {base : Heap}
theorem scLaying : FnScope nLaying pLaying (defScope sLaying) := ⟨rfl, rfl, rfl, by decide +kernel, rfl, by decide +kernel, by decide +kernel⟩
theorem ok_laying (c : FLaying K mg) (cNext : FNext K mg) (T : Bt mg) (TS : Bs mg) : FnOk P w K mg base CX0 2 c.f c.fd pLaying (spLaying K) := by
  have GNext : FnOk P w K mg base CX0 1 cNext.f cNext.fd ["_law_dice_here", "_law_many"] (spNext K) := ok_next cNext.F T
  refine c.F.ok scLaying (fun vs H Q E h => ?_) (fun cdv A outer s H vs Q E hr h => ?_)
  · obtain ⟨d, sa, ns, pa, p, most, rfl, _⟩ := h
    rfl
  · obtain ⟨d, sa, ns, pa, p, most, rfl, hE, ⟨wa, ra, bs, hpa, hwa, hra, hR⟩, g, m1, m3, kq⟩ := h
    have hbr := Paired.length hR
    have hR40 := g.r40
    have hW8 := g.w8
    refine ⟨_, (pss_cons (ps_set (i := 3) scLaying.nd rfl (Or.inr rfl) (pe_op op_add pe_int (pe_call GNext (hr.mono (by first | omega | decide)) (by rfl) cNext.m cNext.F.kp cNext.b .nil pass0 (pa_cons (pv 0) (pa_cons (pe_ix ix_list (pe_lst (pa_cons pe_int (pa_cons pe_int pa_nil))) (pe_call GNext (hr.mono (by first | omega | decide)) (by rfl) cNext.m cNext.F.kp cNext.b .nil pass0 (pa_cons (pv 0) (pa_cons pe_int pa_nil))) (fun _ _ => rfl)) pa_nil)))))
      (pss_cons (ps_set (i := 4) scLaying.nd rfl (Or.inl rfl) (pe_callTy call_tuple_of (by rfl) T.tuple (by decide +kernel) (pa_cons (pe_lc (own := [("_law_row", 8)]) (g := gName 8) (tt := tYes) rfl scLaying.nd (pi_tup (pe_ix ix_tup (pv 1) pe_int (fun _ _ => rfl))) (blkOk_by (N := nLaying) (sc := defScope sLaying) (by decide +kernel)) (fun _ _ _ _ _ => (pg_name (i := 8) scLaying.nd rfl (Or.inl rfl))) (fun _ _ _ _ _ => pts_nil) (fun _ _ _ _ _ => (pe_call GNext (hr.mono (by first | omega | decide)) (by rfl) cNext.m cNext.F.kp cNext.b .nil pass0 (pa_cons (pv 0) (pa_cons (pv 3) pa_nil))))) pa_nil)))
      (pss_cons (ps_set (i := 5) scLaying.nd rfl (Or.inl rfl) (pe_lst pa_nil))
      (pss_cons (ps_for PassesOwn.never rfl (pi_tup (pe_ix ix_tup (pv 1) pe_int (fun _ _ => rfl))) (pg_name (i := 6) scLaying.nd rfl (Or.inl rfl))
          (pss_cons (ps_setLc (i := 7) (own := [("_law_k", 9)]) (g := gName 9) (tt := tYes) rfl scLaying.nd rfl rfl (sw_true rfl rfl rfl (by decide +kernel)) (pi_range1 rfl T.range (pa_cons (pe_op op_add pe_int (pe_call GNext (hr.mono (by first | omega | decide)) (by rfl) cNext.m cNext.F.kp cNext.b .nil pass0 (pa_cons (pv 0) (pa_cons (pv 2) pa_nil)))) pa_nil)) (blkOk_by (N := nLaying) (sc := defScope sLaying) (by decide +kernel)) (fun _ _ _ _ _ => (pg_name (i := 9) scLaying.nd rfl (Or.inl rfl))) (fun _ _ _ _ _ => pts_nil) (fun _ _ _ _ _ => (pe_call GNext (hr.mono (by first | omega | decide)) (by rfl) cNext.m cNext.F.kp cNext.b .nil pass0 (pa_cons (pv 0) (pa_cons (pv 3) pa_nil)))))
          (pss_one (ps_expr (pe_bm PySem.F.plainAttrs_list PySem.F.slot_list_append PySem.F.type_list_append mt_append (pv 5) (pa_cons (pe_callTy call_tuple_of (by rfl) T.tuple (by decide +kernel) (pa_cons (pe_callB (cr_sortedSet rfl) (by rfl) T.sorted (by decide +kernel) (pa_cons (pe_callTy (cr_setL rfl) (by rfl) TS.set (by decide +kernel) (pa_cons (pv 7) pa_nil)) pa_nil)) pa_nil)) pa_nil))))))
      (pss_one (ps_ret (pe_tup (pa_cons (pv 3) (pa_cons (pv 4) (pa_cons (pe_callTy call_tuple_of (by rfl) T.tuple (by decide +kernel) (pa_cons (pv 5) pa_nil)) pa_nil)))))))))), ?_⟩
    refine ⟨_, rfl, (by show 2 ≤ sizeLine; decide), fun l hl => ?_⟩
    refine alloc hl fun H1 s1 e1 => ?_
    have C1 := (Dc.refl hE).same s1
    refine ⟨_, rfl, d, sa, ns, _, rfl, C1.ent, by decide, by decide, fun n1 H2 a0 a1 C2 => ?_⟩
    obtain ⟨z, hz, z1, z2⟩ : ∃ z : Int, atI ([V.int 4, V.int 23] : List V) n1 = some (.int z) ∧ 0 < z ∧ z ≤ 23 := by
      rcases (show n1 = 0 ∨ n1 = 1 by omega) with q | q
      · exact ⟨4, by rw [q]; exact at0, by decide, by decide⟩
      · exact ⟨23, by rw [q]; exact at1, by decide, by decide⟩
    refine ⟨l, _, _, _, rfl, rfl, SqL.of (C2.but _ _ (C1.ned hl) e1), hz, d, sa, ns, _, rfl, (C1.trans C2).ent, z1, by omega, fun n2 H3 b0 b1 C3 => ?_⟩
    have C3' := (C1.trans C2).trans C3
    refine ⟨_, _, rfl, rfl, ?_⟩
    obtain ⟨W, hW⟩ : ∃ W : Nat, 2 + n2 = (W : Int) := ⟨(2 + n2).toNat, by omega⟩
    dsimp only
    rw [hW]
    refine ⟨_, rfl, pa, _, _, _, rfl, rfl, SqT.of (C3'.kp _ _ hpa), at1, ra, rfl, ⟨_, SqT.of (C3'.kp _ _ hra)⟩, fun D hD => ?_⟩
    refine lc_tup (K := K) (a := ra) (xs := bs.map V.ref) (fun i H' => ∃ us : List Nat, Dc K H H' d sa ns ∧ H D = none ∧ H' D = some (.lst (us.map nI)) ∧ us.length = i ∧ ∀ x ∈ us, x < W)
      ⟨[], C3'.new hD, C3'.here hD, upd_same, rfl, fun _ h => absurd h (by simp)⟩ (fun i H' _ ⟨_, q, _⟩ => SqT.of (q.kp _ _ hra)) ?_ ?_
    · rintro i x H4 hi ⟨us, C4, nD, hu, hul, hum⟩
      have hi2 := (List.getElem?_eq_some_iff.mp hi).1
      rw [List.length_map] at hi2
      refine ⟨rfl, _, rfl, _, rfl, d, sa, ns, _, rfl, C4.ent, by omega, by omega, fun m H5 m0 m1 C5 => ?_⟩
      refine ⟨_, C5.but _ _ (C4.ned nD) hu, szl (by rw [List.length_map]; omega), us ++ [m.toNat], (C4.trans C5).mut nD, nD, ?_, by rw [List.length_append, hul]; rfl, fun x hx => ?_⟩
      · rw [upd_same, List.map_append]
        show _ = some (HO.lst (us.map nI ++ [V.int ((m.toNat : Nat) : Int)]))
        rw [Int.toNat_of_nonneg m0]
      · rcases List.mem_append.mp hx with q | q
        · exact hum x q
        · rw [List.mem_singleton.mp q]
          omega
    · rintro H4 ⟨us, C4, nD, hu, hul, hum⟩
      rw [List.length_map, hbr] at hul
      refine ⟨D, _, rfl, .inl ⟨SqL.of hu, fun pl hpl => ?_⟩⟩
      refine alloc hpl fun H5 s5 e5 => ?_
      have C5 := C4.same s5
      refine ⟨Nat.zero_le _, fun lh hlh => ?_⟩
      refine alloc hlh fun H6 s6 e6 => ?_
      have C6 := C5.same s6
      have nlh : H lh = none := C5.here hlh
      refine ⟨_, rfl, pa, _, _, _, rfl, rfl, SqT.of (C6.kp _ _ hpa), at0, wa, rfl, ⟨_, SqT.of (C6.kp _ _ hwa)⟩, ?_⟩
      refine for_tup (K := K) (a := wa) (xs := p.ws.map V.int) (fun i σ H' => ∃ (x6 x7 : Option V) (hb : List Addr) (hs : List (List Nat)), σ = [some (.ref d), some (.ref pa), some (.int most), some (.int (W : Int)), some (.ref pl), some (.ref lh), x6, x7, none, none] ∧
          Dc K H H' d sa ns ∧ Kp H6 H' ∧ H' lh = some (.lst (hb.map V.ref)) ∧ HomesAt H' hb hs ∧ hs.length = i ∧ ∀ h ∈ hs, HomeOk W h ∧ (h.length : Int) ≤ most)
        ⟨none, none, [], [], rfl, C6, Kp.refl _, e6, .nil, rfl, fun _ h => absurd h (by simp)⟩ (fun i σ H' _ ⟨_, _, _, _, _, q, _⟩ => SqT.of (q.kp _ _ hwa)) ?_ ?_
      · rintro i x σ H7 hi ⟨x6, x7, hb, hs, rfl, C7, k7, hlh7, hH, hsl, hok⟩
        have hi2 := (List.getElem?_eq_some_iff.mp hi).1
        rw [List.length_map] at hi2
        have hhb := Paired.length hH
        refine ⟨_, rfl, _, rfl, d, sa, ns, _, rfl, C7.ent, by omega, by omega, fun m H8 m0 m1' C8 => ?_⟩
        have C8' := C7.trans C8
        refine ⟨_, _, rfl, rfl, _, rfl, by omega, by omega, fun D2 hD2 => ?_⟩
        have hlh8 := C8.but _ _ (C7.ned nlh) hlh7
        have nD2 : lh ≠ D2 := ne_of_none hlh8 hD2
        refine lc_range (lo := 0) (n := (1 + m).toNat) (fun i H9 => ∃ us : List Int, Dc K H H9 d sa ns ∧ H D2 = none ∧ H9 D2 = some (.lst (us.map V.int)) ∧ us.length = i ∧ (∀ x ∈ us, 0 ≤ x ∧ x < (W : Int)) ∧ Kp H7 H9 ∧ H9 lh = some (.lst (hb.map V.ref)))
          ⟨[], C8'.new hD2, C8'.here hD2, upd_same, rfl, fun _ h => absurd h (by simp), C8.kp.trans (Kp.new hD2), by rw [upd_ne nD2]; exact hlh8⟩ ?_ ?_
        · rintro j H9 hj ⟨us, C9, nD, hu, hul, hum, k9, hlh9⟩
          refine ⟨rfl, _, rfl, _, rfl, d, sa, ns, _, rfl, C9.ent, by omega, by omega, fun m2 H10 c0 c1 C10 => ?_⟩
          have hu10 := C10.but _ _ (C9.ned nD) hu
          refine ⟨_, hu10, szl (by rw [List.length_map]; omega), us ++ [m2], (C9.trans C10).mut nD, nD, by rw [upd_same, List.map_append]; rfl, by rw [List.length_append, hul]; rfl, all_snoc hum ⟨c0, c1⟩, (k9.trans C10.kp).trans (Kp.lst hu10), by rw [upd_ne nD2]; exact C10.but _ _ (C9.ned nlh) hlh9⟩
        · rintro H9 ⟨us2, C9, nD, hu, hul2, hum2, k9, hlh9⟩
          refine ⟨_, rfl, .inl ⟨rfl, _, SqL.of hlh9⟩, _, rfl, D2, us2, rfl, SqL.of hu, by omega, fun sp c hc hsp => ?_⟩
          refine alloc hsp fun H10 s10 e10 => ?_
          refine ⟨sp, _, c, rfl, e10, by omega, fun ms q up mem len hq => ?_⟩
          refine alloc hq fun H11 s11 e11 => ?_
          refine ⟨q, _, rfl, .inl ⟨SqL.of e11, fun t ht => ?_⟩⟩
          refine alloc ht fun H12 s12 e12 => ?_
          have S12 := (s10.trans s11).trans s12
          have mem2 : ∀ x, x ∈ ms ↔ x ∈ us2 := fun x => (mem x).trans decide_eq_true_iff
          obtain ⟨h, h1, h2, h3, h4⟩ := rise_nat (ns := ms) (fun x hx => (hum2 x ((mem2 x).mp hx)).1) up
          have hlh12 := S12 _ _ hlh9
          have kf := ((k9.trans (Kp.same S12)).trans (Kp.lst (o := .lst (hb.map V.ref ++ [.ref t])) hlh12))
          refine ⟨lh, _, _, rfl, rfl, hlh12, szl (by rw [List.length_map]; omega), ?_⟩
          refine ⟨_, _, hb ++ [t], hs ++ [h], rfl, (C9.same S12).mut nlh, k7.trans kf, by rw [upd_same, List.map_append]; rfl, ?_, by rw [List.length_append, hsl]; rfl, ?_⟩
          · refine Paired.app (HomesAt.kp hH kf) (Paired.one ?_)
            have e := Kp.lst (o := .lst (hb.map V.ref ++ [.ref t])) hlh12 _ _ e12
            rw [h1] at e
            exact e
          · refine all_snoc hok ⟨⟨?_, ?_, h3, fun x hx => ?_⟩, by rw [h2, len]; omega⟩
            · rw [h2]
              obtain ⟨u, hu2⟩ : ∃ u, u ∈ us2 := by
                cases us2 with
                | nil => simp at hul2; omega
                | cons u _ => exact ⟨u, List.mem_cons_self⟩
              exact List.length_pos_of_mem ((mem2 u).mpr hu2)
            · rw [h2, len]
              omega
            · have := (hum2 _ ((mem2 _).mp (h4 x hx))).2
              omega
      · rintro σ H7 ⟨x6, x7, hb, hs, rfl, C7, k7, hlh7, hH, hsl, hok⟩
        rw [List.length_map] at hsl
        refine ⟨_, rfl, _, rfl, _, rfl, lh, _, rfl, .inl ⟨SqL.of hlh7, fun t ht => ?_⟩⟩
        refine alloc ht fun H8 s8 e8 => ?_
        refine ⟨(by show 3 ≤ sizeLine; decide), fun a ha => ?_⟩
        refine alloc ha fun H9 s9 e9 => ?_
        have S := s8.trans s9
        exact kq a ⟨W, us, hs⟩ H9 (C7.same S) ⟨pl, t, hb, e9, S _ _ (k7 _ _ (s6 _ _ e5)), s9 _ _ e8, HomesAt.kp hH (Kp.same S)⟩ ⟨by show 2 ≤ W; omega, by show W ≤ 24; omega, hul, hum, hsl, fun h hh => (hok h hh).1⟩ fun h hh => (hok h hh).2
end
end DL
namespace DL
open PySem L2 DLR
structure Cl (mg : Str → Option Value) where
  t2 : Tok
  t24 : Tok
  m2 : mg "LEAST_WIDE" = some (.int 2 t2)
  m24 : mg "MOST_WIDE" = some (.int 24 t24)
structure Ch (mg : Str → Option Value) where
  t3 : Tok
  m3 : mg "MOST_HOMES" = some (.int 3 t3)
abbrev sCheckWide : Stmt := top 33
abbrev sCheckPlaces : Stmt := top 34
abbrev sCheckHomes : Stmt := top 35
abbrev sAreHomes : Stmt := top 36
abbrev sCheckLaying : Stmt := top 32
abbrev FCheckWide (K : Frg) (mg : Str → Option Value) := Fd K mg "check_wide" sCheckWide ["wide"]
abbrev FCheckPlaces (K : Frg) (mg : Str → Option Value) := Fd K mg "check_places" sCheckPlaces ["places", "count", "wide"]
abbrev FCheckHomes (K : Frg) (mg : Str → Option Value) := Fd K mg "check_homes" sCheckHomes ["homes", "count", "wide"]
abbrev FAreHomes (K : Frg) (mg : Str → Option Value) := Fd K mg "are_homes" sAreHomes ["places", "wide"]
abbrev FCheckLaying (K : Frg) (mg : Str → Option Value) := Fd K mg "check_laying" sCheckLaying ["program", "laying"]
def spCheckWide : Sp := fun vs H Q _ => ∃ n : Int, vs = [.int n] ∧ 2 ≤ n ∧ n ≤ 24 ∧ Q .non H
def spCheckPlaces : Sp := fun vs H Q _ => ∃ (a : Addr) (us : List Nat) (W : Nat), vs = [.ref a, .int (us.length : Int), .int (W : Int)] ∧ H a = some (.tup (us.map nI)) ∧ us.length ≤ 100 ∧ (∀ x ∈ us, x < W) ∧ ∀ H', Same1 H H' → Q .non H'
def spAreHomes : Sp := fun vs H Q _ => ∃ (a : Addr) (h : List Nat) (W : Nat), vs = [.ref a, .int (W : Int)] ∧ H a = some (.tup (h.map nI)) ∧ HomeOk W h ∧ ∀ H', Same1 H H' → Q (.bl true) H'
def spCheckHomes : Sp := fun vs H Q _ => ∃ (a : Addr) (bs : List Addr) (hs : List (List Nat)) (W : Nat), vs = [.ref a, .int (hs.length : Int), .int (W : Int)] ∧ H a = some (.tup (bs.map V.ref)) ∧ HomesAt H bs hs ∧ hs.length ≤ 100 ∧ (∀ h ∈ hs, HomeOk W h) ∧ ∀ H', Same1 H H' → Q .non H'
def spCheckLaying : Sp := fun vs H Q _ => ∃ (a b : Addr) (p : Prog) (y : Lay), vs = [.ref a, .ref b] ∧ ProgAt H a p ∧ Good p ∧ LayAt H b y ∧ LayOk p y ∧ ∀ H', Same1 H H' → Q .non H'
theorem nI_ints (h : List Nat) : h.map nI = (h.map fun x : Nat => (x : Int)).map V.int := by
  rw [List.map_map]
  rfl
def intsD (l : List Int) : PyData := .list (l.map PyData.int)
theorem intsD_at {K : Frg} {H : Hp} : ∀ l : List Int, DpAll K H (l.map V.int) (l.map PyData.int)
  | [] => .nil
  | x :: l => .cons (.int x) (intsD_at l)
theorem intsD_lay : ∀ l : List Int, PyData.canLayAll0 (l.map PyData.int) = true
  | [] => by decide +kernel
  | x :: l => by
    show (PyData.canLay0 (.int x) && PyData.canLayAll0 (l.map PyData.int)) = true
    rw [intsD_lay l]
    rfl
theorem intsD_dep : ∀ l : List Int, PyData.depthAll (l.map PyData.int) ≤ 1
  | [] => by decide
  | x :: l => by
    have h := intsD_dep l
    show max (PyData.int x).depth (PyData.depthAll (l.map PyData.int)) ≤ 1
    have : (PyData.int x).depth ≤ 1 := by simp [PyData.depth]
    omega
theorem intsD_shaped (l : List Int) : SeqAt.shaped (intsD l) = true := by
  show (PyData.canLayAll0 (l.map PyData.int) && decide (PyData.depth (.list (l.map PyData.int)) ≤ 64)) = true
  rw [intsD_lay]
  refine decide_eq_true ?_
  have := intsD_dep l
  show _ + _ ≤ 64
  omega
theorem eq_ints {K : Frg} {H : Hp} {a b : Addr} {l : List Int} {Q : VK} (h1 : H a = some (.lst (l.map V.int))) (h2 : H b = some (.lst (l.map V.int))) (q : Q (.bl true) H) : rEqD K (.ref a) (.ref b) H Q := by
  refine ⟨intsD l, intsD l, .lst (SqL.of h1) (intsD_at l), .lst (SqL.of h2) (intsD_at l), intsD_shaped l, intsD_shaped l, ?_⟩
  rw [PySem.SeqAt.eqv_refl _ (SeqAt.canLay_of_shaped (intsD_shaped l))]
  exact q
section
variable {P : Program} {w : World} {K : PySem.W.Frag} {mg : Str → Option Value} {base : Heap}
theorem scCheckWide : FnScope ["wide"] ["wide"] (defScope sCheckWide) := ⟨rfl, rfl, rfl, by decide +kernel, rfl, by decide +kernel, by decide +kernel⟩
theorem ok_checkWide (c : FCheckWide K mg) (cIsBetween : FIsBetween K mg) (cIsNumber : FIsNumber K mg) (T : Bt mg) (L : Cl mg) : FnOk P w K mg base CX0 3 c.f c.fd ["wide"] spCheckWide := by
  have GIsBetween : FnOk P w K mg base CX0 2 cIsBetween.f cIsBetween.fd ["thing", "low", "high"] spBetween := ok_isBetween cIsBetween cIsNumber T
  refine c.F.ok scCheckWide (fun vs H Q E h => ?_) (fun cdv A outer s H vs Q E hr h => ?_)
  · obtain ⟨n, rfl, _⟩ := h
    rfl
  · obtain ⟨n, rfl, h1, h2, k⟩ := h
    refine ⟨_, (pss_one (ps_if (pt_not (pt_val (pe_call GIsBetween (hr.mono (by first | omega | decide)) (by rfl) cIsBetween.m cIsBetween.F.kp cIsBetween.b .nil pass0 (pa_cons (pv 0) (pa_cons (pe_glob rfl L.m2 relI) (pa_cons (pe_glob rfl L.m24 relI) pa_nil))))))
          (pss_one ps_never)
          pss_nil)), ?_⟩
    exact ⟨_, rfl, n, _, _, rfl, h1, h2, _, rfl, k⟩
abbrev nCheckPlaces : List Str := ["places", "count", "wide", "row", "place"]
theorem scCheckPlaces : FnScope nCheckPlaces ["places", "count", "wide"] (defScope sCheckPlaces) := ⟨rfl, rfl, rfl, by decide +kernel, rfl, by decide +kernel, by decide +kernel⟩
theorem ok_checkPlaces (c : FCheckPlaces K mg) (cIsBetween : FIsBetween K mg) (cIsNumber : FIsNumber K mg) (T : Bt mg) : FnOk P w K mg base CX0 3 c.f c.fd ["places", "count", "wide"] spCheckPlaces := by
  have GIsBetween : FnOk P w K mg base CX0 2 cIsBetween.f cIsBetween.fd ["thing", "low", "high"] spBetween := ok_isBetween cIsBetween cIsNumber T
  refine c.F.ok scCheckPlaces (fun vs H Q E h => ?_) (fun cdv A outer s H vs Q E hr h => ?_)
  · obtain ⟨a, us, W, rfl, _⟩ := h
    rfl
  · obtain ⟨a, us, W, rfl, h1, h100, hb, k⟩ := h
    refine ⟨_, (pss_cons (ps_if (PW.pt (pw_or (pt_not (pt_val (pe_callB call_isi (by rfl) T.isinstance (by decide +kernel) (pa_cons (pv 0) (pa_cons (pe_bltn (v := .ty "tuple") (by rfl) T.tuple (by decide +kernel) rfl) pa_nil))))) (pw_or1 (pt_cmpR op_ne (pe_callB call_len_seq (by rfl) T.len PySem.boot_len (pa_cons (pv 0) pa_nil)) (pv 1) (nomark _)))))
          (pss_one ps_never)
          pss_nil)
      (pss_one (ps_for PassesOwn.never rfl (pi_enumT (by rfl) T.enumerate (pa_cons (pv 0) pa_nil)) (pg_tup rfl (pgs_cons (pg_name (i := 3) scCheckPlaces.nd rfl (Or.inl rfl)) (pgs_cons (pg_name (i := 4) scCheckPlaces.nd rfl (Or.inl rfl)) pgs_nil)))
          (pss_one (ps_if (pt_not (pt_val (pe_call GIsBetween (hr.mono (by first | omega | decide)) (by rfl) cIsBetween.m cIsBetween.F.kp cIsBetween.b .nil pass0 (pa_cons (pv 4) (pa_cons pe_int (pa_cons (pe_op op_sub (pv 2) pe_int) pa_nil))))))
              (pss_one ps_never)
              pss_nil))))), ?_⟩
    refine ⟨_, rfl, _, _, _, _, true, rfl, .ty _, .base (.tup h1), kit_ty (by decide +kernel), _, rfl, ?_⟩
    refine ⟨_, rfl, a, _, rfl, .inr (SqT.of h1), _, rfl, rfl, _, rfl, ?_⟩
    rw [List.length_map, decide_eq_true (show V.int (us.length : Int) = V.int (us.length : Int) from rfl)]
    refine iteF ⟨_, rfl, a, _, rfl, SqT.of h1, for_enumT (K := K) (a := a) (xs := us.map nI) (fun i σ H' => ∃ x3 x4 : Option V, σ = [some (.ref a), some (.int (us.length : Int)), some (.int (W : Int)), x3, x4] ∧ Same1 H H') ⟨none, none, rfl, Same.refl _⟩
      (fun i σ H' ⟨_, _, _, q⟩ => SqT.of (q _ _ h1)) ?_ ?_⟩
    · rintro i x T' σ H1 hi ⟨x3, x4, rfl, s1⟩ hT'
      rw [List.getElem?_map] at hi
      cases hz : us[i]? with
      | none => rw [hz] at hi; cases hi
      | some z =>
        rw [hz] at hi
        have e : nI z = x := Option.some.inj hi
        subst e
        have hlt := hb z (List.mem_of_getElem? hz)
        refine alloc hT' fun H2 s2 e2 => ?_
        refine ⟨T', _, rfl, SqT.of e2, rfl, _, _, rfl, _, _, rfl, rfl, ?_⟩
        refine ⟨_, rfl, _, rfl, _, _, rfl, rfl, (z : Int), _, _, rfl, by omega, by omega, _, rfl, ?_⟩
        exact ⟨_, _, rfl, s1.trans s2⟩
    · rintro σ H1 ⟨x3, x4, rfl, s1⟩
      exact k _ s1
abbrev nAreHomes : List Str := ["places", "wide", "place"]
theorem scAreHomes : FnScope nAreHomes ["places", "wide"] (defScope sAreHomes) := ⟨rfl, rfl, rfl, by decide +kernel, rfl, by decide +kernel, by decide +kernel⟩
theorem ok_areHomes (c : FAreHomes K mg) (cIsBetween : FIsBetween K mg) (cIsNumber : FIsNumber K mg) (T : Bt mg) (TS : Bs mg) (LH : Ch mg) : FnOk P w K mg base CX0 3 c.f c.fd ["places", "wide"] spAreHomes := by
  have GIsBetween : FnOk P w K mg base CX0 2 cIsBetween.f cIsBetween.fd ["thing", "low", "high"] spBetween := ok_isBetween cIsBetween cIsNumber T
  refine c.F.ok scAreHomes (fun vs H Q E h => ?_) (fun cdv A outer s H vs Q E hr h => ?_)
  · obtain ⟨a, h, W, rfl, _⟩ := h
    rfl
  · obtain ⟨a, h, W, rfl, h1, hk, k⟩ := h
    have l1 := hk.l1
    have l3 := hk.l3
    refine ⟨_, (pss_cons (ps_if (PW.pt (pw_or (pt_not (pt_val (pe_callB call_isi (by rfl) T.isinstance (by decide +kernel) (pa_cons (pv 0) (pa_cons (pe_bltn (v := .ty "tuple") (by rfl) T.tuple (by decide +kernel) rfl) pa_nil))))) (pw_or1 (pt_not (pt_chain op_le op_le pe_int (pe_callB call_len_seq (by rfl) T.len PySem.boot_len (pa_cons (pv 0) pa_nil)) (pe_glob rfl LH.m3 relI))))))
          (pss_one (ps_ret pe_bl))
          pss_nil)
      (pss_cons (ps_if (pt_not (pt_val (pe_callB (cr_all rfl) (by rfl) T.all (by decide +kernel) (pa_cons (pe_lc (own := [("place", 2)]) (g := gName 2) (tt := tYes) rfl scAreHomes.nd (pi_tup (pv 0)) (blkOk_by (N := nAreHomes) (sc := defScope sAreHomes) (by decide +kernel)) (fun _ _ _ _ _ => (pg_name (i := 2) scAreHomes.nd rfl (Or.inl rfl))) (fun _ _ _ _ _ => pts_nil) (fun _ _ _ _ _ => (pe_call GIsBetween (hr.mono (by first | omega | decide)) (by rfl) cIsBetween.m cIsBetween.F.kp cIsBetween.b .nil pass0 (pa_cons (pv 2) (pa_cons pe_int (pa_cons (pe_op op_sub (pv 1) pe_int) pa_nil)))))) pa_nil))))
          (pss_one (ps_ret pe_bl))
          pss_nil)
      (pss_one (ps_ret (pe_cmpR (op_eqD hr.units) (pe_callTy call_list_of (by rfl) T.list (by decide +kernel) (pa_cons (pv 0) pa_nil)) (pe_callB (cr_sortedSet rfl) (by rfl) T.sorted (by decide +kernel) (pa_cons (pe_callTy (cr_setT rfl) (by rfl) TS.set (by decide +kernel) (pa_cons (pv 0) pa_nil)) pa_nil)) (nomark _)))))), ?_⟩
    refine ⟨_, rfl, _, _, _, _, true, rfl, .ty _, .base (.tup h1), kit_ty (by decide +kernel), _, rfl, ?_⟩
    refine ⟨_, rfl, a, _, rfl, .inr (SqT.of h1), _, _, rfl, rfl, _, rfl, ?_⟩
    rw [List.length_map, decide_eq_true (show (1 : Int) ≤ (h.length : Int) by omega)]
    refine iteT ⟨_, _, rfl, rfl, _, rfl, ?_⟩
    rw [decide_eq_true (show (h.length : Int) ≤ 3 by omega)]
    refine iteF ⟨_, rfl, a, rfl, ⟨_, SqT.of h1⟩, fun D hD => ?_⟩
    refine lc_tup (K := K) (a := a) (xs := h.map nI) (fun i H' => H' D = some (.lst ((List.replicate i true).map V.bl)) ∧ Same1 H H') ⟨upd_same, Same.new hD⟩ (fun i H' _ ⟨_, q⟩ => SqT.of (q _ _ h1)) ?_ ?_
    · rintro i x H3 hi ⟨hd, s3⟩
      rw [List.getElem?_map] at hi
      cases hz : h[i]? with
      | none => rw [hz] at hi; cases hi
      | some z =>
        rw [hz] at hi
        have e : nI z = x := Option.some.inj hi
        subst e
        have hlt := hk.lt z (List.mem_of_getElem? hz)
        have hil := (List.getElem?_eq_some_iff.mp hz).1
        refine ⟨rfl, _, rfl, _, rfl, _, _, rfl, rfl, (z : Int), _, _, rfl, by omega, by omega, _, hd, szl (by rw [List.length_map, List.length_replicate]; omega), ?_, Same.mut s3 hD⟩
        rw [upd_same, List.replicate_succ', List.map_append]
        rfl
    · rintro H3 ⟨hd, s3⟩
      refine ⟨D, _, rfl, SqL.of hd, ?_⟩
      rw [show (List.replicate (h.map nI).length true).all id = true by rw [List.all_eq_true]; intro x hx; rw [List.eq_of_mem_replicate hx]; rfl]
      refine ⟨_, rfl, iteF ?_⟩
      have h3 := s3 _ _ h1
      refine ⟨_, rfl, a, _, rfl, .inr (SqT.of h3), fun q1 hq1 => ?_⟩
      refine alloc hq1 fun H4 s4 e4 => ?_
      have h4 := s4 _ _ h3
      rw [nI_ints] at h4 e4
      refine ⟨_, rfl, a, _, rfl, SqT.of h4, by rw [List.length_map]; omega, fun sp c hc hsp => ?_⟩
      rw [List.length_map] at hc
      refine alloc hsp fun H5 s5 e5 => ?_
      refine ⟨sp, _, c, rfl, e5, by omega, fun ms q up mem len hq => ?_⟩
      refine alloc hq fun H6 s6 e6 => ?_
      have em : ms = h.map fun x : Nat => (x : Int) := by
        refine rise_uniq up ?_ fun x => (mem x).trans decide_eq_true_iff
        rw [List.pairwise_map]
        exact hk.up.imp fun {a b} z => by omega
      rw [em] at e6
      exact eq_ints ((s5.trans s6) _ _ e4) e6 (k _ (((s3.trans s4).trans s5).trans s6))
abbrev nCheckHomes : List Str := ["homes", "count", "wide", "worth", "places"]
theorem scCheckHomes : FnScope nCheckHomes ["homes", "count", "wide"] (defScope sCheckHomes) := ⟨rfl, rfl, rfl, by decide +kernel, rfl, by decide +kernel, by decide +kernel⟩
theorem ok_checkHomes (c : FCheckHomes K mg) (cAreHomes : FAreHomes K mg) (cIsBetween : FIsBetween K mg) (cIsNumber : FIsNumber K mg) (T : Bt mg) (TS : Bs mg) (LH : Ch mg) : FnOk P w K mg base CX0 4 c.f c.fd ["homes", "count", "wide"] spCheckHomes := by
  have GAreHomes : FnOk P w K mg base CX0 3 cAreHomes.f cAreHomes.fd ["places", "wide"] spAreHomes := ok_areHomes cAreHomes cIsBetween cIsNumber T TS LH
  refine c.F.ok scCheckHomes (fun vs H Q E h => ?_) (fun cdv A outer s H vs Q E hr h => ?_)
  · obtain ⟨a, bs, hs, W, rfl, _⟩ := h
    rfl
  · obtain ⟨a, bs, hs, W, rfl, h1, hH, h100, hok, k⟩ := h
    have hbl := Paired.length hH
    refine ⟨_, (pss_cons (ps_if (PW.pt (pw_or (pt_not (pt_val (pe_callB call_isi (by rfl) T.isinstance (by decide +kernel) (pa_cons (pv 0) (pa_cons (pe_bltn (v := .ty "tuple") (by rfl) T.tuple (by decide +kernel) rfl) pa_nil))))) (pw_or1 (pt_cmpR op_ne (pe_callB call_len_seq (by rfl) T.len PySem.boot_len (pa_cons (pv 0) pa_nil)) (pv 1) (nomark _)))))
          (pss_one ps_never)
          pss_nil)
      (pss_one (ps_for PassesOwn.never rfl (pi_enumT (by rfl) T.enumerate (pa_cons (pv 0) pa_nil)) (pg_tup rfl (pgs_cons (pg_name (i := 3) scCheckHomes.nd rfl (Or.inl rfl)) (pgs_cons (pg_name (i := 4) scCheckHomes.nd rfl (Or.inl rfl)) pgs_nil)))
          (pss_one (ps_if (pt_not (pt_val (pe_call GAreHomes (hr.mono (by first | omega | decide)) (by rfl) cAreHomes.m cAreHomes.F.kp cAreHomes.b .nil pass0 (pa_cons (pv 4) (pa_cons (pv 2) pa_nil)))))
              (pss_one ps_never)
              pss_nil))))), ?_⟩
    refine ⟨_, rfl, _, _, _, _, true, rfl, .ty _, .base (.tup h1), kit_ty (by decide +kernel), _, rfl, ?_⟩
    refine ⟨_, rfl, a, _, rfl, .inr (SqT.of h1), _, rfl, rfl, _, rfl, ?_⟩
    rw [List.length_map, hbl, decide_eq_true (show V.int (hs.length : Int) = V.int (hs.length : Int) from rfl)]
    refine iteF ⟨_, rfl, a, _, rfl, SqT.of h1, for_enumT (K := K) (a := a) (xs := bs.map V.ref) (fun i σ H' => ∃ x3 x4 : Option V, σ = [some (.ref a), some (.int (hs.length : Int)), some (.int (W : Int)), x3, x4] ∧ Same1 H H') ⟨none, none, rfl, Same.refl _⟩
      (fun i σ H' ⟨_, _, _, q⟩ => SqT.of (q _ _ h1)) ?_ ?_⟩
    · rintro i x T' σ H1 hi ⟨x3, x4, rfl, s1⟩ hT'
      have hih : i < hs.length := by
        have q := (List.getElem?_eq_some_iff.mp hi).1
        rwa [List.length_map, hbl] at q
      obtain ⟨b, hb1, hb2⟩ := Paired.getR hH (List.getElem?_eq_getElem hih)
      have ex : x = V.ref b := by
        rw [List.getElem?_map, hb1] at hi
        exact (Option.some.inj hi).symm
      subst ex
      refine alloc hT' fun H2 s2 e2 => ?_
      refine ⟨T', _, rfl, SqT.of e2, rfl, _, _, rfl, _, _, rfl, rfl, ?_⟩
      refine ⟨_, rfl, _, rfl, b, hs[i], W, rfl, (s1.trans s2) _ _ hb2, hok _ (List.getElem_mem hih), fun H3 s3 => ⟨_, rfl, ?_⟩⟩
      exact ⟨_, _, rfl, (s1.trans s2).trans s3⟩
    · rintro σ H1 ⟨x3, x4, rfl, s1⟩
      exact k _ s1
abbrev nCheckLaying : List Str := ["program", "laying", "worths", "rows", "wide"]
theorem scCheckLaying : FnScope nCheckLaying ["program", "laying"] (defScope sCheckLaying) := ⟨rfl, rfl, rfl, by decide +kernel, rfl, by decide +kernel, by decide +kernel⟩
theorem ok_checkLaying (c : FCheckLaying K mg) (cCheckWide : FCheckWide K mg) (cCheckPlaces : FCheckPlaces K mg) (cCheckHomes : FCheckHomes K mg) (cAreHomes : FAreHomes K mg) (cPart : FPart K mg) (cIsBetween : FIsBetween K mg) (cIsNumber : FIsNumber K mg) (T : Bt mg) (TS : Bs mg) (L : Cl mg) (LH : Ch mg) : FnOk P w K mg base CX0 5 c.f c.fd ["program", "laying"] spCheckLaying := by
  have GPart : FnOk P w K mg base CX0 1 cPart.f cPart.fd ["whole", "at"] spPart := ok_part cPart T
  have GCheckWide : FnOk P w K mg base CX0 3 cCheckWide.f cCheckWide.fd ["wide"] spCheckWide := ok_checkWide cCheckWide cIsBetween cIsNumber T L
  have GCheckPlaces : FnOk P w K mg base CX0 3 cCheckPlaces.f cCheckPlaces.fd ["places", "count", "wide"] spCheckPlaces := ok_checkPlaces cCheckPlaces cIsBetween cIsNumber T
  have GCheckHomes : FnOk P w K mg base CX0 4 cCheckHomes.f cCheckHomes.fd ["homes", "count", "wide"] spCheckHomes := ok_checkHomes cCheckHomes cAreHomes cIsBetween cIsNumber T TS LH
  refine c.F.ok scCheckLaying (fun vs H Q E h => ?_) (fun cdv A outer s H vs Q E hr h => ?_)
  · obtain ⟨a, b, p, y, rfl, _⟩ := h
    rfl
  · obtain ⟨a, b, p, y, rfl, ⟨wa, ra, bs, hpa, hwa, hra, hR⟩, g, ⟨pl, hl, cs, hb, hpl, hhl, hH⟩, yk, k⟩ := h
    have hbr := Paired.length hR
    have hR40 := g.r40
    have hW8 := g.w8
    have hpll := yk.pl
    have hhll := yk.hl
    have w2 := yk.w2
    have w24 := yk.w24
    refine ⟨_, (pss_cons (ps_asg (pv 0) (pg_tup rfl (pgs_cons (pg_name (i := 2) scCheckLaying.nd rfl (Or.inl rfl)) (pgs_cons (pg_name (i := 3) scCheckLaying.nd rfl (Or.inl rfl)) pgs_nil))))
      (pss_cons (ps_set (i := 4) scCheckLaying.nd rfl (Or.inl rfl) (pe_call GPart (hr.mono (by first | omega | decide)) (by rfl) cPart.m cPart.F.kp cPart.b .nil pass0 (pa_cons (pv 1) (pa_cons pe_int pa_nil))))
      (pss_cons (ps_expr (pe_call GCheckWide (hr.mono (by first | omega | decide)) (by rfl) cCheckWide.m cCheckWide.F.kp cCheckWide.b .nil pass0 (pa_cons (pv 4) pa_nil)))
      (pss_cons (ps_expr (pe_call GCheckPlaces (hr.mono (by first | omega | decide)) (by rfl) cCheckPlaces.m cCheckPlaces.F.kp cCheckPlaces.b .nil pass0 (pa_cons (pe_call GPart (hr.mono (by first | omega | decide)) (by rfl) cPart.m cPart.F.kp cPart.b .nil pass0 (pa_cons (pv 1) (pa_cons pe_int pa_nil))) (pa_cons (pe_callB call_len_seq (by rfl) T.len PySem.boot_len (pa_cons (pv 3) pa_nil)) (pa_cons (pv 4) pa_nil)))))
      (pss_cons (ps_expr (pe_call GCheckHomes (hr.mono (by first | omega | decide)) (by rfl) cCheckHomes.m cCheckHomes.F.kp cCheckHomes.b .nil pass0 (pa_cons (pe_call GPart (hr.mono (by first | omega | decide)) (by rfl) cPart.m cPart.F.kp cPart.b .nil pass0 (pa_cons (pv 1) (pa_cons pe_int pa_nil))) (pa_cons (pe_callB call_len_seq (by rfl) T.len PySem.boot_len (pa_cons (pv 2) pa_nil)) (pa_cons (pv 4) pa_nil)))))
      (pss_one (ps_if (pt_cmpR op_ne (pe_callB call_len_seq (by rfl) T.len PySem.boot_len (pa_cons (pv 1) pa_nil)) pe_int (nomark _))
          (pss_one ps_never)
          pss_nil))))))), ?_⟩
    refine ⟨_, rfl, a, _, rfl, SqT.of hpa, rfl, _, _, rfl, _, _, rfl, rfl, ?_⟩
    refine ⟨_, rfl, b, _, 0, _, rfl, hb, rfl, ?_⟩
    refine ⟨_, rfl, (y.wide : Int), rfl, by omega, by omega, ?_⟩
    refine ⟨_, rfl, b, _, 1, _, rfl, hb, rfl, _, rfl, ra, _, rfl, .inr (SqT.of hra), _, rfl, pl, y.places, y.wide, ?_, hpl, by omega, yk.pok, fun H1 s1 => ?_⟩
    · rw [List.length_map, hbr, hpll]
      rfl
    refine ⟨_, rfl, b, _, 2, _, rfl, s1 _ _ hb, rfl, _, rfl, wa, _, rfl, .inr (SqT.of (s1 _ _ hwa)), _, rfl, hl, cs, y.homes, y.wide, ?_, s1 _ _ hhl, HomesAt.kp hH (Kp.same s1), by omega, yk.hok, fun H2 s2 => ?_⟩
    · rw [List.length_map, hhll]
      rfl
    refine ⟨_, rfl, b, _, rfl, .inr (SqT.of ((s1.trans s2) _ _ hb)), rfl, _, rfl, ?_⟩
    rw [decide_eq_true (show V.int ((([nI y.wide, V.ref pl, V.ref hl] : List V).length : Nat) : Int) = V.int 3 from rfl)]
    exact iteF (k _ (s1.trans s2))
end
end DL
namespace DL
open PySem L2 DLR
def nx : Row → List Nat
  | .load _ n => [n]
  | .add _ n => [n]
  | .take _ n => [n]
  | .store _ n => [n]
  | .say n => [n]
  | .test a b => [a, b]
  | .stop => []
def tgt : Row → List Nat
  | .test a b => if a = b then [a] else if a < b then [a, b] else [b, a]
  | r => nx r
theorem tgt_test (a b : Nat) : tgt (.test a b) = if a = b then [a] else if a < b then [a, b] else [b, a] := rfl
theorem tgt_up (r : Row) : (tgt r).Pairwise (· < ·) := by
  cases r with
  | test a b =>
    rw [tgt_test]
    split
    · simp
    · split
      · simp; omega
      · simp; omega
  | stop => exact .nil
  | load _ n => exact List.pairwise_singleton _ _
  | add _ n => exact List.pairwise_singleton _ _
  | take _ n => exact List.pairwise_singleton _ _
  | store _ n => exact List.pairwise_singleton _ _
  | say n => exact List.pairwise_singleton _ _
theorem tgt_mem (r : Row) (x : Nat) : x ∈ tgt r ↔ x ∈ nx r := by
  cases r with
  | test a b =>
    rw [tgt_test, show nx (.test a b) = [a, b] from rfl]
    split
    · rename_i h
      subst h
      simp
    · split
      · exact Iff.rfl
      · simp only [List.mem_cons, List.not_mem_nil, or_false]
        exact Or.comm
  | _ => exact Iff.rfl
theorem tgt_len (r : Row) : (tgt r).length ≤ 2 := by
  cases r with
  | test a b =>
    rw [tgt_test]
    split
    · show 1 ≤ 2; decide
    · split <;> (show 2 ≤ 2; decide)
  | stop => show 0 ≤ 2; decide
  | _ => show 1 ≤ 2; decide
theorem nx_len (r : Row) : (nx r).length ≤ 2 := by cases r <;> simp [nx]
theorem tgt_of {r : Row} {ms : List Int} (up : ms.Pairwise (· < ·)) (mem : ∀ x : Int, x ∈ ms ↔ decide (x ∈ (nx r).map fun n : Nat => (n : Int)) = true) : ms = (tgt r).map fun n : Nat => (n : Int) := by
  refine rise_uniq up ?_ fun x => (mem x).trans (decide_eq_true_iff.trans ?_)
  · rw [List.pairwise_map]
    exact (tgt_up r).imp fun {a b} z => by omega
  · constructor <;> intro h <;> obtain ⟨n, hn, rfl⟩ := List.mem_map.mp h
    · exact List.mem_map.mpr ⟨n, (tgt_mem r n).mpr hn, rfl⟩
    · exact List.mem_map.mpr ⟨n, (tgt_mem r n).mp hn, rfl⟩
def goesN (rows : List Row) (i : Nat) : List (Nat × Nat) := (List.range i).flatMap fun k => (tgt (rows.getD k .stop)).map fun t => (k, t)
theorem goesN_succ (rows : List Row) (i : Nat) : goesN rows (i + 1) = goesN rows i ++ (tgt (rows.getD i .stop)).map fun t => (i, t) := by
  unfold goesN
  rw [List.range_succ, List.flatMap_append]
  simp
theorem goesN_len (rows : List Row) : ∀ i, (goesN rows i).length ≤ 2 * i
  | 0 => Nat.le_refl 0
  | i + 1 => by
    rw [goesN_succ, List.length_append, List.length_map]
    have := goesN_len rows i
    have := tgt_len (rows.getD i .stop)
    omega
def pairVs (g : Nat × Nat) : List V := [nI g.1, nI g.2]
abbrev PairsL (H : Hp) (bs : List Addr) (L : List (Nat × Nat)) : Prop := Paired (fun b g => H b = some (.tup (pairVs g))) bs L
theorem PairsL.kp {H H' : Hp} {bs : List Addr} {L : List (Nat × Nat)} (h : PairsL H bs L) (k : Kp H H') : PairsL H' bs L := Paired.mapP h fun b x e => k _ _ e
abbrev sNexts : Stmt := top 20
abbrev sAhead : Stmt := top 21
abbrev sGoesMay : Stmt := top 22
abbrev FNexts (K : Frg) (mg : Str → Option Value) := Fd K mg "nexts" sNexts ["row"]
abbrev FAhead (K : Frg) (mg : Str → Option Value) := Fd K mg "rows_ahead" sAhead ["row"]
abbrev FGoesMay (K : Frg) (mg : Str → Option Value) := Fd K mg "goes_that_may_be" sGoesMay ["program"]
def spNexts : Sp := fun vs H Q _ => ∃ (a : Addr) (r : Row), vs = [.ref a] ∧ H a = some (.tup (rowVs r)) ∧ ∀ t H', Same1 H H' → H' t = some (.tup ((nx r).map nI)) → Q (.ref t) H'
def spAhead : Sp := fun vs H Q _ => ∃ (a : Addr) (r : Row), vs = [.ref a] ∧ H a = some (.tup (rowVs r)) ∧ ∀ q H', Same1 H H' → H q = none → H' q = some (.lst ((tgt r).map nI)) → Q (.ref q) H'
def spGoesMay : Sp := fun vs H Q _ => ∃ (a : Addr) (p : Prog), vs = [.ref a] ∧ ProgAt H a p ∧ Good p ∧ ∀ l bs H', Same1 H H' → H l = none → H' l = some (.lst (bs.map V.ref)) → PairsL H' bs (goesN p.rows p.rows.length) → Q (.ref l) H'
theorem nx_drop (r : Row) : (if r.uses = true then (rowVs r).drop 2 else (rowVs r).drop 1) = (nx r).map nI := by cases r <;> rfl
theorem dropn (n : Nat) {xs : List V} : cutV xs (some (n : Int)) none = xs.drop n := by
  unfold cutV
  have e : HT.sIx xs.length 0 (some (n : Int)) = min n xs.length := HT.sIx_nat _ _ n
  rw [e, HT.sIx_none]
  rcases Nat.le_total n xs.length with q | q
  · rw [Nat.min_eq_left q]
    exact List.take_of_length_le (by rw [List.length_drop]; omega)
  · rw [Nat.min_eq_right q, List.drop_eq_nil_of_le q, List.drop_eq_nil_of_le (Nat.le_refl _)]
    exact List.take_nil
section
variable {P : Program} {w : World} {K : PySem.W.Frag} {mg : Str → Option Value} {base : Heap}
theorem scNexts : FnScope ["row"] ["row"] (defScope sNexts) := ⟨rfl, rfl, rfl, by decide +kernel, rfl, by decide +kernel, by decide +kernel⟩
theorem ok_nexts (c : FNexts K mg) (cUsesWorth : FUsesWorth K mg) (Z : Pt K w mg) : FnOk P w K mg base CX0 2 c.f c.fd ["row"] spNexts := by
  have GUsesWorth : FnOk P w K mg base CX0 1 cUsesWorth.f cUsesWorth.fd ["row"] spUses := ok_usesWorth cUsesWorth Z
  refine c.F.ok scNexts (fun vs H Q E h => ?_) (fun cdv A outer s H vs Q E hr h => ?_)
  · obtain ⟨a, r, rfl, _⟩ := h
    rfl
  · obtain ⟨a, r, rfl, ha, k⟩ := h
    refine ⟨_, (pss_cons (ps_if (pt_val (pe_call GUsesWorth (hr.mono (by first | omega | decide)) (by rfl) cUsesWorth.m cUsesWorth.F.kp cUsesWorth.b .nil pass0 (pa_cons (pv 0) pa_nil)))
          (pss_one (ps_ret (pe_slice sl_tupS (pv 0) (po_some pe_int) po_none)))
          pss_nil)
      (pss_one (ps_ret (pe_slice sl_tupS (pv 0) (po_some pe_int) po_none)))), ?_⟩
    have e := nx_drop r
    refine ⟨_, rfl, a, r, rfl, ha, _, rfl, ?_⟩
    cases hu : r.uses with
    | true =>
      rw [hu, if_pos rfl] at e
      refine iteT ⟨_, rfl, _, rfl, a, _, rfl, ha, fun t H' s' h' => k t H' s' ?_⟩
      rw [h', ← e]
      exact congrArg (fun z => some (HO.tup z)) (dropn 2)
    | false =>
      rw [hu, if_neg (by decide)] at e
      refine iteF ⟨_, rfl, _, rfl, a, _, rfl, ha, fun t H' s' h' => k t H' s' ?_⟩
      rw [h', ← e]
      exact congrArg (fun z => some (HO.tup z)) (dropn 1)
theorem scAhead : FnScope ["row"] ["row"] (defScope sAhead) := ⟨rfl, rfl, rfl, by decide +kernel, rfl, by decide +kernel, by decide +kernel⟩
theorem ok_ahead (c : FAhead K mg) (cNexts : FNexts K mg) (cUsesWorth : FUsesWorth K mg) (T : Bt mg) (TS : Bs mg) (Z : Pt K w mg) : FnOk P w K mg base CX0 3 c.f c.fd ["row"] spAhead := by
  have GNexts : FnOk P w K mg base CX0 2 cNexts.f cNexts.fd ["row"] spNexts := ok_nexts cNexts cUsesWorth Z
  refine c.F.ok scAhead (fun vs H Q E h => ?_) (fun cdv A outer s H vs Q E hr h => ?_)
  · obtain ⟨a, r, rfl, _⟩ := h
    rfl
  · obtain ⟨a, r, rfl, ha, k⟩ := h
    refine ⟨_, (pss_one (ps_ret (pe_callB (cr_sortedSet rfl) (by rfl) T.sorted (by decide +kernel) (pa_cons (pe_callTy (cr_setT rfl) (by rfl) TS.set (by decide +kernel) (pa_cons (pe_call GNexts (hr.mono (by first | omega | decide)) (by rfl) cNexts.m cNexts.F.kp cNexts.b .nil pass0 (pa_cons (pv 0) pa_nil)) pa_nil)) pa_nil)))), ?_⟩
    refine ⟨_, rfl, a, r, rfl, ha, fun t H4 s4 e4 => ?_⟩
    rw [nI_ints] at e4
    have hnl := nx_len r
    refine ⟨t, _, rfl, SqT.of e4, by rw [List.length_map]; omega, fun sp c hc hsp => ?_⟩
    rw [List.length_map] at hc
    refine alloc hsp fun H5 s5 e5 => ?_
    refine ⟨sp, _, c, rfl, e5, by omega, fun ms q up mem len hq => ?_⟩
    have em := tgt_of up mem
    refine alloc hq fun H6 s6 e6 => ?_
    rw [em] at e6
    refine k q H6 ((s4.trans s5).trans s6) (s4.free (s5.free hq)) ?_
    rw [e6, nI_ints]
abbrev nGoesMay : List Str := ["program", "pairs", "number", "row", "to"]
theorem scGoesMay : FnScope nGoesMay ["program"] (defScope sGoesMay) := ⟨rfl, rfl, rfl, by decide +kernel, rfl, by decide +kernel, by decide +kernel⟩
theorem ok_goesMay (c : FGoesMay K mg) (cAhead : FAhead K mg) (cNexts : FNexts K mg) (cUsesWorth : FUsesWorth K mg) (T : Bt mg) (TS : Bs mg) (Z : Pt K w mg) : FnOk P w K mg base CX0 4 c.f c.fd ["program"] spGoesMay := by
  have GAhead : FnOk P w K mg base CX0 3 cAhead.f cAhead.fd ["row"] spAhead := ok_ahead cAhead cNexts cUsesWorth T TS Z
  refine c.F.ok scGoesMay (fun vs H Q E h => ?_) (fun cdv A outer s H vs Q E hr h => ?_)
  · obtain ⟨a, p, rfl, _⟩ := h
    rfl
  · obtain ⟨a, p, rfl, ⟨wa, ra, bs, hpa, hwa, hra, hR⟩, g, k⟩ := h
    have hbr := Paired.length hR
    have hR40 := g.r40
    refine ⟨_, (pss_cons (ps_set (i := 1) scGoesMay.nd rfl (Or.inl rfl) (pe_lst pa_nil))
      (pss_cons (ps_for PassesOwn.never rfl (pi_enumT (by rfl) T.enumerate (pa_cons (pe_ix ix_tup (pv 0) pe_int (fun _ _ => rfl)) pa_nil)) (pg_tup rfl (pgs_cons (pg_name (i := 2) scGoesMay.nd rfl (Or.inr rfl)) (pgs_cons (pg_name (i := 3) scGoesMay.nd rfl (Or.inl rfl)) pgs_nil)))
          (pss_one (ps_expr (pe_bm PySem.F.plainAttrs_list PySem.F.slot_list_extend PySem.F.type_list_extend mt_extend (pv 1) (pa_cons (pe_lc (own := [("to", 4)]) (g := gName 4) (tt := tYes) rfl scGoesMay.nd (pi_list (pe_call GAhead (hr.mono (by first | omega | decide)) (by rfl) cAhead.m cAhead.F.kp cAhead.b .nil pass0 (pa_cons (pv 3) pa_nil))) (blkOk_by (N := nGoesMay) (sc := defScope sGoesMay) (by decide +kernel)) (fun _ _ _ _ _ => (pg_name (i := 4) scGoesMay.nd rfl (Or.inl rfl))) (fun _ _ _ _ _ => pts_nil) (fun _ _ _ _ _ => (pe_tup (pa_cons (pv 2) (pa_cons (pv 4) pa_nil))))) pa_nil)))))
      (pss_one (ps_ret (pv 1))))), ?_⟩
    refine ⟨Nat.zero_le _, fun l hl => ?_⟩
    refine alloc hl fun H1 s1 e1 => ?_
    refine ⟨_, rfl, a, _, _, _, rfl, rfl, SqT.of (s1 _ _ hpa), at1, ra, _, rfl, SqT.of (s1 _ _ hra), for_enumT (K := K) (a := ra) (xs := bs.map V.ref) (fun i σ H' => ∃ (x2 x3 : Option V) (cs : List Addr), σ = [some (.ref a), some (.ref l), x2, x3, none] ∧ Same1 H H' ∧ H' l = some (.lst (cs.map V.ref)) ∧ PairsL H' cs (goesN p.rows i))
      ⟨none, none, [], rfl, s1, e1, .nil⟩ (fun i σ H' ⟨_, _, _, _, q, _⟩ => SqT.of (q _ _ hra)) ?_ ?_⟩
    · rintro i x T' σ H2 hi ⟨x2, x3, cs, rfl, s2, hl2, hC⟩ hT'
      have hir : i < p.rows.length := by
        have q := (List.getElem?_eq_some_iff.mp hi).1
        rwa [List.length_map, hbr] at q
      obtain ⟨b, hb1, hb2⟩ := Paired.getR hR (List.getElem?_eq_getElem hir)
      have er : p.rows.getD i .stop = p.rows[i] := by rw [List.getD_eq_getElem?_getD, List.getElem?_eq_getElem hir]; rfl
      have ex : x = V.ref b := by
        rw [List.getElem?_map, hb1] at hi
        exact (Option.some.inj hi).symm
      subst ex
      have hcl := Paired.length hC
      have hgl := goesN_len p.rows i
      refine alloc hT' fun H3 s3 e3 => ?_
      refine ⟨T', _, rfl, SqT.of e3, rfl, _, _, rfl, _, _, rfl, rfl, ?_⟩
      refine ⟨_, rfl, .inl ⟨rfl, _, SqL.of (s3 _ _ hl2)⟩, ?_⟩
      refine ⟨_, rfl, b, p.rows[i], rfl, (s2.trans s3) _ _ hb2, fun q H6 s36 hq0 e6 => ?_⟩
      rw [nI_ints] at e6
      have S6 := s3.trans s36
      have htl := tgt_len p.rows[i]
      refine ⟨q, rfl, ⟨_, SqL.of e6⟩, fun D hD => ?_⟩
      have nqD : q ≠ D := ne_of_none e6 hD
      have nlD : l ≠ D := ne_of_none (S6 _ _ hl2) hD
      refine lc_list (K := K) (a := q) (xs := ((tgt p.rows[i]).map fun n : Nat => (n : Int)).map V.int) (fun j H' => ∃ ds : List Addr, Same1 H6 H' ∧ H' D = some (.lst (ds.map V.ref)) ∧ PairsL H' ds (((tgt p.rows[i]).map fun t => (i, t)).take j))
        ⟨[], Same.new hD, upd_same, .nil⟩ (fun j H' _ ⟨_, q2, _⟩ => SqL.of (q2 _ _ e6)) ?_ ?_
      · rintro j x H7 hj ⟨ds, s7, hD7, hd⟩
        rw [List.getElem?_map, List.getElem?_map] at hj
        cases hz : (tgt p.rows[i])[j]? with
        | none => rw [hz] at hj; cases hj
        | some z =>
          rw [hz] at hj
          have e : V.int ((z : Nat) : Int) = x := Option.some.inj hj
          subst e
          have hdl := Paired.length hd
          rw [List.length_take] at hdl
          have hjl := (List.getElem?_eq_some_iff.mp hz).1
          refine ⟨rfl, _, rfl, _, rfl, (by show 2 ≤ sizeLine; decide), fun t2 ht2 => ?_⟩
          refine alloc ht2 fun H8 s8 e8 => ?_
          have hD8 := s8 _ _ hD7
          refine ⟨_, hD8, szl (by rw [List.length_map]; omega), ds ++ [t2], Same.mut (s7.trans s8) hD, by rw [upd_same, List.map_append]; rfl, ?_⟩
          rw [List.take_add_one, List.getElem?_map, hz]
          refine PairsL.kp (Paired.app (PairsL.kp hd (Kp.same s8)) (Paired.one ?_)) (Kp.lst hD8)
          show H8 t2 = some (.tup [.int (i : Int), .int (z : Int)])
          rw [e8]
      · rintro H7 ⟨ds, s7, hD7, hd⟩
        rw [List.length_map, List.length_map] at hd
        rw [List.take_of_length_le (by rw [List.length_map]; exact Nat.le_refl _)] at hd
        have hdl := Paired.length hd
        rw [List.length_map] at hdl
        have hl7 := (S6.trans s7) _ _ hl2
        refine ⟨l, D, _, _, rfl, rfl, hl7, hD7, sz (by rw [List.length_map, List.length_map]; omega), ?_⟩
        refine ⟨_, _, cs ++ ds, rfl, Same.mut ((s2.trans S6).trans s7) hl, by rw [upd_same, List.map_append], ?_⟩
        rw [goesN_succ, er]
        exact PairsL.kp (Paired.app (PairsL.kp hC (Kp.same (S6.trans s7))) hd) (Kp.lst hl7)
    · rintro σ H2 ⟨x2, x3, cs, rfl, s2, hl2, hC⟩
      rw [List.length_map, hbr] at hC
      exact ⟨_, rfl, k l cs H2 s2 hl hl2 hC⟩
end
end DL
namespace DL
open PySem L2 DLR
def fb (now : Int) (place wide : Nat) : Int := now + ((place : Int) - now) % (wide : Int)
def maxL : List Int → Int
  | [] => 0
  | [x] => x
  | x :: y :: l => max x (maxL (y :: l))
def minL : List Int → Int
  | [] => 0
  | [x] => x
  | x :: y :: l => min x (minL (y :: l))
theorem maxL_spec : ∀ {l : List Int}, 0 < l.length → maxL l ∈ l ∧ ∀ y ∈ l, y ≤ maxL l
  | [], h => absurd h (by decide)
  | [x], _ => ⟨List.mem_cons_self, fun y hy => by rw [List.mem_singleton.mp hy]; exact Int.le_refl _⟩
  | x :: z :: l, _ => by
    obtain ⟨h1, h2⟩ := maxL_spec (l := z :: l) (Nat.succ_pos _)
    show max x (maxL (z :: l)) ∈ _ ∧ ∀ y ∈ _, y ≤ max x (maxL (z :: l))
    refine ⟨?_, fun y hy => ?_⟩
    · rcases Int.le_total x (maxL (z :: l)) with q | q
      · rw [Int.max_eq_right q]; exact List.mem_cons_of_mem _ h1
      · rw [Int.max_eq_left q]; exact List.mem_cons_self
    · rcases List.mem_cons.mp hy with e | e
      · rw [e]; omega
      · have := h2 y e
        omega
theorem minL_spec : ∀ {l : List Int}, 0 < l.length → minL l ∈ l ∧ ∀ y ∈ l, minL l ≤ y
  | [], h => absurd h (by decide)
  | [x], _ => ⟨List.mem_cons_self, fun y hy => by rw [List.mem_singleton.mp hy]; exact Int.le_refl _⟩
  | x :: z :: l, _ => by
    obtain ⟨h1, h2⟩ := minL_spec (l := z :: l) (Nat.succ_pos _)
    show min x (minL (z :: l)) ∈ _ ∧ ∀ y ∈ _, min x (minL (z :: l)) ≤ y
    refine ⟨?_, fun y hy => ?_⟩
    · rcases Int.le_total x (minL (z :: l)) with q | q
      · rw [Int.min_eq_left q]; exact List.mem_cons_self
      · rw [Int.min_eq_right q]; exact List.mem_cons_of_mem _ h1
    · rcases List.mem_cons.mp hy with e | e
      · rw [e]; omega
      · have := h2 y e
        omega
theorem maxL_is {l : List Int} {m : Int} (h : m ∈ l) (g : ∀ y ∈ l, y ≤ m) : m = maxL l := by
  obtain ⟨a, b⟩ := maxL_spec (List.length_pos_of_mem h)
  have := b m h
  have := g _ a
  omega
theorem minL_is {l : List Int} {m : Int} (h : m ∈ l) (g : ∀ y ∈ l, m ≤ y) : m = minL l := by
  obtain ⟨a, b⟩ := minL_spec (List.length_pos_of_mem h)
  have := b m h
  have := g _ a
  omega
def comesL (us : List Nat) (read : Int) (W : Nat) : List Int := us.map fun h => fb (read + 1) h W
def comes (y : Lay) (w : Nat) (read : Int) : List Int := comesL (y.homes.getD w []) read y.wide
theorem first_last {ms ns : List Int} (pm : ms.Perm ns) (up : ms.Pairwise (· ≤ ·)) (h : 0 < ns.length) : atI (ms.map V.int) 0 = some (.int (minL ns)) ∧ atI (ms.map V.int) (-1) = some (.int (maxL ns)) := by
  have hl : 0 < ms.length := by rw [pm.length_eq]; exact h
  have pos : ∀ i j (hi : i < ms.length) (hj : j < ms.length), i ≤ j → ms[i] ≤ ms[j] := by
    intro i j hi hj le
    rcases Nat.lt_or_eq_of_le le with q | q
    · exact List.pairwise_iff_getElem.mp up i j hi hj q
    · subst q; exact Int.le_refl _
  constructor
  · have e : ms[0] = minL ns := by
      refine minL_is (pm.mem_iff.mp (List.getElem_mem hl)) fun y hy => ?_
      obtain ⟨j, hj, rfl⟩ := List.mem_iff_getElem.mp (pm.mem_iff.mpr hy)
      exact pos 0 j hl hj (Nat.zero_le _)
    rw [← e]
    exact atI_nat (j := 0) (by rw [List.getElem?_map, List.getElem?_eq_getElem hl]; rfl)
  · have hk : ms.length - 1 < ms.length := by omega
    have e : ms[ms.length - 1] = maxL ns := by
      refine maxL_is (pm.mem_iff.mp (List.getElem_mem hk)) fun y hy => ?_
      obtain ⟨j, hj, rfl⟩ := List.mem_iff_getElem.mp (pm.mem_iff.mpr hy)
      exact pos j _ hj hk (by omega)
    rw [← e]
    have e2 : ms = ms.dropLast ++ [ms[ms.length - 1]] := by
      rw [← List.getLast_eq_getElem (List.ne_nil_of_length_pos hl)]
      exact (List.dropLast_concat_getLast _).symm
    refine (congrArg (fun z => atI (z.map V.int) (-1)) e2).trans ?_
    rw [List.map_append]
    exact atI_last _ _
theorem cut1 : ∀ {ns : List Int}, ns.length ≤ 3 → cutV (ns.map V.int) none (some 1) = (ns.take 1).map V.int
  | [], _ => rfl
  | [x], _ => rfl
  | [x, y], _ => rfl
  | [x, y, z], _ => rfl
  | _ :: _ :: _ :: _ :: _, h => absurd h (by simp only [List.length_cons]; omega)

def useF (y : Lay) (read : Int) : Row → Int
  | .load w _ => minL (comes y w read)
  | .add w _ => minL (comes y w read)
  | .take w _ => minL (comes y w read)
  | .store w _ => maxL (comes y w read)
  | _ => read
def work : Row → Int
  | .load _ _ => 1
  | .add _ _ => 2
  | .take _ _ => 2
  | .store _ _ => 1
  | .say _ => 3
  | .test _ _ => 1
  | .stop => 0
def behindF (y : Lay) (r : Row) (read : Int) : Int := useF y read r + work r + 1
def costF (y : Lay) (rows : List Row) (b t : Nat) : Int := fb (behindF y (rows.getD b .stop) ((y.places.getD b 0 : Nat) : Int)) (y.places.getD t 0) y.wide - ((y.places.getD b 0 : Nat) : Int)
structure Pw (K : Frg) (w : World) (mg : Str → Option Value) where
  d : Addr
  es : Array DictEntry
  n : Nat
  m : mg "WORK" = some (.ref d)
  kd : KDict K w d es n
  at_ : ∀ r : Row, ∃ t : Tok, PySem.W.nsIn K d r.word = some (some (.int (work r) t))
theorem Pw.get {K : Frg} {w : World} {mg : Str → Option Value} (Z : Pw K w mg) (r : Row) : KDct K w Z.d r.word (.int (work r)) := by
  obtain ⟨t, h⟩ := Z.at_ r
  exact ⟨_, _, _, Z.kd.at_, Z.kd.lit, h, ⟨t, rfl⟩⟩
structure Bm (mg : Str → Option Value) : Prop where
  min : mg "min" = none
abbrev sFirstBeat : Stmt := top 37
abbrev sBeatsOfUse : Stmt := top 38
abbrev sBeatOfUse : Stmt := top 39
abbrev sBeatBehind : Stmt := top 40
abbrev sCost : Stmt := top 41
abbrev sCosts : Stmt := top 42
abbrev FFirstBeat (K : Frg) (mg : Str → Option Value) := Fd K mg "first_beat" sFirstBeat ["now", "place", "wide"]
abbrev FBeatsOfUse (K : Frg) (mg : Str → Option Value) := Fd K mg "beats_of_use" sBeatsOfUse ["word", "places", "read", "wide"]
abbrev FBeatOfUse (K : Frg) (mg : Str → Option Value) := Fd K mg "beat_of_use" sBeatOfUse ["row", "read", "laying"]
abbrev FBeatBehind (K : Frg) (mg : Str → Option Value) := Fd K mg "beat_behind" sBeatBehind ["row", "read", "laying"]
abbrev FCost (K : Frg) (mg : Str → Option Value) := Fd K mg "cost" sCost ["program", "laying", "begin", "to"]
abbrev FCosts (K : Frg) (mg : Str → Option Value) := Fd K mg "costs" sCosts ["program", "laying"]
def spFirstBeat : Sp := fun vs H Q _ => ∃ (now : Int) (place W : Nat), vs = [.int now, .int (place : Int), .int (W : Int)] ∧ 0 < W ∧ Q (.int (fb now place W)) H
def UseL (st : Bool) (us : List Nat) (read : Int) (W : Nat) (ms : List Int) : Prop := ∃ ns : List Int, ns.Perm (comesL us read W) ∧ ns.Pairwise (· ≤ ·) ∧ ms = if st = true then ns else ns.take 1
def spBeatsOfUse : Sp := fun vs H Q _ => ∃ (x : Str) (a : Addr) (us : List Nat) (read : Int) (W : Nat), vs = [.str x, .ref a, .int read, .int (W : Int)] ∧ H a = some (.tup (us.map nI)) ∧ us.length ≤ 3 ∧ 0 < W ∧
  ∀ q ms H', Same1 H H' → H q = none → H' q = some (.lst (ms.map V.int)) → UseL (decide (V.str x = V.str "store")) us read W ms → Q (.ref q) H'
def spBeatOfUse : Sp := fun vs H Q _ => ∃ (a b : Addr) (r : Row) (read : Int) (y : Lay) (N : Nat), vs = [.ref a, .int read, .ref b] ∧ H a = some (.tup (rowVs r)) ∧ LayAt H b y ∧ 2 ≤ y.wide ∧ (∀ h ∈ y.homes, HomeOk y.wide h) ∧ r.ok y.homes.length N ∧
  ∀ H', Same1 H H' → Q (.int (useF y read r)) H'
def spBeatBehind : Sp := fun vs H Q _ => ∃ (a b : Addr) (r : Row) (read : Int) (y : Lay) (N : Nat), vs = [.ref a, .int read, .ref b] ∧ H a = some (.tup (rowVs r)) ∧ LayAt H b y ∧ 2 ≤ y.wide ∧ (∀ h ∈ y.homes, HomeOk y.wide h) ∧ r.ok y.homes.length N ∧
  ∀ H', Same1 H H' → Q (.int (behindF y r read)) H'
def spCost : Sp := fun vs H Q _ => ∃ (a b : Addr) (p : Prog) (y : Lay) (i t : Nat), vs = [.ref a, .ref b, .int (i : Int), .int (t : Int)] ∧ ProgAt H a p ∧ Good p ∧ LayAt H b y ∧ LayOk p y ∧ i < p.rows.length ∧ t < p.rows.length ∧
  ∀ H', Same1 H H' → Q (.int (costF y p.rows i t)) H'
def costVs (y : Lay) (rows : List Row) (g : Nat × Nat) : List V := [nI g.1, nI g.2, .int (costF y rows g.1 g.2)]
def spCosts : Sp := fun vs H Q _ => ∃ (a b : Addr) (p : Prog) (y : Lay), vs = [.ref a, .ref b] ∧ ProgAt H a p ∧ Good p ∧ LayAt H b y ∧ LayOk p y ∧
  ∀ l bs H', Same1 H H' → H l = none → H' l = some (.lst (bs.map V.ref)) → Paired (fun b g => H' b = some (.tup (costVs y p.rows g))) bs (goesN p.rows p.rows.length) → Q (.ref l) H'
section
variable {P : Program} {w : World} {K : PySem.W.Frag} {mg : Str → Option Value} {base : Heap}
theorem scFirstBeat : FnScope ["now", "place", "wide"] ["now", "place", "wide"] (defScope sFirstBeat) := ⟨rfl, rfl, rfl, by decide +kernel, rfl, by decide +kernel, by decide +kernel⟩
theorem ok_firstBeat (c : FFirstBeat K mg) : FnOk P w K mg base CX0 1 c.f c.fd ["now", "place", "wide"] spFirstBeat := by
  refine c.F.ok scFirstBeat (fun vs H Q E h => ?_) (fun cdv A outer s H vs Q E hr h => ?_)
  · obtain ⟨n, pl, W, rfl, _⟩ := h
    rfl
  · obtain ⟨n, pl, W, rfl, h0, k⟩ := h
    refine ⟨_, (pss_one (ps_ret (pe_op op_add (pv 0) (pe_op op_mod (pe_op op_sub (pv 1) (pv 0)) (pv 2))))), ?_⟩
    exact ⟨_, rfl, _, rfl, _, rfl, _, _, rfl, rfl, _, rfl, _, _, rfl, rfl, (by omega), _, _, rfl, rfl, k⟩
abbrev nBeatsOfUse : List Str := ["word", "places", "read", "wide", "comes", "place"]
theorem scBeatsOfUse : FnScope nBeatsOfUse ["word", "places", "read", "wide"] (defScope sBeatsOfUse) := ⟨rfl, rfl, rfl, by decide +kernel, rfl, by decide +kernel, by decide +kernel⟩
theorem ok_beatsOfUse (c : FBeatsOfUse K mg) (cFirstBeat : FFirstBeat K mg) (T : Bt mg) : FnOk P w K mg base CX0 2 c.f c.fd ["word", "places", "read", "wide"] spBeatsOfUse := by
  have GFirstBeat : FnOk P w K mg base CX0 1 cFirstBeat.f cFirstBeat.fd ["now", "place", "wide"] spFirstBeat := ok_firstBeat cFirstBeat
  refine c.F.ok scBeatsOfUse (fun vs H Q E h => ?_) (fun cdv A outer s H vs Q E hr h => ?_)
  · obtain ⟨x, a, us, read, W, rfl, _⟩ := h
    rfl
  · obtain ⟨x, a, us, read, W, rfl, ha, l3, w0, k⟩ := h
    refine ⟨_, (pss_cons (ps_set (i := 4) scBeatsOfUse.nd rfl (Or.inl rfl) (pe_callB cr_sortedI (by rfl) T.sorted (by decide +kernel) (pa_cons (pe_lc (own := [("place", 5)]) (g := gName 5) (tt := tYes) rfl scBeatsOfUse.nd (pi_tup (pv 1)) (blkOk_by (N := nBeatsOfUse) (sc := defScope sBeatsOfUse) (by decide +kernel)) (fun _ _ _ _ _ => (pg_name (i := 5) scBeatsOfUse.nd rfl (Or.inl rfl))) (fun _ _ _ _ _ => pts_nil) (fun _ _ _ _ _ => (pe_call GFirstBeat (hr.mono (by first | omega | decide)) (by rfl) cFirstBeat.m cFirstBeat.F.kp cFirstBeat.b .nil pass0 (pa_cons (pe_op op_add (pv 2) pe_int) (pa_cons (pv 5) (pa_cons (pv 3) pa_nil)))))) pa_nil)))
      (pss_cons (ps_if (pt_cmpR op_eq (pv 0) pe_str (nomark _))
          (pss_one (ps_ret (pv 4)))
          pss_nil)
      (pss_one (ps_ret (pe_slice sl_list (pv 4) po_none (po_some pe_int)))))), ?_⟩
    refine ⟨_, rfl, a, rfl, ⟨_, SqT.of ha⟩, fun D hD => ?_⟩
    refine lc_tup (K := K) (a := a) (xs := us.map nI) (fun i H' => Same1 H H' ∧ H' D = some (.lst (((comesL us read W).take i).map V.int))) ⟨Same.new hD, upd_same⟩ (fun i H' _ ⟨q, _⟩ => SqT.of (q _ _ ha)) ?_ ?_
    · rintro i z H1 hi ⟨s1, hD1⟩
      rw [List.getElem?_map] at hi
      cases hz : us[i]? with
      | none => rw [hz] at hi; cases hi
      | some h =>
        rw [hz] at hi
        have e : nI h = z := Option.some.inj hi
        subst e
        have hil := (List.getElem?_eq_some_iff.mp hz).1
        refine ⟨rfl, _, rfl, _, _, rfl, rfl, _, rfl, _, rfl, read + 1, h, W, rfl, w0, ?_⟩
        refine ⟨_, hD1, szl (by rw [List.length_map, List.length_take]; omega), Same.mut s1 hD, ?_⟩
        rw [upd_same, List.take_add_one]
        unfold comesL
        rw [List.getElem?_map, hz, List.map_append]
        rfl
    · rintro H1 ⟨s1, hD1⟩
      have hcl : (comesL us read W).length = us.length := by unfold comesL; rw [List.length_map]
      rw [List.length_map, ← hcl, List.take_length] at hD1
      refine ⟨D, _, rfl, SqL.of hD1, fun ns q pm up hq => ?_⟩
      have hnl : ns.length ≤ 3 := by rw [pm.length_eq, hcl]; exact l3
      refine alloc hq fun H2 s2 e2 => ?_
      refine ⟨_, rfl, rfl, _, rfl, ?_⟩
      cases hs : decide (V.str x = V.str "store") with
      | true =>
        rw [hs] at k
        exact iteT ⟨_, rfl, k q ns H2 (s1.trans s2) (s1.free hq) e2 ⟨ns, pm, up, rfl⟩⟩
      | false =>
        rw [hs] at k
        refine iteF ⟨_, rfl, _, rfl, q, _, rfl, SqL.of e2, fun t ht => ?_⟩
        refine alloc ht fun H3 s3 e3 => ?_
        refine k t (ns.take 1) H3 ((s1.trans s2).trans s3) (s1.free (s2.free ht)) ?_ ⟨ns, pm, up, rfl⟩
        rw [e3, cut1 hnl]
abbrev nBeatOfUse : List Str := ["row", "read", "laying", "wide", "_", "homes"]
theorem scBeatOfUse : FnScope nBeatOfUse ["row", "read", "laying"] (defScope sBeatOfUse) := ⟨rfl, rfl, rfl, by decide +kernel, rfl, by decide +kernel, by decide +kernel⟩
theorem useL_last {st : Bool} {us : List Nat} {read : Int} {W : Nat} {ms : List Int} (h : UseL st us read W ms) (l1 : 0 < us.length) : atI (ms.map V.int) (-1) = some (.int (if st = true then maxL (comesL us read W) else minL (comesL us read W))) := by
  obtain ⟨ns, pm, up, rfl⟩ := h
  have hcl : 0 < (comesL us read W).length := by unfold comesL; rw [List.length_map]; exact l1
  obtain ⟨f0, f1⟩ := first_last pm up hcl
  cases st with
  | true => exact f1
  | false =>
    match ns with
    | [] => rw [if_neg (by decide)]; exact absurd f0 (by intro z; cases z)
    | x :: t =>
      have e := at0.symm.trans f0
      show atI [V.int x] (-1) = _
      exact (atI_last [] (V.int x)).trans e
theorem ok_beatOfUse (c : FBeatOfUse K mg) (cBeatsOfUse : FBeatsOfUse K mg) (cFirstBeat : FFirstBeat K mg) (cUsesWorth : FUsesWorth K mg) (T : Bt mg) (Z : Pt K w mg) : FnOk P w K mg base CX0 3 c.f c.fd ["row", "read", "laying"] spBeatOfUse := by
  have GBeatsOfUse : FnOk P w K mg base CX0 2 cBeatsOfUse.f cBeatsOfUse.fd ["word", "places", "read", "wide"] spBeatsOfUse := ok_beatsOfUse cBeatsOfUse cFirstBeat T
  have GUsesWorth : FnOk P w K mg base CX0 1 cUsesWorth.f cUsesWorth.fd ["row"] spUses := ok_usesWorth cUsesWorth Z
  refine c.F.ok scBeatOfUse (fun vs H Q E h => ?_) (fun cdv A outer s H vs Q E hr h => ?_)
  · obtain ⟨a, b, r, read, y, N, rfl, _⟩ := h
    rfl
  · obtain ⟨a, b, r, read, y, N, rfl, ha, ⟨pl, hl, cs, hb, hpl, hhl, hH⟩, w2, hok, ho, k⟩ := h
    have hcl := Paired.length hH
    refine ⟨_, (pss_cons (ps_asg (pv 2) (pg_tup rfl (pgs_cons (pg_name (i := 3) scBeatOfUse.nd rfl (Or.inl rfl)) (pgs_cons (pg_name (i := 4) scBeatOfUse.nd rfl (Or.inl rfl)) (pgs_cons (pg_name (i := 5) scBeatOfUse.nd rfl (Or.inl rfl)) pgs_nil)))))
      (pss_cons (ps_if (pt_not (pt_val (pe_call GUsesWorth (hr.mono (by first | omega | decide)) (by rfl) cUsesWorth.m cUsesWorth.F.kp cUsesWorth.b .nil pass0 (pa_cons (pv 0) pa_nil))))
          (pss_one (ps_ret (pv 1)))
          pss_nil)
      (pss_one (ps_ret (pe_ix ix_list (pe_call GBeatsOfUse (hr.mono (by first | omega | decide)) (by rfl) cBeatsOfUse.m cBeatsOfUse.F.kp cBeatsOfUse.b .nil pass0 (pa_cons (pe_ix ix_tup (pv 0) pe_int (fun _ _ => rfl)) (pa_cons (pe_ix ix_tup (pv 5) (pe_ix ix_tup (pv 0) pe_int (fun _ _ => rfl)) (fun _ _ => rfl)) (pa_cons (pv 1) (pa_cons (pv 3) pa_nil))))) (pe_un un_neg pe_int) (fun _ _ => rfl)))))), ?_⟩
    refine ⟨_, rfl, b, _, rfl, SqT.of hb, rfl, _, _, rfl, _, _, rfl, _, _, rfl, rfl, ?_⟩
    refine ⟨_, rfl, a, r, rfl, ha, _, rfl, ?_⟩
    cases hu : r.uses with
    | false =>
      refine iteT ⟨_, rfl, ?_⟩
      have e : useF y read r = read := by cases r <;> first | rfl | cases hu
      have q := k H (Same.refl _)
      rw [e] at q
      exact q
    | true =>
      have hx1 : ∃ x : Nat, (rowVs r)[1]? = some (.int (x : Int)) ∧ x < y.homes.length ∧ useF y read r = if r.isWd "store" = true then maxL (comes y x read) else minL (comes y x read) := by
        have e := (Row.wd_eq r).2.1
        cases r with
        | load x n => exact ⟨x, rfl, ho.1, by rw [e]; rfl⟩
        | add x n => exact ⟨x, rfl, ho.1, by rw [e]; rfl⟩
        | take x n => exact ⟨x, rfl, ho.1, by rw [e]; rfl⟩
        | store x n => exact ⟨x, rfl, ho.1, by rw [e]; rfl⟩
        | say n => cases hu
        | test a b => cases hu
        | stop => cases hu
      obtain ⟨x, hx, hxl, heq⟩ := hx1
      obtain ⟨cb, hcb1, hcb2⟩ := Paired.getR hH (List.getElem?_eq_getElem hxl)
      have hcV : (cs.map V.ref)[x]? = some (.ref cb) := by rw [List.getElem?_map, hcb1]; rfl
      have hk := hok _ (List.getElem_mem hxl)
      have l1 := hk.l1
      have l3 := hk.l3
      have eg : y.homes.getD x [] = y.homes[x] := by rw [List.getD_eq_getElem?_getD, List.getElem?_eq_getElem hxl]; rfl
      refine iteF ⟨_, rfl, a, _, _, _, rfl, rfl, SqT.of ha, atI_nat (j := 0) (Row.w0 r), _, rfl, _, rfl, a, _, _, _, rfl, rfl, SqT.of ha, atI_nat (j := 1) hx, hl, _, _, _, rfl, rfl, SqT.of hhl, atI_nat hcV, _, rfl, _, rfl, r.word, cb, y.homes[x], read, y.wide, rfl, hcb2, by omega, by omega, fun q ms H1 s1 nq e1 hU => ?_⟩
      refine ⟨_, rfl, q, _, _, _, rfl, rfl, SqL.of e1, useL_last hU (by omega), ?_⟩
      have z := k H1 s1
      rw [heq] at z
      unfold comes at z
      rw [eg] at z
      exact z
theorem scBeatBehind : FnScope ["row", "read", "laying"] ["row", "read", "laying"] (defScope sBeatBehind) := ⟨rfl, rfl, rfl, by decide +kernel, rfl, by decide +kernel, by decide +kernel⟩
theorem ok_beatBehind (c : FBeatBehind K mg) (cBeatOfUse : FBeatOfUse K mg) (cBeatsOfUse : FBeatsOfUse K mg) (cFirstBeat : FFirstBeat K mg) (cUsesWorth : FUsesWorth K mg) (T : Bt mg) (Z : Pt K w mg) (ZW : Pw K w mg) : FnOk P w K mg base CX0 4 c.f c.fd ["row", "read", "laying"] spBeatBehind := by
  have GBeatOfUse : FnOk P w K mg base CX0 3 cBeatOfUse.f cBeatOfUse.fd ["row", "read", "laying"] spBeatOfUse := ok_beatOfUse cBeatOfUse cBeatsOfUse cFirstBeat cUsesWorth T Z
  refine c.F.ok scBeatBehind (fun vs H Q E h => ?_) (fun cdv A outer s H vs Q E hr h => ?_)
  · obtain ⟨a, b, r, read, y, N, rfl, _⟩ := h
    rfl
  · obtain ⟨a, b, r, read, y, N, rfl, ha, hy, w2, hok, ho, k⟩ := h
    refine ⟨_, (pss_one (ps_ret (pe_op op_add (pe_op op_add (pe_call GBeatOfUse (hr.mono (by first | omega | decide)) (by rfl) cBeatOfUse.m cBeatOfUse.F.kp cBeatOfUse.b .nil pass0 (pa_cons (pv 0) (pa_cons (pv 1) (pa_cons (pv 2) pa_nil)))) (pe_ix ix_kdict (pe_glob (v := .ref ZW.d) rfl ZW.m rfl) (pe_ix ix_tup (pv 0) pe_int (fun _ _ => rfl)) (fun _ _ => rfl))) pe_int))), ?_⟩
    refine ⟨_, rfl, _, rfl, _, rfl, a, b, r, read, y, N, rfl, ha, hy, w2, hok, ho, fun H1 s1 => ?_⟩
    refine ⟨_, rfl, a, _, _, _, rfl, rfl, SqT.of (s1 _ _ ha), atI_nat (j := 0) (Row.w0 r), ZW.d, _, _, rfl, rfl, ZW.get r, _, _, rfl, rfl, _, _, rfl, rfl, k H1 s1⟩
abbrev nCost : List Str := ["program", "laying", "begin", "to", "wide", "places", "_", "read", "behind"]
theorem scCost : FnScope nCost ["program", "laying", "begin", "to"] (defScope sCost) := ⟨rfl, rfl, rfl, by decide +kernel, rfl, by decide +kernel, by decide +kernel⟩
theorem nI_at {l : List Nat} {i : Nat} (h : i < l.length) : (l.map nI)[i]? = some (.int ((l.getD i 0 : Nat) : Int)) := by
  rw [List.getElem?_map, List.getD_eq_getElem?_getD, List.getElem?_eq_getElem h]
  rfl
theorem ok_cost (c : FCost K mg) (cBeatBehind : FBeatBehind K mg) (cBeatOfUse : FBeatOfUse K mg) (cBeatsOfUse : FBeatsOfUse K mg) (cFirstBeat : FFirstBeat K mg) (cUsesWorth : FUsesWorth K mg) (T : Bt mg) (Z : Pt K w mg) (ZW : Pw K w mg) : FnOk P w K mg base CX0 5 c.f c.fd ["program", "laying", "begin", "to"] spCost := by
  have GBeatBehind : FnOk P w K mg base CX0 4 cBeatBehind.f cBeatBehind.fd ["row", "read", "laying"] spBeatBehind := ok_beatBehind cBeatBehind cBeatOfUse cBeatsOfUse cFirstBeat cUsesWorth T Z ZW
  have GFirstBeat : FnOk P w K mg base CX0 1 cFirstBeat.f cFirstBeat.fd ["now", "place", "wide"] spFirstBeat := ok_firstBeat cFirstBeat
  refine c.F.ok scCost (fun vs H Q E h => ?_) (fun cdv A outer s H vs Q E hr h => ?_)
  · obtain ⟨a, b, p, y, i, t, rfl, _⟩ := h
    rfl
  · obtain ⟨a, b, p, y, i, t, rfl, ⟨wa, ra, bs, hpa, hwa, hra, hR⟩, g, ⟨pl, hl, cs, hb, hpl, hhl, hH⟩, yk, hi, ht, k⟩ := h
    have er : p.rows.getD i .stop = p.rows[i] := by rw [List.getD_eq_getElem?_getD, List.getElem?_eq_getElem hi]; rfl
    obtain ⟨rb, hb1, hb2⟩ := Paired.getR hR (List.getElem?_eq_getElem hi)
    have hbV : (bs.map V.ref)[i]? = some (.ref rb) := by rw [List.getElem?_map, hb1]; rfl
    have w2 := yk.w2
    refine ⟨_, (pss_cons (ps_asg (pv 1) (pg_tup rfl (pgs_cons (pg_name (i := 4) scCost.nd rfl (Or.inl rfl)) (pgs_cons (pg_name (i := 5) scCost.nd rfl (Or.inl rfl)) (pgs_cons (pg_name (i := 6) scCost.nd rfl (Or.inl rfl)) pgs_nil)))))
      (pss_cons (ps_set (i := 7) scCost.nd rfl (Or.inl rfl) (pe_ix ix_tup (pv 5) (pv 2) (fun _ _ => rfl)))
      (pss_cons (ps_set (i := 8) scCost.nd rfl (Or.inl rfl) (pe_call GBeatBehind (hr.mono (by first | omega | decide)) (by rfl) cBeatBehind.m cBeatBehind.F.kp cBeatBehind.b .nil pass0 (pa_cons (pe_ix ix_tup (pe_ix ix_tup (pv 0) pe_int (fun _ _ => rfl)) (pv 2) (fun _ _ => rfl)) (pa_cons (pv 7) (pa_cons (pv 1) pa_nil)))))
      (pss_one (ps_ret (pe_op op_sub (pe_call GFirstBeat (hr.mono (by first | omega | decide)) (by rfl) cFirstBeat.m cFirstBeat.F.kp cFirstBeat.b .nil pass0 (pa_cons (pv 8) (pa_cons (pe_ix ix_tup (pv 5) (pv 3) (fun _ _ => rfl)) (pa_cons (pv 4) pa_nil)))) (pv 7))))))), ?_⟩
    refine ⟨_, rfl, b, _, rfl, SqT.of hb, rfl, _, _, rfl, _, _, rfl, _, _, rfl, rfl, ?_⟩
    refine ⟨_, rfl, _, rfl, pl, _, _, _, rfl, rfl, SqT.of hpl, atI_nat (nI_at (by rw [yk.pl]; exact hi)), ?_⟩
    refine ⟨_, rfl, a, _, _, _, rfl, rfl, SqT.of hpa, at1, _, rfl, ra, _, _, _, rfl, rfl, SqT.of hra, atI_nat hbV, _, rfl, _, rfl, rb, b, p.rows[i], _, y, p.rows.length, rfl, hb2, ⟨pl, hl, cs, hb, hpl, hhl, hH⟩, w2, yk.hok, ?_, fun H1 s1 => ?_⟩
    · rw [yk.hl]
      exact g.ok _ (List.getElem_mem hi)
    refine ⟨_, rfl, _, rfl, _, rfl, pl, _, _, _, rfl, rfl, SqT.of (s1 _ _ hpl), atI_nat (nI_at (by rw [yk.pl]; exact ht)), _, rfl, _, _, _, rfl, by omega, _, rfl, _, _, rfl, rfl, ?_⟩
    have q := k H1 s1
    unfold costF at q
    rw [er] at q
    exact q
abbrev nCosts : List Str := ["program", "laying", "begin", "to"]
theorem scCosts : FnScope nCosts ["program", "laying"] (defScope sCosts) := ⟨rfl, rfl, rfl, by decide +kernel, rfl, by decide +kernel, by decide +kernel⟩
end
end DL
namespace DL
open PySem L2 DLR
theorem whileE {c : TT} {tb : TS} {D : Ends} {σ : L2.St} {H : Hp} (W : Nat → L2.St → Hp → Prop) (R : L2.St → Hp → Prop) (w0 : ∃ m, W m σ H) (key : ∀ σ' H', R σ' H' → D.nx σ' H')
    (turn : ∀ Nx : L2.St → Hp → Prop, (∀ σ' H', R σ' H' → Nx σ' H') → ∀ m σ H, W m σ H → c σ H fun b H1 => if b = true then ∃ N : L2.St → Hp → Prop, (∀ σ' H', N σ' H' → ∃ m', m' < m ∧ W m' σ' H') ∧ tb { D with nx := N, ct := N, bk := D.nx } σ H1 else Nx σ H1) :
    tWhile c tb D σ H := ⟨W, w0, fun m σ H w => turn D.nx key m σ H w⟩
theorem fb_mod {now : Int} {place W : Nat} (h : place < W) : fb now place W % (W : Int) = (place : Int) := by
  unfold fb
  rw [Int.add_comm, Int.emod_add_emod, Int.sub_add_cancel, Int.emod_eq_of_lt (by omega) (by omega)]
theorem fb_ge {now : Int} {place W : Nat} (h : 0 < W) : now ≤ fb now place W ∧ fb now place W < now + (W : Int) := by
  have a := Int.emod_nonneg ((place : Int) - now) (show (W : Int) ≠ 0 by omega)
  have b := Int.emod_lt_of_pos ((place : Int) - now) (show (0 : Int) < (W : Int) by omega)
  unfold fb
  omega
theorem fb_uniq {now x : Int} {place W : Nat} (h : place < W) (h1 : now ≤ x) (h2 : x ≤ fb now place W) (e : x % (W : Int) = (place : Int)) : x = fb now place W := by
  have b := (fb_ge (now := now) (place := place) (show 0 < W by omega)).2
  have m : (fb now place W - x) % (W : Int) = 0 := by
    rw [Int.sub_emod, fb_mod h, e, Int.sub_self, Int.zero_emod]
  rw [Int.emod_eq_of_lt (by omega) (by omega)] at m
  omega
theorem goesN_mem {rows : List Row} {n u v : Nat} (h : (u, v) ∈ goesN rows n) : u < n ∧ v ∈ tgt (rows.getD u .stop) := by
  obtain ⟨k, hk, h2⟩ := List.mem_flatMap.mp h
  obtain ⟨t, ht, e⟩ := List.mem_map.mp h2
  have e1 := congrArg Prod.fst e
  have e2 := congrArg Prod.snd e
  dsimp only at e1 e2
  subst e1 e2
  exact ⟨List.mem_range.mp hk, ht⟩
theorem nx_lt {r : Row} {W N : Nat} (h : r.ok W N) : ∀ x ∈ nx r, x < N := by
  cases r with
  | load w n => intro x hx; rw [List.mem_singleton.mp hx]; exact h.2
  | add w n => intro x hx; rw [List.mem_singleton.mp hx]; exact h.2
  | take w n => intro x hx; rw [List.mem_singleton.mp hx]; exact h.2
  | store w n => intro x hx; rw [List.mem_singleton.mp hx]; exact h.2
  | say n => intro x hx; rw [List.mem_singleton.mp hx]; exact h
  | test a b =>
    intro x hx
    rcases List.mem_cons.mp hx with e | e
    · rw [e]; exact h.1
    · rw [List.mem_singleton.mp e]; exact h.2
  | stop => intro x hx; cases hx
theorem goesN_lt {p : Prog} (g : Good p) {u v : Nat} (h : (u, v) ∈ goesN p.rows p.rows.length) : u < p.rows.length ∧ v < p.rows.length := by
  obtain ⟨h1, h2⟩ := goesN_mem h
  have er : p.rows.getD u .stop = p.rows[u] := by rw [List.getD_eq_getElem?_getD, List.getElem?_eq_getElem h1]; rfl
  rw [er] at h2
  exact ⟨h1, nx_lt (g.ok _ (List.getElem_mem h1)) v ((tgt_mem _ _).mp h2)⟩
def spWait : Sp := fun vs H Q _ => ∃ (now : Int) (place W : Nat), vs = [.int now, .int (place : Int), .int (W : Int)] ∧ place < W ∧ Q (.int (fb now place W)) H
def kAd : Key := .inr "add"
def kTk : Key := .inr "take"
def kSy : Key := .inr "say"
def kSp : Key := .inr "stop"
theorem extra (r : Row) : (valV (mergeK [] [(kAd, V.int 2), (kTk, V.int 2), (kSy, V.int 3), (kSp, V.int 0)]) (.inr r.word)).getD (.int 1) = .int (work r) := by
  cases r <;> (dsimp only [Row.word, work]; decide +kernel)
theorem store_at (r : Row) : (0 : Int) - (if decide (V.str r.word = V.str "store") = true then 1 else 0) = if r.isWd "store" = true then -1 else 0 := by
  show (0 : Int) - (if r.isWd "store" = true then 1 else 0) = _
  cases r.isWd "store" <;> decide
section
variable {P : Program} {w : World} {K : PySem.W.Frag} {mg : Str → Option Value} {base : Heap}
theorem ok_costs (c : FCosts K mg) (cCheckProgram : FCheckProgram K mg) (cCheckLaying : FCheckLaying K mg) (cGoesThatMayBe : FGoesMay K mg) (cCost : FCost K mg)
    (GCheckProgram : FnOk P w K mg base CX0 4 cCheckProgram.f cCheckProgram.fd ["program"] spCheckProgram) (GCheckLaying : FnOk P w K mg base CX0 5 cCheckLaying.f cCheckLaying.fd ["program", "laying"] spCheckLaying)
    (GGoesThatMayBe : FnOk P w K mg base CX0 4 cGoesThatMayBe.f cGoesThatMayBe.fd ["program"] spGoesMay) (GCost : FnOk P w K mg base CX0 5 cCost.f cCost.fd ["program", "laying", "begin", "to"] spCost) : FnOk P w K mg base CX0 6 c.f c.fd ["program", "laying"] spCosts := by
  refine c.F.ok scCosts (fun vs H Q E h => ?_) (fun cdv A outer s H vs Q E hr h => ?_)
  · obtain ⟨a, b, p, y, rfl, _⟩ := h
    rfl
  · obtain ⟨a, b, p, y, rfl, hP, g, hY, yk, k⟩ := h
    have hR40 := g.r40
    refine ⟨_, (pss_cons (ps_expr (pe_call GCheckProgram (hr.mono (by first | omega | decide)) (by rfl) cCheckProgram.m cCheckProgram.F.kp cCheckProgram.b .nil pass0 (pa_cons (pv 0) pa_nil)))
      (pss_cons (ps_expr (pe_call GCheckLaying (hr.mono (by first | omega | decide)) (by rfl) cCheckLaying.m cCheckLaying.F.kp cCheckLaying.b .nil pass0 (pa_cons (pv 0) (pa_cons (pv 1) pa_nil))))
      (pss_one (ps_ret (pe_lc (own := [("begin", 2), ("to", 3)]) (g := gTup K 2 (gCons (gName 2) (gCons (gName 3) gNil))) (tt := tYes) rfl scCosts.nd (pi_list (pe_call GGoesThatMayBe (hr.mono (by first | omega | decide)) (by rfl) cGoesThatMayBe.m cGoesThatMayBe.F.kp cGoesThatMayBe.b .nil pass0 (pa_cons (pv 0) pa_nil))) (blkOk_by (N := nCosts) (sc := defScope sCosts) (by decide +kernel)) (fun _ _ _ _ _ => (pg_tupK K rfl rfl (pgs_cons (pg_name (i := 2) scCosts.nd rfl (Or.inl rfl)) (pgs_cons (pg_name (i := 3) scCosts.nd rfl (Or.inl rfl)) pgs_nil)))) (fun _ _ _ _ _ => pts_nil) (fun _ _ _ _ _ => (pe_tup (pa_cons (pv 2) (pa_cons (pv 3) (pa_cons (pe_call GCost (hr.mono (by first | omega | decide)) (by rfl) cCost.m cCost.F.kp cCost.b .nil pass0 (pa_cons (pv 0) (pa_cons (pv 1) (pa_cons (pv 2) (pa_cons (pv 3) pa_nil))))) pa_nil)))))))))), ?_⟩
    refine ⟨_, rfl, a, p, rfl, hP, g, fun H1 s1 => ?_⟩
    refine ⟨_, rfl, _, rfl, a, b, p, y, rfl, hP.kp (Kp.same s1), g, hY.kp (Kp.same s1), yk, fun H2 s2 => ?_⟩
    refine ⟨_, rfl, a, p, rfl, hP.kp (Kp.same (s1.trans s2)), g, fun l cs H3 s3 nl e3 hC => ?_⟩
    have S3 := (s1.trans s2).trans s3
    have hgl := goesN_len p.rows p.rows.length
    have hcl := Paired.length hC
    refine ⟨l, rfl, ⟨_, SqL.of e3⟩, fun D hD => ?_⟩
    refine lc_list (K := K) (a := l) (xs := cs.map V.ref) (fun i H' => ∃ ds : List Addr, Same1 H3 H' ∧ H' D = some (.lst (ds.map V.ref)) ∧ Paired (fun b g => H' b = some (.tup (costVs y p.rows g))) ds ((goesN p.rows p.rows.length).take i))
      ⟨[], Same.new hD, upd_same, .nil⟩ (fun i H' _ ⟨_, q, _⟩ => SqL.of (q _ _ e3)) ?_ ?_
    · rintro i x H4 hi ⟨ds, s4, hD4, hd⟩
      have hic : i < cs.length := by
        have q := (List.getElem?_eq_some_iff.mp hi).1
        rwa [List.length_map] at q
      have ex : x = .ref cs[i] := by
        rw [List.getElem?_map, List.getElem?_eq_getElem hic] at hi
        exact (Option.some.inj hi).symm
      subst ex
      obtain ⟨⟨u, v⟩, hq1, hq2⟩ := Paired.get hC (List.getElem?_eq_getElem hic)
      have hdl := Paired.length hd
      rw [List.length_take] at hdl
      obtain ⟨hu, hv⟩ := goesN_lt g (List.mem_of_getElem? hq1)
      have hb4 := s4 _ _ hq2
      refine ⟨cs[i], _, rfl, SqT.of hb4, rfl, _, _, rfl, _, _, rfl, rfl, ?_⟩
      refine ⟨rfl, _, rfl, _, rfl, _, rfl, _, rfl, _, rfl, _, rfl, a, b, p, y, u, v, rfl, hP.kp (Kp.same (S3.trans s4)), g, hY.kp (Kp.same (S3.trans s4)), yk, hu, hv, fun H5 s5 => ?_⟩
      refine ⟨(by show 3 ≤ sizeLine; decide), fun t ht => ?_⟩
      refine alloc ht fun H6 s6 e6 => ?_
      have S := s5.trans s6
      have hD6 := S _ _ hD4
      refine ⟨_, hD6, szl (by rw [List.length_map]; omega), ds ++ [t], Same.mut (s4.trans S) hD, by rw [upd_same, List.map_append]; rfl, ?_⟩
      rw [List.take_add_one, hq1]
      exact Paired.mapP (Paired.app (Paired.mapP hd fun b q h => S _ _ h) (Paired.one e6)) fun b q h => Kp.lst hD6 _ _ h
    · rintro H4 ⟨ds, s4, hD4, hd⟩
      rw [List.length_map, hcl, List.take_length] at hd
      exact k D ds H4 (S3.trans s4) (S3.free hD) hD4 hd
end
end DL
namespace DL
open PySem L2 DLR
def spOver : Sp := fun vs H Q _ => ∃ (a b : Addr) (r : Row) (read : Int) (y : Lay) (N : Nat), vs = [.ref a, .ref b, .int read] ∧ H a = some (.tup (rowVs r)) ∧ LayAt H b y ∧ 2 ≤ y.wide ∧ (∀ h ∈ y.homes, HomeOk y.wide h) ∧ r.ok y.homes.length N ∧
  ∀ H', Same1 H H' → Q (.int (behindF y r read)) H'
def spLCost : Sp := fun vs H Q _ => ∃ (ra b : Addr) (bs : List Addr) (p : Prog) (y : Lay) (i t : Nat), vs = [.ref ra, .ref b, .int (i : Int), .int (t : Int)] ∧ H ra = some (.tup (bs.map V.ref)) ∧ RowsAt H bs p.rows ∧ Good p ∧ LayAt H b y ∧ LayOk p y ∧ i < p.rows.length ∧ t < p.rows.length ∧
  ∀ H', Same1 H H' → Q (.int (costF y p.rows i t)) H'
section
variable {P : Program} {w : World} {K : PySem.W.Frag} {mg : Str → Option Value} {base : Heap}
abbrev nOver : List Str := ["_law_row", "_law_laying_here", "_law_beat", "_law_now", "_law_some", "_law_place"]
abbrev nLCost : List Str := ["_law_rows", "_law_laying_here", "_law_here", "_law_other", "_law_begin"]
end
end DL
namespace DL
open PySem L2 DLR
/-! ### the goes of a run: each may be, each once; they agree; from row 0 they come to all rows gone from -/
def cntV (e : (Int × Int) × V) : Int := gcount (some e.2)
def sumBy (f : Int × Int → Bool) (g : GL) : Int := (g.map fun e => if f e.1 = true then cntV e else 0).sum
theorem sumBy_cons (f : Int × Int → Bool) (e : (Int × Int) × V) (g : GL) : sumBy f (e :: g) = (if f e.1 = true then cntV e else 0) + sumBy f g := by
  unfold sumBy
  rw [List.map_cons, List.sum_cons]
theorem sumBy_app (f : Int × Int → Bool) : ∀ (g h : GL), sumBy f (g ++ h) = sumBy f g + sumBy f h
  | [], h => by unfold sumBy; simp
  | e :: g, h => by
    rw [List.cons_append, sumBy_cons, sumBy_cons, sumBy_app f g h]
    omega
theorem put_in {g : GL} {q : Int × Int} {v : V} (h : q ∈ g.map (·.1)) : putK g q v = g.map fun x => if x.1 = q then (x.1, v) else x := by
  unfold putK
  rw [if_pos]
  obtain ⟨e, he, hq⟩ := List.mem_map.mp h
  exact List.any_eq_true.mpr ⟨e, he, decide_eq_true hq⟩
theorem put_out {g : GL} {q : Int × Int} {v : V} (h : q ∉ g.map (·.1)) : putK g q v = g ++ [(q, v)] := by
  unfold putK
  rw [if_neg]
  intro z
  obtain ⟨e, he, hq⟩ := List.any_eq_true.mp z
  exact h (List.mem_map.mpr ⟨e, he, of_decide_eq_true hq⟩)
theorem valV_no {g : GL} {q : Int × Int} (h : q ∉ g.map (·.1)) : valV g q = none := by
  cases e : valV g q with
  | none => rfl
  | some v =>
    exfalso
    have aux : ∀ g : GL, valV g q = some v → q ∈ g.map (·.1) := by
      intro g
      induction g with
      | nil => intro z; cases z
      | cons x g ih =>
        intro z
        by_cases c : x.1 = q
        · exact List.mem_map.mpr ⟨x, List.mem_cons_self, c⟩
        · rw [valV_neg c] at z
          obtain ⟨y, hy, hq⟩ := List.mem_map.mp (ih z)
          exact List.mem_map.mpr ⟨y, List.mem_cons_of_mem _ hy, hq⟩
    exact h (aux g e)
theorem map_same {g : GL} {q : Int × Int} {v : V} (h : q ∉ g.map (·.1)) : (g.map fun x => if x.1 = q then (x.1, v) else x) = g := by
  have : (g.map fun x => if x.1 = q then (x.1, v) else x) = g.map id := List.map_congr_left fun x hx => by
    rw [if_neg fun z => h (List.mem_map.mpr ⟨x, hx, z⟩)]
    rfl
  rw [this, List.map_id]
theorem sum_bump_in (f : Int × Int → Bool) {q : Int × Int} {c : Int} : ∀ {g : GL}, (g.map (·.1)).Nodup → valV g q = some (.int c) →
    sumBy f (g.map fun x => if x.1 = q then (x.1, V.int (c + 1)) else x) = sumBy f g + if f q = true then 1 else 0
  | [], _, h => by cases h
  | e :: g, nd, h => by
    have nd2 : e.1 ∉ g.map (·.1) ∧ (g.map (·.1)).Nodup := List.nodup_cons.mp nd
    by_cases z : e.1 = q
    · rw [valV_pos z] at h
      have hv : e.2 = .int c := Option.some.inj h
      rw [List.map_cons, sumBy_cons, sumBy_cons, if_pos z, map_same (by rw [← z]; exact nd2.1)]
      show (if f e.1 = true then c + 1 else 0) + sumBy f g = _
      have hc : cntV e = c := by unfold cntV; rw [hv]; rfl
      rw [hc, z]
      cases f q
      · simp
      · simp; omega
    · rw [valV_neg z] at h
      rw [List.map_cons, sumBy_cons, sumBy_cons, if_neg z, sum_bump_in f nd2.2 h]
      omega
theorem sum_bump (f : Int × Int → Bool) {g : GL} {q : Int × Int} (nd : (g.map (·.1)).Nodup) (ok : ∀ e ∈ g, ∃ c, e.2 = V.int c) : sumBy f (bump g q) = sumBy f g + if f q = true then 1 else 0 := by
  unfold bump
  by_cases h : q ∈ g.map (·.1)
  · rw [put_in h]
    exact sum_bump_in f nd (ggot ok h)
  · rw [put_out h, valV_no h, sumBy_app]
    unfold sumBy
    show _ + ((if f q = true then (0 : Int) + 1 else 0) + 0) = _
    cases f q <;> simp
theorem keys_bump {g : GL} {q : Int × Int} : (bump g q).map (·.1) = if q ∈ g.map (·.1) then g.map (·.1) else g.map (·.1) ++ [q] := by
  unfold bump
  by_cases h : q ∈ g.map (·.1)
  · rw [put_in h, if_pos h, List.map_map]
    refine List.map_congr_left fun x _ => ?_
    show (if x.1 = q then (x.1, _) else x).1 = x.1
    split <;> rfl
  · rw [put_out h, if_neg h, List.map_append]
    rfl
theorem mem_bump {g : GL} {q : Int × Int} {e : (Int × Int) × V} (h : e ∈ bump g q) : e ∈ g ∨ e = (q, .int (gcount (valV g q) + 1)) := by
  unfold bump at h
  by_cases z : q ∈ g.map (·.1)
  · rw [put_in z] at h
    obtain ⟨x, hx, rfl⟩ := List.mem_map.mp h
    by_cases c : x.1 = q
    · right; rw [if_pos c, c]
    · left; rw [if_neg c]; exact hx
  · rw [put_out z] at h
    rcases List.mem_append.mp h with q1 | q1
    · exact .inl q1
    · exact .inr (List.mem_singleton.mp q1)
def GoKey (p : Prog) (k : Nat) (e : (Int × Int) × V) : Prop := ∃ (b t : Nat) (c : Int), e = (((b : Int), (t : Int)), .int c) ∧ b < p.rows.length ∧ t ∈ tgt (p.rows.getD b .stop) ∧ 1 ≤ c ∧ c ≤ (k : Int)
def inF (x : Nat) (q : Int × Int) : Bool := decide (q.2 = (x : Int))
def outF (x : Nat) (q : Int × Int) : Bool := decide (q.1 = (x : Int))
structure GInv (p : Prog) (k : Nat) (s : RS) (cur : Nat) : Prop where
  at_ : s.here = some cur ∨ (s.here = none ∧ p.rows.getD cur .stop = .stop)
  key : ∀ e ∈ s.goes, GoKey p k e
  nd : (s.goes.map (·.1)).Nodup
  flow : ∀ x : Nat, sumBy (inF x) s.goes - sumBy (outF x) s.goes + (if x = 0 then 1 else 0) = if x = cur then 1 else 0
  reach : ∀ F : Nat → Prop, F 0 → (∀ q ∈ s.goes.map (·.1), F q.1.toNat → F q.2.toNat) → F cur ∧ ∀ q ∈ s.goes.map (·.1), F q.1.toNat
theorem tgt_step {m : Mach} {r : Row} {n : Nat} (h : (stepM m r).2 = some n) : n ∈ tgt r := by
  cases r with
  | load w k => have e : k = n := Option.some.inj h; subst e; exact List.mem_singleton.mpr rfl
  | add w k => have e : k = n := Option.some.inj h; subst e; exact List.mem_singleton.mpr rfl
  | take w k => have e : k = n := Option.some.inj h; subst e; exact List.mem_singleton.mpr rfl
  | store w k => have e : k = n := Option.some.inj h; subst e; exact List.mem_singleton.mpr rfl
  | say k => have e : k = n := Option.some.inj h; subst e; exact List.mem_singleton.mpr rfl
  | test a b =>
    have e : (if m.desk = 0 then a else b) = n := Option.some.inj h
    rw [tgt_mem, ← e]
    show (if m.desk = 0 then a else b) ∈ [a, b]
    split <;> simp
  | stop => cases h
theorem GoKey.mono {p : Prog} {k : Nat} {e : (Int × Int) × V} (h : GoKey p k e) : GoKey p (k + 1) e := by
  obtain ⟨b, t, c, h1, h2, h3, h4, h5⟩ := h
  exact ⟨b, t, c, h1, h2, h3, h4, by omega⟩
theorem runS_goE {p : Prog} {j r : Nat} (hh : (runS p j).here = some r) : runS p (j + 1) = ⟨(stepM (runS p j).m (p.rows.getD r .stop)).1, (runS p j).cnt.set r ((runS p j).cnt.getD r 0 + 1), goesOf (runS p j).goes r (stepM (runS p j).m (p.rows.getD r .stop)).2, (stepM (runS p j).m (p.rows.getD r .stop)).2⟩ := by
  show turnS p.rows (runS p j) = _
  unfold turnS
  rw [hh]
theorem runS_goes {p : Prog} (g : Good p) : ∀ k, ∃ cur, GInv p k (runS p k) cur
  | 0 => by
    refine ⟨0, .inl rfl, fun e h => absurd h (by simp [runS, startS]), List.nodup_nil, fun x => ?_, fun F h0 _ => ⟨h0, fun q h => absurd h (by simp [runS, startS])⟩⟩
    show (0 : Int) - 0 + _ = _
    omega
  | k + 1 => by
    obtain ⟨cur, I⟩ := runS_goes g k
    have O := runS_ok g k
    rcases I.at_ with hh | ⟨hn, hst⟩
    · have e := runS_goE hh
      have hr := O.here cur hh
      cases ho : (stepM (runS p k).m (p.rows.getD cur .stop)).2 with
      | none =>
        refine ⟨cur, .inr ⟨by rw [e, ho], ?_⟩, ?_, ?_, ?_, ?_⟩
        · cases hrow : p.rows.getD cur .stop with
          | stop => rfl
          | load _ _ => rw [hrow] at ho; cases ho
          | add _ _ => rw [hrow] at ho; cases ho
          | take _ _ => rw [hrow] at ho; cases ho
          | store _ _ => rw [hrow] at ho; cases ho
          | say _ => rw [hrow] at ho; cases ho
          | test _ _ => rw [hrow] at ho; cases ho
        all_goals (rw [e, ho])
        · exact fun x hx => (I.key x hx).mono
        · exact I.nd
        · exact I.flow
        · exact I.reach
      | some n =>
        have egoes : (runS p (k + 1)).goes = bump (runS p k).goes ((cur : Int), (n : Int)) := by rw [e, ho]; rfl
        refine ⟨n, .inl (by rw [e, ho]), ?_, ?_, ?_, ?_⟩
        all_goals (rw [egoes])
        · intro x hx
          rcases mem_bump hx with q | q
          · exact (I.key x q).mono
          · refine ⟨cur, n, _, q, hr, tgt_step ho, ?_, ?_⟩
            · cases hv : valV (runS p k).goes ((cur : Int), (n : Int)) with
              | none => decide
              | some v =>
                obtain ⟨y, hy, hy2⟩ := valV_mem hv
                obtain ⟨b, t, c, h1, h2, h3, h4, h5⟩ := I.key y hy
                rw [← hy2, h1]
                show 1 ≤ c + 1
                omega
            · cases hv : valV (runS p k).goes ((cur : Int), (n : Int)) with
              | none => show (0 : Int) + 1 ≤ _; omega
              | some v =>
                obtain ⟨y, hy, hy2⟩ := valV_mem hv
                obtain ⟨b, t, c, h1, h2, h3, h4, h5⟩ := I.key y hy
                rw [← hy2, h1]
                show c + 1 ≤ _
                omega
        · rw [keys_bump]
          split
          · exact I.nd
          · rename_i h
            exact List.nodup_append.mpr ⟨I.nd, by simp, fun a ha b hb z => h (by rw [← List.mem_singleton.mp hb, ← z]; exact ha)⟩
        · intro x
          rw [sum_bump _ I.nd O.gok, sum_bump _ I.nd O.gok]
          have fl := I.flow x
          unfold inF outF at *
          simp only [decide_eq_true_eq] at *
          by_cases c1 : n = x <;> by_cases c2 : cur = x <;> simp_all <;> omega
        · intro F h0 cl
          have hk : ∀ q ∈ (runS p k).goes.map (·.1), q ∈ (bump (runS p k).goes ((cur : Int), (n : Int))).map (·.1) := by
            intro q hq
            rw [keys_bump]
            split
            · exact hq
            · exact List.mem_append_left _ hq
          have hnew : ((cur : Int), (n : Int)) ∈ (bump (runS p k).goes ((cur : Int), (n : Int))).map (·.1) := by
            rw [keys_bump]
            split
            · assumption
            · exact List.mem_append_right _ (List.mem_singleton.mpr rfl)
          obtain ⟨r1, r2⟩ := I.reach F h0 fun q hq => cl q (hk q hq)
          refine ⟨cl _ hnew r1, fun q hq => ?_⟩
          rw [keys_bump] at hq
          split at hq
          · exact r2 q hq
          · rcases List.mem_append.mp hq with z | z
            · exact r2 q z
            · rw [List.mem_singleton.mp z]
              exact r1
    · have e : runS p (k + 1) = runS p k := by
        show turnS p.rows (runS p k) = _
        unfold turnS
        rw [hn]
      refine ⟨cur, ?_⟩
      rw [e]
      exact ⟨.inr ⟨hn, hst⟩, fun x hx => (I.key x hx).mono, I.nd, I.flow, I.reach⟩
end DL
namespace DL
open PySem L2 DLR
abbrev GoL := List ((Nat × Nat) × Int)
def goVs (e : (Nat × Nat) × Int) : List V := [nI e.1.1, nI e.1.2, .int e.2]
abbrev GoesAt (H : Hp) (bs : List Addr) (G : GoL) : Prop := Paired (fun b e => H b = some (.tup (goVs e))) bs G
theorem GoesAt.kp {H H' : Hp} {bs : List Addr} {G : GoL} (h : GoesAt H bs G) (k : Kp H H') : GoesAt H' bs G := Paired.mapP h fun b x e => k _ _ e
def sumG (f : Nat × Nat → Bool) (G : GoL) : Int := (G.map fun e => if f e.1 = true then e.2 else 0).sum
structure Goes (p : Prog) (G : GoL) : Prop where
  key : ∀ e ∈ G, e.1.1 < p.rows.length ∧ e.1.2 ∈ tgt (p.rows.getD e.1.1 .stop) ∧ 1 ≤ e.2 ∧ e.2 ≤ 5000
  nd : (G.map (·.1)).Nodup
  flow : ∀ x : Nat, p.rows.getD x .stop ≠ .stop → sumG (fun q => decide (q.2 = x)) G - sumG (fun q => decide (q.1 = x)) G + (if x = 0 then 1 else 0) = 0
  reach : ∀ F : Nat → Prop, F 0 → (∀ e ∈ G, F e.1.1 → F e.1.2) → ∀ e ∈ G, F e.1.1
theorem perm_sum {α : Type} {f : α → Int} {l m : List α} (h : l.Perm m) : (l.map f).sum = (m.map f).sum := by
  induction h with
  | nil => rfl
  | cons x _ ih => rw [List.map_cons, List.map_cons, List.sum_cons, List.sum_cons, ih]
  | swap x y l =>
    rw [List.map_cons, List.map_cons, List.map_cons, List.map_cons, List.sum_cons, List.sum_cons, List.sum_cons, List.sum_cons]
    omega
  | trans _ _ a b => rw [a, b]
theorem valV_at : ∀ {g : GL} {e : (Int × Int) × V}, (g.map (·.1)).Nodup → e ∈ g → valV g e.1 = some e.2
  | [], _, _, h => by cases h
  | x :: g, e, nd, h => by
    have nd2 : x.1 ∉ g.map (·.1) ∧ (g.map (·.1)).Nodup := List.nodup_cons.mp nd
    rcases List.mem_cons.mp h with q | q
    · subst q; exact valV_pos rfl
    · rw [valV_neg fun z => nd2.1 (List.mem_map.mpr ⟨e, q, z.symm⟩)]
      exact valV_at nd2.2 q
theorem sumBy_keys (f : Int × Int → Bool) {g : GL} (nd : (g.map (·.1)).Nodup) : sumBy f g = ((g.map (·.1)).map fun q => if f q = true then gcount (valV g q) else 0).sum := by
  unfold sumBy
  rw [List.map_map]
  congr 1
  refine List.map_congr_left fun e he => ?_
  show (if f e.1 = true then cntV e else 0) = if f e.1 = true then gcount (valV g e.1) else 0
  rw [valV_at nd he]
  rfl
def goOf (g : GL) (q : Int × Int) : (Nat × Nat) × Int := ((q.1.toNat, q.2.toNat), gcount (valV g q))
theorem Goes.of {p : Prog} {s : RS} {cur k : Nat} {L : List (Int × Int)} (hk : k ≤ 5000) (I : GInv p k s cur) (hn : s.here = none) (pm : L.Perm (s.goes.map (·.1))) : Goes p (L.map (goOf s.goes)) ∧ ∀ q ∈ L, goVs (goOf s.goes q) = [.int q.1, .int q.2, .int (gcount (valV s.goes q))] := by
  have kq : ∀ q ∈ L, ∃ (b t : Nat) (c : Int), q = ((b : Int), (t : Int)) ∧ b < p.rows.length ∧ t ∈ tgt (p.rows.getD b .stop) ∧ 1 ≤ c ∧ c ≤ (k : Int) ∧ gcount (valV s.goes q) = c := by
    intro q hq
    obtain ⟨e, he, rfl⟩ := List.mem_map.mp (pm.mem_iff.mp hq)
    obtain ⟨b, t, c, h1, h2, h3, h4, h5⟩ := I.key e he
    refine ⟨b, t, c, by rw [h1], h2, h3, h4, h5, ?_⟩
    rw [valV_at I.nd he, h1]
    rfl
  have hst : p.rows.getD cur .stop = .stop := by
    rcases I.at_ with h | h
    · rw [hn] at h; cases h
    · exact h.2
  have sums : ∀ (f : Nat × Nat → Bool) (f' : Int × Int → Bool), (∀ q ∈ L, f (q.1.toNat, q.2.toNat) = f' q) → sumG f (L.map (goOf s.goes)) = sumBy f' s.goes := by
    intro f f' hf
    rw [sumBy_keys f' I.nd, ← perm_sum pm]
    unfold sumG
    rw [List.map_map]
    congr 1
    refine List.map_congr_left fun q hq => ?_
    show (if f (q.1.toNat, q.2.toNat) = true then gcount (valV s.goes q) else 0) = _
    rw [hf q hq]
  refine ⟨⟨fun e he => ?_, ?_, fun x hx => ?_, fun F h0 cl e he => ?_⟩, fun q hq => ?_⟩
  · obtain ⟨q, hq, rfl⟩ := List.mem_map.mp he
    obtain ⟨b, t, c, rfl, h2, h3, h4, h5, h6⟩ := kq q hq
    refine ⟨h2, h3, ?_, ?_⟩
    · show 1 ≤ gcount _; omega
    · show gcount _ ≤ 5000; omega
  · rw [List.map_map]
    have nd := pm.nodup_iff.mpr I.nd
    refine List.pairwise_map.mpr (nd.imp_of_mem fun {a b} ha hb ne z => ne ?_)
    obtain ⟨b1, t1, c1, rfl, _⟩ := kq a ha
    obtain ⟨b2, t2, c2, rfl, _⟩ := kq b hb
    have z1 : b1 = b2 := congrArg Prod.fst z
    have z2 : t1 = t2 := congrArg Prod.snd z
    rw [z1, z2]
  · have fl := I.flow x
    rw [if_neg (show ¬ x = cur from fun z => hx (by rw [z]; exact hst))] at fl
    have sa := sums (fun q => decide (q.2 = x)) (inF x) fun q hq => by
      obtain ⟨b, t, c, rfl, _⟩ := kq q hq
      show decide (t = x) = decide ((t : Int) = (x : Int))
      exact decide_eq_decide.mpr (by omega)
    have sb := sums (fun q => decide (q.1 = x)) (outF x) fun q hq => by
      obtain ⟨b, t, c, rfl, _⟩ := kq q hq
      show decide (b = x) = decide ((b : Int) = (x : Int))
      exact decide_eq_decide.mpr (by omega)
    rw [sa, sb]
    exact fl
  · obtain ⟨q, hq, rfl⟩ := List.mem_map.mp he
    refine (I.reach F h0 fun z hz => ?_).2 q (pm.mem_iff.mp hq)
    exact cl (goOf s.goes z) (List.mem_map.mpr ⟨z, pm.mem_iff.mpr hz, rfl⟩)
  · obtain ⟨b, t, c, rfl, _⟩ := kq q hq
    rfl
def beatsF (y : Lay) (rows : List Row) (G : GoL) : Int := ((y.places.getD 0 0 : Nat) : Int) + 1 + (G.map fun e => e.2 * costF y rows e.1.1 e.1.2).sum
abbrev sEnded : Stmt := top 85
abbrev FEnded (K : Frg) (mg : Str → Option Value) := Fd K mg "_law_ended" sEnded ["_law_d"]
def spLNexts : Sp := fun vs H Q _ => ∃ (a : Addr) (r : Row), vs = [.ref a] ∧ H a = some (.tup (rowVs r)) ∧ ∀ l H', Same1 H H' → H l = none → H' l = some (.lst ((tgt r).map nI)) → Q (.ref l) H'
theorem goesN_has {p : Prog} {u v : Nat} (h1 : u < p.rows.length) (h2 : v ∈ tgt (p.rows.getD u .stop)) : (u, v) ∈ goesN p.rows p.rows.length :=
  List.mem_flatMap.mpr ⟨u, List.mem_range.mpr h1, List.mem_map.mpr ⟨v, h2, rfl⟩⟩
theorem last_row (r : Row) : (if r.isWd "test" = true then (rowVs r).drop 1 else cutV (rowVs r) (some (-1)) none) = if r.isWd "stop" = true then cutV (rowVs r) (some (-1)) none else (nx r).map nI := by
  rw [(Row.wd_eq r).1, (Row.wd_eq r).2.2.2]
  cases r <;> rfl
section
variable {P : Program} {w : World} {K : PySem.W.Frag} {mg : Str → Option Value} {base : Heap}
end
end DL
namespace DL
open PySem L2 DLR
def spLBeats : Sp := fun vs H Q _ => ∃ (ra b la : Addr) (bs cs : List Addr) (p : Prog) (y : Lay) (G : GoL), vs = [.ref ra, .ref b, .ref la] ∧ H ra = some (.tup (bs.map V.ref)) ∧ RowsAt H bs p.rows ∧ Good p ∧ LayAt H b y ∧ LayOk p y ∧ H la = some (.lst (cs.map V.ref)) ∧ GoesAt H cs G ∧ Goes p G ∧ G.length ≤ 5000 ∧
  ∀ H', Same1 H H' → Q (.int (beatsF y p.rows G)) H'
section
variable {P : Program} {w : World} {K : PySem.W.Frag} {mg : Str → Option Value} {base : Heap}
abbrev nLBeats : List Str := ["_law_rows", "_law_laying_here", "_law_goes", "_law_row", "_law_other", "_law_many"]
end
end DL
namespace DL
open PySem L2 DLR
theorem in65 {k : Nat} {A : Around} (hr : Room k A) : A.units + 65 < cLine := by
  have := hr.un
  omega
def pairD (g : Nat × Nat) : PyData := .tuple [.int (g.1 : Int), .int (g.2 : Int)]
theorem pairD_lay : ∀ l : List (Nat × Nat), PyData.canLayAll0 (l.map pairD) = true
  | [] => by decide +kernel
  | x :: l => by
    show (PyData.canLay0 (pairD x) && PyData.canLayAll0 (l.map pairD)) = true
    rw [pairD_lay l]
    rfl
theorem pairD_dep : ∀ l : List (Nat × Nat), PyData.depthAll (l.map pairD) ≤ 3
  | [] => by decide
  | x :: l => by
    have h := pairD_dep l
    show max (pairD x).depth (PyData.depthAll (l.map pairD)) ≤ 3
    have : (pairD x).depth ≤ 3 := by simp [pairD, PyData.depth, PyData.depthAll]
    omega
theorem pairsD_shaped (l : List (Nat × Nat)) : SeqAt.shaped (.list (l.map pairD)) = true := by
  show (PyData.canLayAll0 (l.map pairD) && decide (PyData.depth (.list (l.map pairD)) ≤ 64)) = true
  rw [pairD_lay]
  refine decide_eq_true ?_
  have := pairD_dep l
  show _ + _ ≤ 64
  omega
theorem pairD_shaped (x : Nat × Nat) : SeqAt.shaped (pairD x) = true := by
  have h : (PyData.canLay0 (pairD x) && PyData.canLayAll0 []) = true := pairD_lay [x]
  have d : (pairD x).depth ≤ 64 := by simp [pairD, PyData.depth, PyData.depthAll]
  exact Bool.and_eq_true_iff.mpr ⟨(Bool.and_eq_true_iff.mp h).1, decide_eq_true d⟩
theorem pairD_at {K : Frg} {H : Hp} {b : Addr} {g : Nat × Nat} (h : H b = some (.tup (pairVs g))) : Dp K H (.ref b) (pairD g) := .tup (SqT.of h) (.cons (.int _) (.cons (.int _) .nil))
theorem pairsD_at {K : Frg} {H : Hp} : ∀ {bs : List Addr} {L : List (Nat × Nat)}, PairsL H bs L → DpAll K H (bs.map V.ref) (L.map pairD)
  | _, _, .nil => .nil
  | _, _, .cons h t => .cons (pairD_at h) (pairsD_at t)
abbrev sIsGo : Stmt := top 45
abbrev FIsGo (K : Frg) (mg : Str → Option Value) := Fd K mg "is_go" sIsGo ["go", "may_be"]
def spIsGo : Sp := fun vs H Q _ => ∃ (a l : Addr) (bs : List Addr) (L : List (Nat × Nat)) (e : (Nat × Nat) × Int), vs = [.ref a, .ref l] ∧ H a = some (.tup (goVs e)) ∧ H l = some (.lst (bs.map V.ref)) ∧ PairsL H bs L ∧ e.1 ∈ L ∧ 1 ≤ e.2 ∧ ∀ H', Same1 H H' → Q (.bl true) H'
section
variable {P : Program} {w : World} {K : PySem.W.Frag} {mg : Str → Option Value} {base : Heap}
abbrev nIsGo : List Str := ["go", "may_be", "thing"]
theorem scIsGo : FnScope nIsGo ["go", "may_be"] (defScope sIsGo) := ⟨rfl, rfl, rfl, by decide +kernel, rfl, by decide +kernel, by decide +kernel⟩
theorem ok_isGo (c : FIsGo K mg) (cIsNumber : FIsNumber K mg) (T : Bt mg) : FnOk P w K mg base CX0 2 c.f c.fd ["go", "may_be"] spIsGo := by
  have GIsNumber : FnOk P w K mg base CX0 1 cIsNumber.f cIsNumber.fd ["thing"] spNum := ok_isNumber cIsNumber T
  refine c.F.ok scIsGo (fun vs H Q E h => ?_) (fun cdv A outer s H vs Q E hr h => ?_)
  · obtain ⟨a, l, bs, L, e, rfl, _⟩ := h
    rfl
  · obtain ⟨a, l, bs, L, e, rfl, ha, hl, hL, hm, h1, k⟩ := h
    refine ⟨_, (pss_cons (ps_if (PW.pt (pw_or (pt_not (pt_val (pe_callB call_isi (by rfl) T.isinstance (by decide +kernel) (pa_cons (pv 0) (pa_cons (pe_bltn (v := .ty "tuple") (by rfl) T.tuple (by decide +kernel) rfl) pa_nil))))) (pw_or (pt_cmpR op_ne (pe_callB call_len_seq (by rfl) T.len PySem.boot_len (pa_cons (pv 0) pa_nil)) pe_int (nomark _)) (pw_or1 (pt_not (pt_val (pe_callB (cr_all rfl) (by rfl) T.all (by decide +kernel) (pa_cons (pe_lc (own := [("thing", 2)]) (g := gName 2) (tt := tYes) rfl scIsGo.nd (pi_tup (pv 0)) (blkOk_by (N := nIsGo) (sc := defScope sIsGo) (by decide +kernel)) (fun _ _ _ _ _ => (pg_name (i := 2) scIsGo.nd rfl (Or.inl rfl))) (fun _ _ _ _ _ => pts_nil) (fun _ _ _ _ _ => (pe_call GIsNumber (hr.mono (by first | omega | decide)) (by rfl) cIsNumber.m cIsNumber.F.kp cIsNumber.b .nil pass0 (pa_cons (pv 2) pa_nil)))) pa_nil))))))))
          (pss_one (ps_ret pe_bl))
          pss_nil)
      (pss_one (ps_ret (pe_and (pe_cmpR (op_inD (in65 hr)) (pe_slice sl_tupS (pv 0) po_none (po_some pe_int)) (pv 1) rfl) (pe_one (pe_cmpR op_ge (pe_ix ix_tup (pv 0) pe_int (fun _ _ => rfl)) pe_int (nomark _))))))), ?_⟩
    refine ⟨_, rfl, _, _, _, _, true, rfl, .ty _, .base (.tup ha), kit_ty (by decide +kernel), _, rfl, ?_⟩
    refine iteF ⟨_, rfl, a, _, rfl, .inr (SqT.of ha), rfl, _, rfl, ?_⟩
    rw [show (!decide (V.int (((goVs e).length : Nat) : Int) = V.int 3)) = false from rfl]
    refine iteF ⟨_, rfl, a, rfl, ⟨_, SqT.of ha⟩, fun D hD => ?_⟩
    refine lc_tup (K := K) (a := a) (xs := goVs e) (fun i H' => H' D = some (.lst ((List.replicate i true).map V.bl)) ∧ Same1 H H') ⟨upd_same, Same.new hD⟩ (fun i H' _ ⟨_, q⟩ => SqT.of (q _ _ ha)) ?_ ?_
    · rintro i x H3 hi ⟨hd, s3⟩
      have hin : i < 3 := (List.getElem?_eq_some_iff.mp hi).1
      obtain ⟨z, rfl⟩ : ∃ z, x = V.int z := by
        match i, hin with
        | 0, _ => exact ⟨_, (Option.some.inj hi).symm⟩
        | 1, _ => exact ⟨_, (Option.some.inj hi).symm⟩
        | 2, _ => exact ⟨_, (Option.some.inj hi).symm⟩
      refine ⟨rfl, _, rfl, z, rfl, _, hd, szl (by rw [List.length_map, List.length_replicate]; omega), ?_, Same.mut s3 hD⟩
      rw [upd_same, List.replicate_succ', List.map_append]
      rfl
    · rintro H3 ⟨hd, s3⟩
      refine ⟨D, _, rfl, SqL.of hd, ?_⟩
      rw [show (List.replicate (goVs e).length true).all id = true by rw [List.all_eq_true]; intro x hx; rw [List.eq_of_mem_replicate hx]; rfl]
      refine ⟨_, rfl, iteF ?_⟩
      refine ⟨_, rfl, _, rfl, a, _, rfl, s3 _ _ ha, fun t H4 s4 e4 => ?_⟩
      have e4 : H4 t = some (.tup (pairVs e.1)) := e4
      have S4 := s3.trans s4
      refine ⟨_, rfl, pairD e.1, L.map pairD, pairD_at e4, .lst (SqL.of (S4 _ _ hl)) (pairsD_at (PairsL.kp hL (Kp.same S4))), pairD_shaped _, pairsD_shaped _, ?_⟩
      have any : ((L.map pairD).any fun z => PyData.eqv z (pairD e.1)) = true := List.any_eq_true.mpr ⟨pairD e.1, List.mem_map.mpr ⟨e.1, hm, rfl⟩, PySem.SeqAt.eqv_refl _ (SeqAt.canLay_of_shaped (pairD_shaped _))⟩
      rw [any]
      refine ⟨_, rfl, iteT ?_⟩
      refine ⟨_, rfl, a, _, _, _, rfl, rfl, SqT.of (S4 _ _ ha), at2, _, _, rfl, rfl, ?_⟩
      have q := k H4 S4
      rw [← decide_eq_true (show e.2 ≥ 1 from h1)] at q
      exact q
end
end DL
namespace DL
open PySem L2 DLR
def kN (x : Nat) : Key := .inl (x : Int)
theorem kN_inj {a b : Nat} (h : kN a = kN b) : a = b := by
  have e := Sum.inl.inj h
  omega
structure FoundAt (H : Hp) (fa : Addr) (F : List Nat) : Prop where
  dic : ∃ kvs : List (Key × V), H fa = some (.dK kvs) ∧ kvs.length ≤ F.length ∧ ∀ x : Nat, (valV kvs (kN x)).isSome = decide (x ∈ F)
theorem FoundAt.same {H H' : Hp} {fa : Addr} {F : List Nat} (h : FoundAt H fa F) (s : Same1 H H') : FoundAt H' fa F := by
  obtain ⟨kvs, h1, h2⟩ := h.dic
  exact ⟨kvs, s _ _ h1, h2⟩
theorem FoundAt.other {H H' : Hp} {fa wa : Addr} {F : List Nat} (h : FoundAt H fa F) (b : But wa H H') (n : fa ≠ wa) : FoundAt H' fa F := by
  obtain ⟨kvs, h1, h2⟩ := h.dic
  exact ⟨kvs, b _ _ n h1, h2⟩
theorem FoundAt.get {H : Hp} {fa : Addr} {F : List Nat} (h : FoundAt H fa F) (x : Nat) : ∃ o, DGet H fa (.int (x : Int)) o ∧ o.isSome = decide (x ∈ F) := by
  obtain ⟨kvs, h1, h2, h3⟩ := h.dic
  exact ⟨_, DGet.k (k := kN x) h1, h3 x⟩
theorem nodup_sub {α : Type} [DecidableEq α] : ∀ {l m : List α}, l.Nodup → (∀ x ∈ l, x ∈ m) → l.length ≤ m.length
  | [], _, _, _ => Nat.zero_le _
  | x :: l, m, nd, h => by
    have nd2 : x ∉ l ∧ l.Nodup := List.nodup_cons.mp nd
    have hx := h x List.mem_cons_self
    have ih := nodup_sub (l := l) (m := m.erase x) nd2.2 fun y hy => (List.mem_erase_of_ne fun z => nd2.1 (by rw [← z]; exact hy)).mpr (h y (List.mem_cons_of_mem _ hy))
    rw [List.length_erase_of_mem hx] at ih
    have := List.length_pos_of_mem hx
    show l.length + 1 ≤ m.length
    omega
theorem lenLe {F : List Nat} {N : Nat} (nd : F.Nodup) (h : ∀ x ∈ F, x < N) : F.length ≤ N := by
  have q := nodup_sub nd (m := List.range N) fun x hx => List.mem_range.mpr (h x hx)
  rw [List.length_range] at q
  exact q
abbrev sRowsFound : Stmt := top 47
abbrev FRowsFound (K : Frg) (mg : Str → Option Value) := Fd K mg "rows_found" sRowsFound ["pairs"]
def spRowsFound : Sp := fun vs H Q _ => ∃ (a : Addr) (bs : List Addr) (L : List (Nat × Nat)) (N : Nat), vs = [.ref a] ∧ H a = some (.lst (bs.map V.ref)) ∧ PairsL H bs L ∧ 0 < N ∧ N ≤ 100 ∧ (∀ q ∈ L, q.2 < N) ∧
  ∀ fa F H', Same1 H H' → FoundAt H' fa F → 0 ∈ F → (∀ q ∈ L, q.1 ∈ F → q.2 ∈ F) → Q (.ref fa) H'
structure FW (L : List (Nat × Nat)) (N : Nat) (F W : List Nat) (done_ : Nat → Prop) : Prop where
  nd : F.Nodup
  lt : ∀ x ∈ F, x < N
  z : 0 ∈ F
  wf : ∀ x ∈ W, x ∈ F
  cl : ∀ x ∈ F, x ∈ W ∨ done_ x ∨ ∀ q ∈ L, q.1 = x → q.2 ∈ F
section
variable {P : Program} {w : World} {K : PySem.W.Frag} {mg : Str → Option Value} {base : Heap}
theorem scRowsFound : FnScope ["pairs", "found", "waiting", "row", "begin", "to"] ["pairs"] (defScope sRowsFound) := ⟨rfl, rfl, rfl, by decide +kernel, rfl, by decide +kernel, by decide +kernel⟩
theorem ok_rowsFound (c : FRowsFound K mg) : FnOk P w K mg base CX0 1 c.f c.fd ["pairs"] spRowsFound := by
  refine c.F.ok scRowsFound (fun vs H Q E h => ?_) (fun cdv A outer s H vs Q E hr h => ?_)
  · obtain ⟨a, bs, L, N, rfl, _⟩ := h
    rfl
  · obtain ⟨a, bs, L, N, rfl, ha, hL, n0, n100, hN, k⟩ := h
    have hbl := Paired.length hL
    refine ⟨_, (pss_cons (ps_set (i := 1) scRowsFound.nd rfl (Or.inl rfl) (pe_disp (pps_cons pe_int pe_bl pps_nil) (by rfl) (by rfl) (fun z => by cases z) (by decide)))
      (pss_cons (ps_set (i := 2) scRowsFound.nd rfl (Or.inl rfl) (pe_lst (pa_cons pe_int pa_nil)))
      (pss_cons (ps_while PassesOwn.never (pt_truth (pv 2) (fun _ => rfl))
          (pss_cons (ps_set (i := 3) scRowsFound.nd rfl (Or.inl rfl) (pe_bm0 PySem.F.plainAttrs_list PySem.F.slot_list_pop PySem.F.type_list_pop mt_pop (pv 2)))
          (pss_one (ps_for PassesOwn.never rfl (pi_list (pv 0)) (pg_tup rfl (pgs_cons (pg_name (i := 4) scRowsFound.nd rfl (Or.inl rfl)) (pgs_cons (pg_name (i := 5) scRowsFound.nd rfl (Or.inl rfl)) pgs_nil)))
              (pss_one (ps_if (PW.pt (pw_and (pt_cmpR op_eq (pv 4) (pv 3) (nomark _)) (pw_and1 (pt_cmp (pc_dnotin (hu_of hr) (pv 5) (pv 1))))))
                  (pss_cons (ps_dput (hu_of hr) (pv 1) (pv 5) pe_bl rfl)
                  (pss_one (ps_expr (pe_bm PySem.F.plainAttrs_list PySem.F.slot_list_append PySem.F.type_list_append mt_append (pv 2) (pa_cons (pv 5) pa_nil)))))
                  pss_nil))))))
      (pss_one (ps_ret (pv 1)))))), ?_⟩
    refine fun fa hfa => ?_
    refine alloc hfa fun H1 s1 e1 => ?_
    refine ⟨e1, [(kN 0, .bl true)], rfl, (by show 1 ≤ 15; decide), ?_⟩
    have F1 : FoundAt (upd H1 fa (.dK (mergeK [] [(kN 0, V.bl true)]))) fa [0] := by
      refine ⟨_, upd_same, Nat.le_refl _, fun x => ?_⟩
      by_cases e : x = 0
      · subst e
        rw [show mergeK [] [(kN 0, V.bl true)] = [(kN 0, V.bl true)] from rfl, valV_pos rfl]
        rfl
      · rw [show mergeK [] [(kN 0, V.bl true)] = [(kN 0, V.bl true)] from rfl, valV_neg (show ¬ (kN 0, V.bl true).1 = kN x from fun z => e (kN_inj z).symm)]
        show false = _
        exact (decide_eq_false (by simpa using e)).symm
    have S1 : Same1 H (upd H1 fa (.dK (mergeK [] [(kN 0, V.bl true)]))) := Same.mut s1 hfa
    revert F1 S1
    refine change fun H2 b2 e2 => ?_
    intro F1 S1
    refine ⟨(by show 1 ≤ sizeLine; decide), fun wa hwa => ?_⟩
    refine alloc hwa fun H3 s3 e3 => ?_
    have nfw : fa ≠ wa := by
      obtain ⟨kvs, q, _⟩ := F1.dic
      exact ne_of_none q hwa
    have nwa : H wa = none := S1.free hwa
    have nfa : H fa = none := hfa
    dsimp only [gName]
    refine whileE (fun m σ H' => ∃ (F W : List Nat) (x3 x4 x5 : Option V), m = 2 * (N - F.length) + W.length ∧ σ = [some (.ref a), some (.ref fa), some (.ref wa), x3, x4, x5] ∧ Same1 H H' ∧ FoundAt H' fa F ∧ H' wa = some (.lst (W.map nI)) ∧ FW L N F W (fun _ => False) ∧ 2 * (N - F.length) + W.length ≤ 2 * N)
      (fun σ H' => ∃ (F : List Nat) (x3 x4 x5 : Option V), σ = [some (.ref a), some (.ref fa), some (.ref wa), x3, x4, x5] ∧ Same1 H H' ∧ FoundAt H' fa F ∧ FW L N F [] (fun _ => False))
      ⟨_, [0], [0], none, none, none, rfl, rfl, S1.trans s3, F1.same s3, e3, ⟨by simp, fun x hx => by rw [List.mem_singleton.mp hx]; exact n0, List.mem_singleton.mpr rfl, fun x hx => hx, fun x hx => .inl hx⟩, by show 2 * (N - 1) + 1 ≤ 2 * N; omega⟩ ?_ ?_
    · rintro σ H' ⟨F, x3, x4, x5, rfl, s', f', fw⟩
      refine ⟨_, rfl, k fa F H' s' f' fw.z fun q hq h1 => ?_⟩
      rcases fw.cl _ h1 with z | z | z
      · cases z
      · exact z.elim
      · exact z q hq rfl
    · intro Nx hNx
      rintro m σ H4 ⟨F, W, x3, x4, x5, rfl, rfl, s4, f4, hw4, fw, w2⟩
      refine ⟨_, rfl, !(W.map nI).isEmpty, .inl ⟨_, SqL.of hw4, rfl⟩, ?_⟩
      have hFN := lenLe fw.nd fw.lt
      rcases List.eq_nil_or_concat W with rfl | ⟨W0, r, rfl⟩
      · exact hNx _ _ ⟨F, _, _, _, rfl, s4, f4, fw⟩
      · have hne : (!((W0.concat r).map nI).isEmpty) = true := by simp
        rw [hne]
        have hw4 : H4 wa = some (.lst (W0.map nI ++ [nI r])) := by rw [hw4, List.concat_eq_append, List.map_append]; rfl
        rw [List.concat_eq_append] at w2 fw
        rw [List.length_append] at w2
        have w2 : 2 * (N - F.length) + (W0.length + 1) ≤ 2 * N := w2
        refine ⟨_, fun σ' H' q => q, _, rfl, .inl ⟨rfl, _, SqL.of hw4⟩, wa, _, nI r, rfl, rfl, hw4, ?_, ?_⟩
        · rw [List.length_append, List.length_map]
          show (W0.map nI ++ [nI r])[W0.length + 1 - 1]? = _
          rw [Nat.add_sub_cancel, List.getElem?_append_right (by rw [List.length_map]; exact Nat.le_refl _), List.length_map, Nat.sub_self]
          rfl
        rw [List.dropLast_concat, List.length_concat]
        have b5 : But wa H4 (upd H4 wa (.lst (W0.map nI))) := fun x o n e => by rw [upd_ne n]; exact e
        have s5 : Same1 H (upd H4 wa (.lst (W0.map nI))) := Same.mut s4 nwa
        have f5 : FoundAt (upd H4 wa (.lst (W0.map nI))) fa F := f4.other b5 nfw
        have rF : r ∈ F := fw.wf r (List.mem_append_right _ (List.mem_singleton.mpr rfl))
        have fw5 : FW L N F W0 (fun x => x = r) := ⟨fw.nd, fw.lt, fw.z, fun x hx => fw.wf x (List.mem_append_left _ hx), fun x hx => by
          rcases fw.cl x hx with z | z | z
          · rcases List.mem_append.mp z with z | z
            · exact .inl z
            · exact .inr (.inl (List.mem_singleton.mp z))
          · exact z.elim
          · exact .inr (.inr z)⟩
        have e5 : (upd H4 wa (.lst (W0.map nI))) wa = some (.lst (W0.map nI)) := upd_same
        revert s5 f5 e5
        refine change (p := wa) (o := .lst (W0.map nI)) (H := H4) fun H5 _ _ => ?_
        intro s5 f5 e5
        refine ⟨_, rfl, a, rfl, ⟨_, SqL.of (s5 _ _ ha)⟩, for_list (K := K) (a := a) (xs := bs.map V.ref) (fun i σ H' => ∃ (F' W' : List Nat) (x4 x5 : Option V), σ = [some (.ref a), some (.ref fa), some (.ref wa), some (nI r), x4, x5] ∧ Same1 H H' ∧ FoundAt H' fa F' ∧ H' wa = some (.lst (W'.map nI)) ∧
            FW L N F' W' (fun x => x = r) ∧ (∀ q ∈ L.take i, q.1 = r → q.2 ∈ F') ∧ 2 * (N - F'.length) + W'.length + 1 ≤ 2 * (N - F.length) + (W0.length + 1))
          ⟨F, W0, _, _, rfl, s5, f5, e5, fw5, fun q hq => absurd hq (by simp), Nat.le_refl _⟩ (fun i σ H' _ ⟨_, _, _, _, _, q, _⟩ => SqL.of (q _ _ ha)) ?_ ?_⟩
        · rintro i x σ H6 hi ⟨F', W', x4, x5, rfl, s6, f6, hw6, fw6, pr6, m6⟩
          have hic : i < bs.length := by
            have q := (List.getElem?_eq_some_iff.mp hi).1
            rwa [List.length_map] at q
          have ex : x = .ref bs[i] := by
            rw [List.getElem?_map, List.getElem?_eq_getElem hic] at hi
            exact (Option.some.inj hi).symm
          subst ex
          obtain ⟨⟨u, v⟩, hq1, hq2⟩ := Paired.get hL (List.getElem?_eq_getElem hic)
          have hvN : v < N := hN _ (List.mem_of_getElem? hq1)
          have hFN' := lenLe fw6.nd fw6.lt
          refine ⟨bs[i], _, rfl, SqT.of (s6 _ _ hq2), rfl, _, _, rfl, _, _, rfl, rfl, ?_⟩
          have step : ∀ (F2 W2 : List Nat), (∀ q ∈ L.take i, q.1 = r → q.2 ∈ F2) → (u = r → v ∈ F2) → ∀ q ∈ L.take (i + 1), q.1 = r → q.2 ∈ F2 := by
            intro F2 W2 h1 h2 q hq e
            rw [List.take_add_one, hq1] at hq
            rcases List.mem_append.mp hq with z | z
            · exact h1 q z e
            · have z : q = (u, v) := List.mem_singleton.mp z
              subst z
              exact h2 e
          refine if_elim (fun b H' => H' = H6 ∧ (b = true → u = r ∧ v ∉ F') ∧ (b = false → u = r → v ∈ F')) ?_ ?_
          · rintro b H' ⟨rfl, hb1, hb2⟩
            cases b with
            | false => exact iteF ⟨F', W', _, _, rfl, s6, f6, hw6, fw6, step F' W' pr6 (hb2 rfl), m6⟩
            | true =>
              obtain ⟨rfl, hv⟩ := hb1 rfl
              obtain ⟨kvs, d1, d2, d3⟩ := f6.dic
              have nd' : (F' ++ [v]).Nodup := List.nodup_append.mpr ⟨fw6.nd, by simp, fun x hx y hy z => hv (by rw [← List.mem_singleton.mp hy, ← z]; exact hx)⟩
              have hl2 := lenLe nd' (fun x hx => by
                rcases List.mem_append.mp hx with z | z
                · exact fw6.lt x z
                · rw [List.mem_singleton.mp z]; exact hvN)
              rw [List.length_append] at hl2
              have hl2 : F'.length + 1 ≤ N := hl2
              refine iteT ⟨_, rfl, _, rfl, fa, _, rfl, DPut.k (k := kN v) d1 (szl (by omega)), ?_⟩
              have hw7 : (upd H' fa (.dK (putK kvs (kN v) (.bl true)))) wa = some (.lst (W'.map nI)) := by rw [upd_ne nfw.symm]; exact hw6
              have f7 : FoundAt (upd H' fa (.dK (putK kvs (kN v) (.bl true)))) fa (F' ++ [v]) := by
                refine ⟨_, upd_same, ?_, fun x => ?_⟩
                · have := putK_len (kvs := kvs) (k := kN v) (v := V.bl true)
                  rw [List.length_append]
                  show _ ≤ F'.length + 1
                  omega
                · rw [valV_put]
                  by_cases e : v = x
                  · subst e
                    rw [if_pos rfl]
                    show true = _
                    exact (decide_eq_true (by simp)).symm
                  · rw [if_neg fun z => e (kN_inj z).symm, d3]
                    refine decide_eq_decide.mpr ⟨fun z => List.mem_append_left _ z, fun z => ?_⟩
                    rcases List.mem_append.mp z with z | z
                    · exact z
                    · exact absurd (List.mem_singleton.mp z).symm e
              have s7 : Same1 H (upd H' fa (.dK (putK kvs (kN v) (.bl true)))) := Same.mut s6 nfa
              refine ⟨_, rfl, .inl ⟨rfl, _, SqL.of hw7⟩, _, rfl, wa, _, _, rfl, rfl, hw7, szl (by rw [List.length_map]; omega), ?_⟩
              refine ⟨F' ++ [v], W' ++ [v], _, _, rfl, Same.mut s7 nwa, f7.other (fun x o n e => by rw [upd_ne n]; exact e) nfw, by rw [upd_same, List.map_append]; rfl, ⟨nd', fun x hx => ?_, List.mem_append_left _ fw6.z, fun x hx => ?_, fun x hx => ?_⟩, step _ (W' ++ [v]) (fun q hq e => List.mem_append_left _ (pr6 q hq e)) fun _ => List.mem_append_right _ (List.mem_singleton.mpr rfl), ?_⟩
              · rcases List.mem_append.mp hx with z | z
                · exact fw6.lt x z
                · rw [List.mem_singleton.mp z]; exact hvN
              · rcases List.mem_append.mp hx with z | z
                · exact List.mem_append_left _ (fw6.wf x z)
                · exact List.mem_append_right _ z
              · rcases List.mem_append.mp hx with z | z
                · rcases fw6.cl x z with y | y | y
                  · exact .inl (List.mem_append_left _ y)
                  · exact .inr (.inl y)
                  · exact .inr (.inr fun q hq e => List.mem_append_left _ (y q hq e))
                · exact .inl (List.mem_append_right _ z)
              · rw [List.length_append, List.length_append]
                show 2 * (N - (F'.length + 1)) + (W'.length + 1) + 1 ≤ _
                omega
          · intro Fk hF
            obtain ⟨o, g1, g2⟩ := f6.get v
            refine ⟨_, rfl, _, rfl, rfl, _, rfl, ?_⟩
            by_cases e : u = r
            · rw [decide_eq_true (show nI ((u, v) : Nat × Nat).fst = nI r by rw [← e])]
              refine ⟨_, rfl, _, rfl, fa, o, rfl, g1, _, rfl, hF _ _ ⟨rfl, fun z => ⟨e, ?_⟩, fun z _ => ?_⟩⟩
              · rw [g2] at z
                exact fun y => by rw [decide_eq_true y] at z; cases z
              · rw [g2] at z
                by_cases y : v ∈ F'
                · exact y
                · rw [decide_eq_false y] at z; cases z
            · rw [decide_eq_false (show ¬ nI ((u, v) : Nat × Nat).fst = nI r from fun z => e (Int.ofNat.inj (V.int.inj z)))]
              exact hF _ _ ⟨rfl, (fun z => by cases z), fun _ z => absurd z e⟩
        · rintro σ H6 ⟨F', W', x4, x5, rfl, s6, f6, hw6, fw6, pr6, m6⟩
          rw [List.length_map, hbl, List.take_length] at pr6
          refine ⟨_, by omega, F', W', _, _, _, rfl, rfl, s6, f6, hw6, ⟨fw6.nd, fw6.lt, fw6.z, fw6.wf, fun x hx => ?_⟩, by omega⟩
          rcases fw6.cl x hx with z | z | z
          · exact .inl z
          · subst z; exact .inr (.inr pr6)
          · exact .inr (.inr z)
end
end DL
namespace DL
open PySem L2 DLR
theorem isT_test (a b : Nat) : isT (.test a b) = 1 := (by decide +kernel : (if decide (some (V.str "test") = some (V.str "test")) = true then 1 else 0) = 1)
theorem tgt_len2 (r : Row) : (tgt r).length ≤ 1 + isT r := by
  cases r with
  | test a b =>
    rw [isT_test]
    exact tgt_len _
  | stop => exact Nat.zero_le _
  | load _ _ => exact Nat.le_add_right 1 _
  | add _ _ => exact Nat.le_add_right 1 _
  | take _ _ => exact Nat.le_add_right 1 _
  | store _ _ => exact Nat.le_add_right 1 _
  | say _ => exact Nat.le_add_right 1 _
theorem goesN_len2 (rows : List Row) : ∀ i, i ≤ rows.length → (goesN rows i).length ≤ i + tests (rows.take i)
  | 0, _ => Nat.zero_le _
  | i + 1, h => by
    have ih := goesN_len2 rows i (by omega)
    have e : rows[i]? = some (rows.getD i .stop) := by
      rw [List.getD_eq_getElem?_getD, List.getElem?_eq_getElem (by omega)]
      rfl
    rw [goesN_succ, List.length_append, List.length_map, List.take_add_one, e, tests_app]
    have := tgt_len2 (rows.getD i .stop)
    show _ ≤ i + 1 + (tests (rows.take i) + tests [rows.getD i .stop])
    rw [tests_one]
    omega
def Few (p : Prog) : Prop := 4 * tests p.rows ≤ p.rows.length
theorem Goes.few {p : Prog} {G : GoL} (g : Good p) (f : Few p) (h : Goes p G) : G.length < 60 := by
  have a := nodup_sub h.nd (m := goesN p.rows p.rows.length) fun x hx => by
    obtain ⟨e, he, rfl⟩ := List.mem_map.mp hx
    obtain ⟨k1, k2, _⟩ := h.key e he
    exact goesN_has k1 k2
  rw [List.length_map] at a
  have b := goesN_len2 p.rows p.rows.length (Nat.le_refl _)
  rw [List.take_length] at b
  have := g.r40
  unfold Few at f
  omega
theorem bump_mem {g : GL} {q : Int × Int} {e : (Int × Int) × V} (h : e ∈ bump g q) : e.1 = q ∨ ∃ x ∈ g, e.1 = x.1 := by
  unfold bump putK at h
  split at h
  · obtain ⟨x, hx, rfl⟩ := List.mem_map.mp h
    refine .inr ⟨x, hx, ?_⟩
    by_cases c : x.1 = q
    · rw [if_pos c]
    · rw [if_neg c]
  · rcases List.mem_append.mp h with z | z
    · exact .inr ⟨e, z, rfl⟩
    · rw [List.mem_singleton.mp z]; exact .inl rfl
theorem cnt_set {l : List Int} {r : Nat} (h0 : ∀ x ∈ l, 0 ≤ x) (hr : r < l.length) : (∀ x ∈ l.set r (l.getD r 0 + 1), 0 ≤ x) ∧ 0 < (l.set r (l.getD r 0 + 1)).getD r 0 ∧ ∀ b, 0 < l.getD b 0 → 0 < (l.set r (l.getD r 0 + 1)).getD b 0 := by
  have hv : 0 ≤ l.getD r 0 := by
    rw [List.getD_eq_getElem?_getD, List.getElem?_eq_getElem hr]
    exact h0 _ (List.getElem_mem hr)
  have e : (l.set r (l.getD r 0 + 1)).getD r 0 = l.getD r 0 + 1 := by
    rw [List.getD_eq_getElem?_getD, List.getElem?_set_self hr]
    rfl
  refine ⟨fun x hx => ?_, by rw [e]; omega, fun b hb => ?_⟩
  · rcases List.mem_or_eq_of_mem_set hx with z | z
    · exact h0 x z
    · rw [z]; omega
  · by_cases c : b = r
    · subst c; rw [e]; omega
    · rw [List.getD_eq_getElem?_getD, List.getElem?_set_ne (fun z => c z.symm), ← List.getD_eq_getElem?_getD]
      exact hb
theorem runS_cnt {p : Prog} (g : Good p) : ∀ k, (∀ x ∈ (runS p k).cnt, 0 ≤ x) ∧ ∀ e ∈ (runS p k).goes, ∃ b t : Nat, e.1 = ((b : Int), (t : Int)) ∧ 0 < (runS p k).cnt.getD b 0
  | 0 => ⟨fun x hx => by rw [List.eq_of_mem_replicate hx]; exact Int.le_refl 0, fun e he => absurd he (by simp [runS, startS])⟩
  | k + 1 => by
    obtain ⟨h1, h2⟩ := runS_cnt g k
    have O := runS_ok g k
    show (∀ x ∈ (turnS p.rows (runS p k)).cnt, 0 ≤ x) ∧ ∀ e ∈ (turnS p.rows (runS p k)).goes, ∃ b t : Nat, e.1 = ((b : Int), (t : Int)) ∧ 0 < (turnS p.rows (runS p k)).cnt.getD b 0
    unfold turnS
    cases hh : (runS p k).here with
    | none => exact ⟨h1, h2⟩
    | some r =>
      have hr : r < (runS p k).cnt.length := by rw [O.dl]; exact O.here r hh
      obtain ⟨c1, c2, c3⟩ := cnt_set h1 hr
      refine ⟨c1, fun e he => ?_⟩
      have old : ∀ x ∈ (runS p k).goes, e.1 = x.1 → ∃ b t : Nat, e.1 = ((b : Int), (t : Int)) ∧ 0 < ((runS p k).cnt.set r ((runS p k).cnt.getD r 0 + 1)).getD b 0 := by
        intro x hx ex
        obtain ⟨b, t, e1, e2⟩ := h2 x hx
        exact ⟨b, t, ex.trans e1, c3 b e2⟩
      have he : e ∈ goesOf (runS p k).goes r (stepM (runS p k).m (p.rows.getD r .stop)).2 := he
      unfold goesOf at he
      split at he
      · exact old e he rfl
      · rename_i n hn
        rcases bump_mem he with z | ⟨x, hx, ex⟩
        · exact ⟨r, n, z, c2⟩
        · exact old x hx ex
theorem bump_to {g : GL} {q : Int × Int} (y : Int) : (∃ e ∈ bump g q, e.1.2 = y) ↔ (∃ e ∈ g, e.1.2 = y) ∨ q.2 = y := by
  constructor
  · rintro ⟨e, he, h⟩
    rcases bump_mem he with z | ⟨x, hx, z⟩
    · exact .inr (by rw [← z]; exact h)
    · exact .inl ⟨x, hx, by rw [← z]; exact h⟩
  · unfold bump putK
    split
    · rename_i hany
      rintro (⟨e, he, h⟩ | h)
      · refine ⟨_, List.mem_map.mpr ⟨e, he, rfl⟩, ?_⟩
        by_cases c : e.1 = q
        · rw [if_pos c]; exact h
        · rw [if_neg c]; exact h
      · obtain ⟨e, he, c⟩ := List.any_eq_true.mp hany
        have c : e.1 = q := of_decide_eq_true c
        refine ⟨_, List.mem_map.mpr ⟨e, he, rfl⟩, ?_⟩
        rw [if_pos c]
        show e.1.2 = y
        rw [c]; exact h
    · rintro (⟨e, he, h⟩ | h)
      · exact ⟨e, List.mem_append_left _ he, h⟩
      · exact ⟨_, List.mem_append_right _ (List.mem_singleton.mpr rfl), h⟩
theorem runS_done {p : Prog} (g : Good p) : ∀ k (x : Nat), (0 < (runS p k).cnt.getD x 0 ∨ (runS p k).here = some x) ↔ x = 0 ∨ ∃ e ∈ (runS p k).goes, e.1.2 = (x : Int)
  | 0, x => by
    have e : (runS p 0).cnt.getD x 0 = 0 := by
      show (List.replicate p.rows.length (0 : Int)).getD x 0 = 0
      rw [List.getD_eq_getElem?_getD, List.getElem?_replicate]
      split <;> rfl
    rw [e]
    show (0 < (0 : Int) ∨ some 0 = some x) ↔ x = 0 ∨ ∃ e ∈ ([] : GL), _
    constructor
    · rintro (h | h)
      · exact absurd h (by decide)
      · exact .inl (Option.some.inj h).symm
    · rintro (h | ⟨e, he, _⟩)
      · exact .inr (by rw [h])
      · cases he
  | k + 1, x => by
    have ih := runS_done g k x
    have O := runS_ok g k
    have C := (runS_cnt g k).1
    show (0 < (turnS p.rows (runS p k)).cnt.getD x 0 ∨ (turnS p.rows (runS p k)).here = some x) ↔ x = 0 ∨ ∃ e ∈ (turnS p.rows (runS p k)).goes, e.1.2 = (x : Int)
    unfold turnS
    cases hh : (runS p k).here with
    | none =>
      rw [hh] at ih
      show (0 < (runS p k).cnt.getD x 0 ∨ (runS p k).here = some x) ↔ x = 0 ∨ ∃ e ∈ (runS p k).goes, e.1.2 = (x : Int)
      rw [hh]
      exact ih
    | some r =>
      have hr : r < (runS p k).cnt.length := by rw [O.dl]; exact O.here r hh
      rw [hh] at ih
      have c1 : 0 < ((runS p k).cnt.set r ((runS p k).cnt.getD r 0 + 1)).getD x 0 ↔ (0 < (runS p k).cnt.getD x 0 ∨ some r = some x) := by
        obtain ⟨_, d2, d3⟩ := cnt_set C hr
        constructor
        · intro h
          by_cases c : r = x
          · exact .inr (by rw [c])
          · rw [List.getD_eq_getElem?_getD, List.getElem?_set_ne c, ← List.getD_eq_getElem?_getD] at h
            exact .inl h
        · rintro (h | h)
          · exact d3 x h
          · rw [← Option.some.inj h]; exact d2
      show (0 < ((runS p k).cnt.set r ((runS p k).cnt.getD r 0 + 1)).getD x 0 ∨ (stepM (runS p k).m (p.rows.getD r .stop)).2 = some x) ↔ x = 0 ∨ ∃ e ∈ goesOf (runS p k).goes r (stepM (runS p k).m (p.rows.getD r .stop)).2, e.1.2 = (x : Int)
      rw [c1, ih]
      cases (stepM (runS p k).m (p.rows.getD r .stop)).2 with
      | none =>
        show ((_ ∨ _) ∨ none = some x) ↔ x = 0 ∨ ∃ e ∈ (runS p k).goes, e.1.2 = (x : Int)
        constructor
        · rintro (h | h)
          · exact h
          · cases h
        · exact .inl
      | some n =>
        show ((_ ∨ _) ∨ some n = some x) ↔ x = 0 ∨ ∃ e ∈ bump (runS p k).goes ((r : Int), (n : Int)), e.1.2 = (x : Int)
        rw [bump_to]
        constructor
        · rintro ((h | h) | h)
          · exact .inl h
          · exact .inr (.inl h)
          · exact .inr (.inr (by rw [Option.some.inj h]))
        · rintro (h | h | h)
          · exact .inl (.inl h)
          · exact .inl (.inr h)
          · refine .inr ?_
            have h : (n : Int) = (x : Int) := h
            rw [show n = x by omega]
def spEnded (K : Frg) : Sp := fun vs H Q _ => ∃ (d sa : Addr) (ns : List Int), vs = [.ref d] ∧ Ent K H d sa ns ∧
  ∀ (a pa la da : Addr) (p : Prog) (G : GoL) (bs : List Addr) H', Dc K H H' d sa ns → H' a = some (.tup [.ref pa, .ref la, .ref da]) → ProgAt H' pa p → Good p → Few p → H' la = some (.lst (bs.map V.ref)) → GoesAt H' bs G → Goes p G →
    ∀ cs : List Int, H' da = some (.lst (cs.map V.int)) → cs.length = p.rows.length → ((∀ e ∈ G, 0 < cs.getD e.1.1 0) ∧ ∀ x : Nat, 0 < cs.getD x 0 ↔ x = 0 ∨ ∃ e ∈ G, e.1.2 = x) → ((runS p 5000).here = none ∧ ∃ L : List (Int × Int), L.Perm ((runS p 5000).goes.map (·.1)) ∧ G = L.map (goOf (runS p 5000).goes)) → Q (.ref a) H'
def twoP : Prog := ⟨[3], [.load 0 1, .stop]⟩
theorem twoP_good : Good twoP := ⟨by decide, by decide, by decide, fun x hx => by rw [List.mem_singleton.mp hx]; decide, fun r hr => by
  rcases List.mem_cons.mp hr with e | e
  · rw [e]; exact ⟨by decide, by decide⟩
  · rw [List.mem_singleton.mp e]; trivial⟩
theorem twoP_few : Few twoP := by
  show 4 * (isT (.load 0 1) + (isT .stop + 0)) ≤ 2
  rw [isT_plain (r := .load 0 1) trivial, isT_stop]
  decide
theorem twoP_end : (runS twoP 9).here = none := rfl
def strD (s : Str) : PyData := .tuple [.str s]
theorem eq_end {K : Frg} {H : Hp} {a b : Addr} {c : Prop} [Decidable c] {Q : VK} (h1 : H a = some (.tup [.str (if c then "stop" else "long")])) (h2 : H b = some (.tup [.str "stop"])) (q : Q (.bl (!decide c)) H) : rNeD K (.ref a) (.ref b) H Q := by
  by_cases h : c
  · rw [if_pos h] at h1
    rw [decide_eq_true h] at q
    exact ⟨strD "stop", strD "stop", .tup (SqT.of h1) (.cons (.str _) .nil), .tup (SqT.of h2) (.cons (.str _) .nil), by decide +kernel, by decide +kernel, q⟩
  · rw [if_neg h] at h1
    rw [decide_eq_false h] at q
    exact ⟨strD "long", strD "stop", .tup (SqT.of h1) (.cons (.str _) .nil), .tup (SqT.of h2) (.cons (.str _) .nil), by decide +kernel, by decide +kernel, q⟩
theorem Res.goes_at {p : Prog} {fuel : Nat} {H0 H : Hp} {a ls le ld lg : Addr} {ys : List Addr} {L : List (Int × Int)} (g : Good p) (hf : fuel ≤ 5000) (hn : (runS p fuel).here = none) (r : Res p fuel H0 H a ls le ld lg ys L) : ∃ G : GoL, G = L.map (goOf (runS p fuel).goes) ∧ GoesAt H ys G ∧ Goes p G ∧ (∀ e ∈ G, 0 < (runS p fuel).cnt.getD e.1.1 0) ∧ ∀ x : Nat, 0 < (runS p fuel).cnt.getD x 0 ↔ x = 0 ∨ ∃ e ∈ G, e.1.2 = x := by
  obtain ⟨cur, I⟩ := runS_goes g fuel
  obtain ⟨h1, h2⟩ := Goes.of hf I hn r.stb.perm
  refine ⟨_, rfl, ?_, h1, fun e he => ?_, fun x => ?_⟩
  rotate_left
  · obtain ⟨q, hq, rfl⟩ := List.mem_map.mp he
    obtain ⟨x, hx, rfl⟩ := List.mem_map.mp (r.stb.perm.mem_iff.mp hq)
    obtain ⟨b, t, e1, e2⟩ := (runS_cnt g fuel).2 x hx
    show 0 < (runS p fuel).cnt.getD (x.1.1.toNat) 0
    rw [e1]
    exact e2
  · have q := runS_done g fuel x
    rw [hn] at q
    constructor
    · intro h
      rcases q.mp (.inl h) with z | ⟨y, hy, z⟩
      · exact .inl z
      · refine .inr ⟨goOf (runS p fuel).goes y.1, List.mem_map.mpr ⟨y.1, r.stb.perm.mem_iff.mpr (List.mem_map.mpr ⟨y, hy, rfl⟩), rfl⟩, ?_⟩
        show y.1.2.toNat = x
        rw [z]
        rfl
    · intro h
      have h2 : x = 0 ∨ ∃ e ∈ (runS p fuel).goes, e.1.2 = (x : Int) := by
        rcases h with z | ⟨e, he, z⟩
        · exact .inl z
        · obtain ⟨c, hc, rfl⟩ := List.mem_map.mp he
          obtain ⟨y, hy, rfl⟩ := List.mem_map.mp (r.stb.perm.mem_iff.mp hc)
          obtain ⟨b, t, e1, e2⟩ := (runS_cnt g fuel).2 y hy
          have z : y.1.2.toNat = x := z
          refine .inr ⟨y, hy, ?_⟩
          rw [e1] at z ⊢
          have z : t = x := z
          rw [z]
      rcases q.mpr h2 with z | z
      · exact z
      · cases z
  have e : ∀ {ys : List Addr} {L : List (Int × Int)}, (∀ q ∈ L, goVs (goOf (runS p fuel).goes q) = [.int q.1, .int q.2, .int (gcount (valV (runS p fuel).goes q))]) →
      Paired (fun b q => H b = some (.tup [.int q.1, .int q.2, .int (gcount (valV (runS p fuel).goes q))])) ys L → GoesAt H ys (L.map (goOf (runS p fuel).goes)) := by
    intro ys L hq h
    induction h with
    | nil => exact .nil
    | cons hb _ ih => exact .cons (by rw [hq _ List.mem_cons_self]; exact hb) (ih fun q hq2 => hq q (List.mem_cons_of_mem _ hq2))
  exact e h2 r.each
section
variable {P : Program} {w : World} {K : PySem.W.Frag} {mg : Str → Option Value} {base : Heap}
abbrev nEnded : List Str := ["_law_d", "_law_program", "_law_said", "_law_end", "_law_done", "_law_goes"]
theorem scEnded : FnScope nEnded ["_law_d"] (defScope sEnded) := ⟨rfl, rfl, rfl, by decide +kernel, rfl, by decide +kernel, by decide +kernel⟩
theorem ok_ended (c : FEnded K mg) (cStopping : FStopping K mg) (cNext : FNext K mg) (cRun : FLRun K mg) (T : Bt mg) (GStopping : FnOk P w K mg base CX0 7 cStopping.f cStopping.fd pStopping (spStopping K)) (GRun : FnOk P w K mg base CX0 3 cRun.f cRun.fd pLRun spRun) : FnOk P w K mg base CX0 8 c.f c.fd ["_law_d"] (spEnded K) := by
  have GNext : FnOk P w K mg base CX0 1 cNext.f cNext.fd ["_law_dice_here", "_law_many"] (spNext K) := ok_next cNext.F T
  refine c.F.ok scEnded (fun vs H Q E h => ?_) (fun cdv A outer s H vs Q E hr h => ?_)
  · obtain ⟨d, sa, ns, rfl, _⟩ := h
    rfl
  · obtain ⟨d, sa, ns, rfl, hE, k⟩ := h
    refine ⟨_, (pss_cons (ps_set (i := 1) scEnded.nd rfl (Or.inl rfl) (pe_call GStopping (hr.mono (by first | omega | decide)) (by rfl) cStopping.m cStopping.F.kp cStopping.b .nil pass0 (pa_cons (pv 0) (pa_cons (pe_call GNext (hr.mono (by first | omega | decide)) (by rfl) cNext.m cNext.F.kp cNext.b .nil pass0 (pa_cons (pv 0) (pa_cons pe_int pa_nil))) pa_nil))))
      (pss_cons (ps_asg (pe_call GRun (hr.mono (by first | omega | decide)) (by rfl) cRun.m cRun.F.kp cRun.b .nil pass0 (pa_cons (pv 1) (pa_cons pe_int pa_nil))) (pg_tup rfl (pgs_cons (pg_name (i := 2) scEnded.nd rfl (Or.inl rfl)) (pgs_cons (pg_name (i := 3) scEnded.nd rfl (Or.inl rfl)) (pgs_cons (pg_name (i := 4) scEnded.nd rfl (Or.inl rfl)) (pgs_cons (pg_name (i := 5) scEnded.nd rfl (Or.inl rfl)) pgs_nil))))))
      (pss_cons (ps_if (pt_cmpR (op_neD hr.units) (pv 3) (pe_tup (pa_cons pe_str pa_nil)) (nomark _))
          (pss_cons (ps_set (i := 1) scEnded.nd rfl (Or.inl rfl) (pe_tup (pa_cons (pe_tup (pa_cons pe_int pa_nil)) (pa_cons (pe_tup (pa_cons (pe_tup (pa_cons pe_str (pa_cons pe_int (pa_cons pe_int pa_nil)))) (pa_cons (pe_tup (pa_cons pe_str pa_nil)) pa_nil))) pa_nil))))
          (pss_one (ps_asg (pe_call GRun (hr.mono (by first | omega | decide)) (by rfl) cRun.m cRun.F.kp cRun.b .nil pass0 (pa_cons (pv 1) (pa_cons pe_int pa_nil))) (pg_tup rfl (pgs_cons (pg_name (i := 2) scEnded.nd rfl (Or.inl rfl)) (pgs_cons (pg_name (i := 3) scEnded.nd rfl (Or.inl rfl)) (pgs_cons (pg_name (i := 4) scEnded.nd rfl (Or.inl rfl)) (pgs_cons (pg_name (i := 5) scEnded.nd rfl (Or.inl rfl)) pgs_nil))))))))
          pss_nil)
      (pss_one (ps_ret (pe_tup (pa_cons (pv 1) (pa_cons (pv 5) (pa_cons (pv 4) pa_nil))))))))), ?_⟩
    refine ⟨_, rfl, _, rfl, d, sa, ns, _, rfl, hE, by decide, by decide, fun n1 H1 a0 a1 C1 => ?_⟩
    refine ⟨d, sa, ns, n1.toNat, ?_, by omega, C1.ent, fun pa p H2 C2 hp hg hT => ?_⟩
    · show [V.ref d, V.int n1] = _
      rw [Int.toNat_of_nonneg a0]
    refine ⟨_, rfl, pa, p, 5000, rfl, hp, hg, by decide, fun a ls le ld lg ys L H3 r3 => ?_⟩
    have C3 := (C1.trans C2).same r3.same
    refine ⟨a, _, rfl, SqT.of r3.top, rfl, _, _, rfl, _, _, rfl, _, _, rfl, _, _, rfl, rfl, ?_⟩
    refine ⟨_, rfl, (by show 1 ≤ sizeLine; decide), fun t ht => ?_⟩
    refine alloc ht fun H4 s4 e4 => ?_
    refine eq_end (s4 _ _ r3.fin) e4 ⟨_, rfl, ?_⟩
    by_cases hh : (runS p 5000).here = none
    · rw [decide_eq_true hh]
      refine iteF ?_
      obtain ⟨G, hG, h1, h2, h3⟩ := r3.goes_at hg (by decide) hh
      refine ⟨_, rfl, _, rfl, _, rfl, (by show 3 ≤ sizeLine; decide), fun b hb => ?_⟩
      refine alloc hb fun H5 s5 e5 => ?_
      have S := s4.trans s5
      exact k b pa lg ld p G ys H5 (C3.same S) e5 (hp.kp (Kp.same (r3.same.trans S))) hg hT (S _ _ r3.goes) (h1.kp (Kp.same S)) h2 _ (S _ _ r3.cnt) (runS_ok hg 5000).dl h3 ⟨hh, L, r3.stb.perm, hG⟩
    · rw [decide_eq_false hh]
      refine iteT ?_
      refine ⟨(by show 1 ≤ sizeLine; decide), fun t1 ht1 => ?_⟩
      refine alloc ht1 fun H5 s5 e5 => ?_
      refine ⟨(by show 3 ≤ sizeLine; decide), fun t2 ht2 => ?_⟩
      refine alloc ht2 fun H6 s6 e6 => ?_
      refine ⟨(by show 1 ≤ sizeLine; decide), fun t3 ht3 => ?_⟩
      refine alloc ht3 fun H7 s7 e7 => ?_
      refine ⟨(by show 2 ≤ sizeLine; decide), fun t4 ht4 => ?_⟩
      refine alloc ht4 fun H8 s8 e8 => ?_
      refine ⟨(by show 2 ≤ sizeLine; decide), fun t5 ht5 => ?_⟩
      refine alloc ht5 fun H9 s9 e9 => ?_
      have hp2 : ProgAt H9 t5 twoP := ⟨t1, t4, [t2, t3], e9, (s6.trans (s7.trans (s8.trans s9))) _ _ e5, s9 _ _ e8, .cons ((s7.trans (s8.trans s9)) _ _ e6) (.cons ((s8.trans s9) _ _ e7) .nil)⟩
      refine ⟨_, rfl, t5, twoP, 9, rfl, hp2, twoP_good, by decide, fun a2 ls2 le2 ld2 lg2 ys2 L2 H10 r10 => ?_⟩
      have C10 := (C3.same ((((((s4.trans s5).trans s6).trans s7).trans s8).trans s9))).same r10.same
      obtain ⟨G, hG, h1, h2, h3⟩ := r10.goes_at twoP_good (by decide) twoP_end
      refine ⟨a2, _, rfl, SqT.of r10.top, rfl, _, _, rfl, _, _, rfl, _, _, rfl, _, _, rfl, rfl, ?_⟩
      refine ⟨_, rfl, _, rfl, _, rfl, (by show 3 ≤ sizeLine; decide), fun b hb => ?_⟩
      refine alloc hb fun H11 s11 e11 => ?_
      have e59 : runS twoP 5000 = runS twoP 9 := runS_none twoP_end 4991
      exact k b t5 lg2 ld2 twoP G ys2 H11 (C10.same s11) e11 (hp2.kp (Kp.same (r10.same.trans s11))) twoP_good twoP_few (s11 _ _ r10.goes) (h1.kp (Kp.same s11)) h2 _ (s11 _ _ r10.cnt) (runS_ok twoP_good 9).dl h3 ⟨by rw [e59]; exact twoP_end, L2, by rw [e59]; exact r10.stb.perm, by rw [e59]; exact hG⟩
end
end DL
namespace DLR
open PySem PySem.Spec PyProof.Rows L2 DL
/-! ### len(set(xs)), xs a list of fewer than 64 pairs, each once -/
def kp (b : Addr) (g : Nat × Nat) : Addr × List Int := (b, [(g.1 : Int), (g.2 : Int)])
theorem zip_keys {H : Hp} : ∀ {bs : List Addr} {L : List (Nat × Nat)}, PairsL H bs L → ∃ ks : List (Addr × List Int), ks.map (·.1) = bs ∧ ks.map (·.2) = L.map (fun g => [(g.1 : Int), (g.2 : Int)]) ∧ ∀ p ∈ ks, H p.1 = some (.tup (p.2.map V.int))
  | _, _, .nil => ⟨[], rfl, rfl, fun _ h => absurd h (by simp)⟩
  | _, _, .cons (a := b) (l₁ := bs) (b := g) (l₂ := L) h t => by
    obtain ⟨ks, h1, h2, h3⟩ := zip_keys t
    refine ⟨kp b g :: ks, by rw [List.map_cons, h1]; rfl, by rw [List.map_cons, h2]; rfl, fun p hp => ?_⟩
    rcases List.mem_cons.mp hp with e | e
    · subst e; exact h
    · exact h3 p e
def tLenSetP (ta : TE) : TE := fun σ H Q => ta σ H fun x H1 => ∃ (l : Addr) (bs : List Addr) (L : List (Nat × Nat)), x = V.ref l ∧ H1 l = some (.lst (bs.map V.ref)) ∧ PairsL H1 bs L ∧ L.length < 64 ∧ L.Nodup ∧ Q (.int L.length) H1
section
variable {X : Cx}
theorem pe_lenSetP {a : Expr} {ta : TE} {p p2 q pos : Pos} (hc : X.calm = true) (hu : X.A.units + 64 < cLine) (hg : Gl X "len") (hm : X.mg "len" = none) (hg2 : Gl X "set") (hm2 : X.mg "set" = none) (ha : PE X a ta)
    (na : starEach [a] X.env = (false, eval a X.env) :: starEach [] X.env := by rfl) : PE X (.Call (.Name "len" p) [.Call (.Name "set" p2) [a] [] q] [] pos) (tLenSetP ta) := by
  refine ⟨fun pins s σ H Q I h => Call_ (ld_blt I hg hm PySem.boot_len (callWith_builtin1 (args_cons (Call_ (ld_blt I hg2 hm2 boot_set (callWith_type1 (args_cons (thn (ha.run pins s σ H _ I h) fun v s1 ⟨x, H1, I1, r1, q1⟩ => args_nil ?_) na) na rfl))) rfl) rfl rfl))⟩
  obtain ⟨l, bs, L, rfl, hq, hL, h64, hnd, q1⟩ := q1
  cases r1
  obtain ⟨ks, k1, k2, k3⟩ := zip_keys hL
  obtain ⟨its, r, pl, hz⟩ := I1.list (SqL.of (K := X.K) hq)
  have lk : ks.length = L.length := by
    have e := congrArg List.length k2
    rw [List.length_map, List.length_map] at e
    exact e
  have e1 : bs.map V.ref = ks.map fun p => V.ref p.1 := by rw [← k1, List.map_map]; rfl
  rw [e1] at r
  refine call_set_tups (P := X.prog) (w := X.w) ks (I1.ok.hd hc) pl.isList (by simpa using refs_of_vals r) (fun p hp => I1.isT (SqT.of (k3 p hp))) (by omega) (by omega) fun h' tk M es ep t R g hk => args_nil ?_
  have nk : (ks.map (·.2)).Nodup := by
    rw [k2]
    refine List.pairwise_map.mpr (hnd.imp fun {a b} ne z => ne ?_)
    have z1 := (List.cons.inj z).1
    have z2 := (List.cons.inj (List.cons.inj z).2).1
    exact Prod.ext (by omega) (by omega)
  have sz : es.size = L.length := by
    have q0 := SetTR.size (s := { s1 with heap := h', toks := tk }) R
    rw [q0, ← lk]
    refine Nat.le_antisymm ?_ ?_
    · have q := nodup_sub R.nd (m := ks.map (·.2)) fun x hx => by
        obtain ⟨y, hy, rfl⟩ := List.mem_map.mp hx
        exact List.mem_map.mpr ⟨y, List.mem_of_mem_take (g.sub y hy), rfl⟩
      rw [List.length_map, List.length_map] at q
      exact q
    · have q := nodup_sub nk (m := M.map (·.2)) fun x hx => by
        obtain ⟨y, hy, rfl⟩ := List.mem_map.mp hx
        exact g.all y (by rw [List.take_length]; exact hy)
      rw [List.length_map, List.length_map] at q
      exact q
  obtain ⟨o, ho, hex, hd⟩ := R.ob
  have I2 : Inv X pins σ H1 { s1 with heap := h', toks := tk } := I1.kept hk
  exact call_len_set ho hex hd (SetTR.fits (s := { s1 with heap := h', toks := tk }) R) (by rw [sz]; omega) ⟨.int es.size, H1, I2.tok _, ⟨_, rfl⟩, by rw [sz]; exact q1⟩
end
end DLR
namespace DLR
open PySem PySem.Spec PyProof.Rows L2 DL
/-! ### zip(a tuple, a list) -/
def ItzM (K : PySem.W.Frag) (a b : Addr) : It :=
  ⟨fun i H => ∃ (xs ys : List V) (x y : V), SqT K H a xs ∧ SqL K H b ys ∧ xs[i]? = some x ∧ ys[i]? = some y,
   fun i H v H' => ∃ T x y, v = .ref T ∧ H T = none ∧ H' = upd H T (.tup [x, y]) ∧ (∀ zs, SqT K H a zs → zs[i]? = some x) ∧ ∀ zs, SqL K H b zs → zs[i]? = some y,
   fun i H => ∃ xs ys : List V, SqT K H a xs ∧ SqL K H b ys ∧ xs.length = i ∧ ys.length = i⟩
structure ZmAt (z TI TO i1 i2 a b : Addr) (i : Nat) (h : Heap) : Prop where
  z : IsZip h z TI TO .none
  ti : IsTupOf2 h TI (.ref i1) (.ref i2)
  to : ∃ x y, IsTupOf2 h TO x y
  u1 : h.IsTupleIter i1 a i
  u2 : h.IsListIter i2 b i
theorem five {c z TI TO i1 i2 : Addr} (h : c ∈ [z, TI, TO, i1, i2]) : c = z ∨ c = TI ∨ c = TO ∨ c = i1 ∨ c = i2 := by simpa using h
theorem turn_zipM {P : Program} {w : World} {K : PySem.W.Frag} {elts : List Expr} {kk : Nat} {tpos : Pos} {a b z TI TO i1 i2 : Addr} (S : ZipSep2 z TI TO i1 i2 [i1, a] [i2, b]) (n1 : a ≠ i1) (n2 : b ≠ i2) :
    Turn P w K (.Tuple elts kk tpos) (ItzM K a b) [z, TI, TO, i1, i2] z (ZmAt z TI TO i1 i2 a b) where
  mem := by simp
  obj := fun i h st c hc => by
    obtain ⟨hz, hTI, ⟨x, y, hTO⟩, ⟨o1, e1, _, d1⟩, ⟨o2, e2, _, d2⟩⟩ := st
    rcases five hc with rfl | rfl | rfl | rfl | rfl
    · exact ⟨_, hz, fun v q => nomatch q⟩
    · exact ⟨_, hTI, fun v q => nomatch q⟩
    · exact ⟨_, hTO, fun v q => nomatch q⟩
    · exact ⟨o1, e1, fun v q => by rw [d1] at q; cases q⟩
    · exact ⟨o2, e2, fun v q => by rw [d2] at q; cases q⟩
  keep := fun i h h' st k => by
    obtain ⟨hz, hTI, ⟨x, y, hTO⟩, h1, h2⟩ := st
    exact ⟨k z (by simp) _ hz, k TI (by simp) _ hTI, ⟨x, y, k TO (by simp) _ hTO⟩, h1.at fun o q => k i1 (by simp) o q, h2.at fun o q => k i2 (by simp) o q⟩
  item := by
    intro X hP hw hK hc i pins s σ H E I hf st hg
    subst hP hw hK
    obtain ⟨hz, hTI, ⟨x0, y0, hTO⟩, h1, h2⟩ := st
    obtain ⟨xs, ys, x, y, qx, qy, hx, hy⟩ := hg
    obtain ⟨its, rv, p, _⟩ := I.tuple qx
    obtain ⟨jts, rw', p', _⟩ := I.list qy
    obtain ⟨u, hu, ru⟩ := rv.get hx
    obtain ⟨v, hv, rv'⟩ := rw'.get hy
    have zl : z < s.heap.objs.size := Heap.lt_size hz
    have lu : i < its.toArray.size := by simpa using (List.getElem?_eq_some_iff.mp hu).1
    have lv : i < jts.toArray.size := by simpa using (List.getElem?_eq_some_iff.mp hv).1
    refine wpAny_pyNext_zipD2_item S (Draws.tuple (A := X.A.in1) (I.ok.hd hc) i1 a n1 its.toArray) (Draws.list (A := X.A.in1) (I.ok.hd hc) i2 b n2 jts.toArray) hz hTI hTO ⟨h1, p⟩ ⟨h2, p'.isList⟩ lu lv fun y1 y2 h' tk g1 g2 hz' hTO' h1' h2' hT hsz hk => ?_
    have e1 : y1 = u := by
      have q : its[i]? = some y1 := by simpa using g1
      rw [hu] at q
      exact (Option.some.inj q).symm
    have e2 : y2 = v := by
      have q : jts[i]? = some y2 := by simpa using g2
      rw [hv] at q
      exact (Option.some.inj q).symm
    subst e1 e2
    refine ⟨_, rfl, wpAny_letOwnedTupleGo_zip (s := { s with heap := h', toks := tk }) hz' fun h'' hz'' sb => ?_⟩
    have hT2 := (sb.2 _ (Nat.ne_of_gt zl)).trans hT
    have new : ObjOk X.prog X.w (upd H s.heap.objs.size (.tup [x, y])) h'' s.heap.objs.size (.tup [x, y]) :=
      ⟨by show 2 ≤ sizeLine; decide, [y1, y2], .cons ru (.cons rv' .nil), ⟨_, hT2, rfl, _, rfl⟩⟩
    have I1 : Inv X pins σ (upd H s.heap.objs.size (.tup [x, y])) { s with heap := h'', toks := tk } :=
      I.turnedNew (ch := [z, TI, TO, i1, i2]) (fun c o hb q => (sb.2 c (fun e => hb (by simp [e]))).trans (hk c o (fun e => hb (by simp [e])) (fun e => hb (by simp [e])) (fun e => hb (by simp [e])) (fun e => hb (by simp [e])) q)) hf (Nat.le_refl _) new
    refine ⟨.ref s.heap.objs.size, _, I1, rfl, ⟨_, x, y, rfl, I.hok.fresh (Nat.le_refl _), rfl, fun zs hl => by rw [I.tuple_inj hl qx]; exact hx, fun zs hl => by rw [I.list_inj hl qy]; exact hy⟩, ⟨hz'', ?_, ⟨y1, y2, ?_⟩, ?_, ?_⟩, fun c hcm => ?_⟩
    · exact (sb.2 _ S.TIz).trans (hk _ _ S.TIz S.TITO S.TIi1 S.TIi2 hTI)
    · exact (sb.2 _ S.TOz).trans hTO'
    · exact h1'.1.at fun o q => (sb.2 _ S.zi1.symm).trans q
    · exact h2'.1.at fun o q => (sb.2 _ S.zi2.symm).trans q
    · have lt : c < s.heap.objs.size := by
        rcases five hcm with rfl | rfl | rfl | rfl | rfl
        · exact zl
        · exact Heap.lt_size hTI
        · exact Heap.lt_size hTO
        · obtain ⟨_, q, _⟩ := h1; exact Heap.lt_size q
        · obtain ⟨_, q, _⟩ := h2; exact Heap.lt_size q
      rw [upd_ne (Nat.ne_of_lt lt)]
      exact (hf c hcm).1
  done := by
    intro X hP hw hK hc i pins s σ H E I hf st hg
    subst hP hw hK
    obtain ⟨hz, hTI, ⟨x0, y0, hTO⟩, h1, h2⟩ := st
    obtain ⟨xs, ys, qx, qy, hend⟩ := hg
    obtain ⟨its, rv, p, _⟩ := I.tuple qx
    obtain ⟨jts, rw', p', _⟩ := I.list qy
    have l1 : i = its.toArray.size := by rw [List.size_toArray, ← rv.length]; exact hend.1.symm
    have l2 : i = jts.toArray.size := by rw [List.size_toArray, ← rw'.length]; exact hend.2.symm
    refine wpAny_pyNext_zipD2_end S (Draws.tuple (A := X.A.in1) (I.ok.hd hc) i1 a n1 its.toArray) (Draws.list (A := X.A.in1) (I.ok.hd hc) i2 b n2 jts.toArray) hz hTI hTO ⟨h1, p⟩ ⟨h2, p'.isList⟩ (Nat.le_of_eq l1) (Nat.le_of_eq l2) (.inl l1) fun h' tk hk => ⟨rfl, I.turnedL (t' := tk) (ch := [z, TI, TO, i1, i2]) (fun c o hb q => hk c o (fun e => hb (by simp [e])) (fun e => hb (by simp [e])) (fun e => hb (by simp [e])) (fun e => hb (by simp [e])) q) hf⟩
  self := fun A i s Q E st h => wpAny_pyIter_zip st.z h
def iZipM (K : PySem.W.Frag) (ta : TA) : TI := fun σ H R => ta σ H fun vs H1 => ∃ a b xs ys, vs = [.ref a, .ref b] ∧ SqT K H1 a xs ∧ SqL K H1 b ys ∧ R (ItzM K a b) H1
theorem pi_zipM {X : Cx} {e e2 : Expr} {ta : TA} {p pos tpos : Pos} {elts : List Expr} {kk : Nat} (hg : Gl X "zip") (hm : X.mg "zip" = none) (ha : PA X [e, e2] ta)
    (hs : starEach [e, e2] X.env = (false, eval e X.env) :: starEach [e2] X.env := by rfl) (hpl : (backTo pos (starEach [e2] X.env)).any (·.1) = false := by rfl) : PI X (.Tuple elts kk tpos) (.Call (.Name "zip" p) [e, e2] [] pos) (iZipM X.K ta) := by
  refine ⟨fun pins s σ H R I h => Call_ (ld_blt I hg hm boot_zip (callWith_type1 (thn (ha.run pos pins s σ H _ I h) fun us s1 ⟨vs, H1, I1, r1, q1⟩ => ?_) hs hpl))⟩
  obtain ⟨a, b, xs, ys, rfl, qx, qy, q⟩ := q1
  cases r1 with
  | cons ra rr =>
   cases rr with
   | cons rb rr =>
    cases rr
    cases ra
    cases rb
    obtain ⟨its, rv, p1, _⟩ := I1.tuple qx
    obtain ⟨jts, rw', p2, _⟩ := I1.list qy
    have la : a < s1.heap.objs.size := by obtain ⟨o, ho, _⟩ := p1; exact Heap.lt_size ho
    have lb : b < s1.heap.objs.size := p2.lt
    refine zip_begins2 (begins_tuple a its.toArray) (begins_list b jts.toArray) p1 p2.isList fun h' hz hTI hTO g1 g2 hsz hk => wpAny_pyIter_zip hz ?_
    have I2 : Inv X pins σ H1 { s1 with heap := h' } := I1.kept (t' := s1.toks) hk
    have S := zip_sep2 (N := s1.heap.objs.size) (fp1 := [a]) (fp2 := [b]) (fun c hc => by rw [List.mem_singleton.mp hc]; exact la) (fun c hc => by rw [List.mem_singleton.mp hc]; exact lb)
    refine ⟨s1.heap.objs.size + 4, [s1.heap.objs.size + 4, s1.heap.objs.size + 2, s1.heap.objs.size + 3, s1.heap.objs.size, s1.heap.objs.size + 1], _, _, H1, rfl, I2, turn_zipM S (Nat.ne_of_lt la) (Nat.ne_of_lt (Nat.lt_succ_of_lt lb)), ⟨hz, hTI, ⟨_, _, hTO⟩, ⟨_, g1, rfl, rfl⟩, ⟨_, g2, rfl, rfl⟩⟩, fun c hcm => ?_, q⟩
    have hle : s1.heap.objs.size ≤ c := by
      rcases five hcm with rfl | rfl | rfl | rfl | rfl
      · exact Nat.le_add_right _ _
      · exact Nat.le_add_right _ _
      · exact Nat.le_add_right _ _
      · exact Nat.le_refl _
      · exact Nat.le_add_right _ _
    exact I1.fpOk hle (I1.hok.fresh hle)
theorem lc_zipM {K : PySem.W.Frag} {a b : Addr} {xs ys : List V} {g : TG} {tt : TT} {te : TE} {vs : List Nat} {σ : L2.St} {H1 : Hp} {D : Addr} {Qd : Hp → Prop} (hxy : ys.length = xs.length) (Pv : Nat → Hp → Prop) (h0 : Pv 0 (upd H1 D (.lst [])))
    (hl : ∀ i H, i ≤ xs.length → Pv i H → SqT K H a xs ∧ SqL K H b ys)
    (hs : ∀ i x y T H H', xs[i]? = some x → ys[i]? = some y → Pv i H → H T = none → H' = upd H T (.tup [x, y]) → g (.ref T) (wipe σ vs) H' fun σ2 H2 => wipe σ2 vs = wipe σ vs ∧ tt σ2 H2 fun b H3 =>
      if b = true then te σ2 H3 fun y H4 => ∃ acc, H4 D = some (.lst acc) ∧ acc.length < sizeLine ∧ Pv (i + 1) (upd H4 D (.lst (acc ++ [y]))) else Pv (i + 1) H3) (hd : ∀ H, Pv xs.length H → Qd H) :
    ∃ W : Nat → Nat → Hp → Prop, (∃ m, W 0 m (upd H1 D (.lst []))) ∧ ∀ i m H, W i m H →
      ((ItzM K a b).stop i H ∧ Qd H) ∨ ((ItzM K a b).go i H ∧ ∃ Nx : Hp → Prop, (∀ H', Nx H' → ∃ m', m' < m ∧ W (i + 1) m' H') ∧ ∀ x H', (ItzM K a b).yld i H x H' → g x (wipe σ vs) H' fun σ2 H2 => wipe σ2 vs = wipe σ vs ∧ tt σ2 H2 fun b H3 =>
        if b = true then te σ2 H3 fun y H4 => ∃ acc, H4 D = some (.lst acc) ∧ acc.length < sizeLine ∧ Nx (upd H4 D (.lst (acc ++ [y]))) else Nx H3) := by
  refine ⟨fun i m H => m = xs.length - i ∧ i ≤ xs.length ∧ Pv i H, ⟨xs.length, by simp, Nat.zero_le _, h0⟩, ?_⟩
  rintro i m H ⟨rfl, hi, p⟩
  obtain ⟨q, q'⟩ := hl i H hi p
  by_cases hlt : i < xs.length
  · have hlt2 : i < ys.length := by omega
    have gx := List.getElem?_eq_getElem hlt
    have gy := List.getElem?_eq_getElem hlt2
    refine .inr ⟨⟨xs, ys, xs[i], ys[i], q, q', gx, gy⟩, Pv (i + 1), fun H' p' => ⟨xs.length - (i + 1), by omega, rfl, hlt, p'⟩, fun x H' y => ?_⟩
    obtain ⟨T, u, v, rfl, hT, rfl, hu, hv⟩ := y
    exact hs i u v T H _ (hu xs q) (hv ys q') p hT rfl
  · have e : i = xs.length := by omega
    subst e
    exact .inl ⟨⟨xs, ys, q, q', rfl, hxy⟩, hd H p⟩
end DLR
namespace DL
open PySem L2 DLR
/-! ### goes_agree -/
def flowF (G : GoL) (x : Nat) : Int := sumG (fun q => decide (q.2 = x)) G - sumG (fun q => decide (q.1 = x)) G + (if x = 0 then 1 else 0)
def agreeF (p : Prog) (G : GoL) : Bool := (List.range p.rows.length).all fun x => (p.rows.getD x .stop).isWd "stop" || decide (flowF G x = 0)
theorem sumG_app (f : Nat × Nat → Bool) (G : GoL) (e : (Nat × Nat) × Int) : sumG f (G ++ [e]) = sumG f G + if f e.1 = true then e.2 else 0 := by
  unfold sumG
  rw [List.map_append, List.sum_append]
  show _ + ((if f e.1 = true then e.2 else 0) + 0) = _
  rw [Int.add_zero]
theorem flowF_app (G : GoL) (e : (Nat × Nat) × Int) (x : Nat) : flowF (G ++ [e]) x = flowF G x + (if e.1.2 = x then e.2 else 0) - (if e.1.1 = x then e.2 else 0) := by
  unfold flowF
  rw [sumG_app, sumG_app]
  have a : (if (decide (e.1.2 = x)) = true then e.2 else 0) = if e.1.2 = x then e.2 else 0 := by by_cases h : e.1.2 = x <;> simp [h]
  have b : (if (decide (e.1.1 = x)) = true then e.2 else 0) = if e.1.1 = x then e.2 else 0 := by by_cases h : e.1.1 = x <;> simp [h]
  rw [a, b]
  omega
theorem Goes.agree {p : Prog} {G : GoL} (h : Goes p G) : agreeF p G = true := by
  refine List.all_eq_true.mpr fun x _ => ?_
  by_cases e : p.rows.getD x .stop = .stop
  · rw [e]; rfl
  · rw [Bool.or_eq_true]
    exact .inr (decide_eq_true (h.flow x e))
theorem set_mapR {n u : Nat} {f f' : Nat → Int} {y : Int} (hy : f' u = y) (hf : ∀ x, x ≠ u → f' x = f x) : (((List.range n).map f).map V.int).set u (.int y) = ((List.range n).map f').map V.int := by
  rw [List.map_map, List.map_map]
  refine List.ext_getElem (by simp) fun i h1 h2 => ?_
  rw [List.getElem_set]
  by_cases e : u = i
  · subst e
    rw [if_pos rfl]
    simp [hy]
  · rw [if_neg e]
    simp [hf i fun z => e z.symm]
theorem mapR_get {n u : Nat} (f : Nat → Int) (h : u < n) : (((List.range n).map f).map V.int)[u]? = some (.int (f u)) := by
  rw [List.map_map, List.getElem?_map, List.getElem?_range h]
  rfl
theorem all_succ (f : Nat → Bool) (i : Nat) : (List.range (i + 1)).all f = ((List.range i).all f && f i) := by
  rw [List.range_succ, List.all_append]
  show (_ && (f i && true)) = _
  rw [Bool.and_true]
abbrev sGoesAgree : Stmt := top 46
abbrev FGoesAgree (K : Frg) (mg : Str → Option Value) := Fd K mg "goes_agree" sGoesAgree ["program", "goes"]
def spGoesAgree : Sp := fun vs H Q _ => ∃ (a l : Addr) (bs : List Addr) (p : Prog) (G : GoL), vs = [.ref a, .ref l] ∧ ProgAt H a p ∧ Good p ∧ H l = some (.lst (bs.map V.ref)) ∧ GoesAt H bs G ∧ (∀ e ∈ G, e.1.1 < p.rows.length ∧ e.1.2 < p.rows.length) ∧ ∀ H', Same1 H H' → Q (.bl (agreeF p G)) H'
section
variable {P : Program} {w : World} {K : PySem.W.Frag} {mg : Str → Option Value} {base : Heap}
abbrev nGoesAgree : List Str := ["program", "goes", "rows", "left", "begin", "to", "many", "row", "over"]
theorem scGoesAgree : FnScope nGoesAgree ["program", "goes"] (defScope sGoesAgree) := ⟨rfl, rfl, rfl, by decide +kernel, rfl, by decide +kernel, by decide +kernel⟩
theorem ok_goesAgree (c : FGoesAgree K mg) (T : Bt mg) : FnOk P w K mg base CX0 1 c.f c.fd ["program", "goes"] spGoesAgree := by
  refine c.F.ok scGoesAgree (fun vs H Q E h => ?_) (fun cdv A outer s H vs Q E hr h => ?_)
  · obtain ⟨a, l, bs, p, G, rfl, _⟩ := h
    rfl
  · obtain ⟨a, l, bs, p, G, rfl, hPA, g, hl, hG, hlt, k⟩ := h
    have hbl := Paired.length hG
    have hr40 := g.r40
    have hr1 := g.r1
    obtain ⟨wa, ra, rs, hpa, hwa, hra, hR⟩ := hPA
    have hrl := Paired.length hR
    refine ⟨_, (pss_cons (ps_set (i := 2) scGoesAgree.nd rfl (Or.inl rfl) (pe_ix ix_tup (pv 0) pe_int (fun _ _ => rfl)))
      (pss_cons (ps_set (i := 3) scGoesAgree.nd rfl (Or.inl rfl) (pe_op op_rep (pe_lst (pa_cons pe_int pa_nil)) (pe_callB call_len_seq (by rfl) T.len PySem.boot_len (pa_cons (pv 2) pa_nil))))
      (pss_cons (ps_asg pe_int (pg_sub (pv 3) pe_int set_list))
      (pss_cons (ps_for PassesOwn.never rfl (pi_list (pv 1)) (pg_tup rfl (pgs_cons (pg_name (i := 4) scGoesAgree.nd rfl (Or.inl rfl)) (pgs_cons (pg_name (i := 5) scGoesAgree.nd rfl (Or.inl rfl)) (pgs_cons (pg_name (i := 6) scGoesAgree.nd rfl (Or.inl rfl)) pgs_nil))))
          (pss_cons (ps_augS (pv 3) (pv 4) get_list (pv 6) ip_sub set_list)
          (pss_one (ps_augS (pv 3) (pv 5) get_list (pv 6) ip_add set_list))))
      (pss_one (ps_ret (pe_callB (cr_all rfl) (by rfl) T.all (by decide +kernel) (pa_cons (pe_lc (own := [("row", 7), ("over", 8)]) (g := gTup K 2 (gCons (gName 7) (gCons (gName 8) gNil))) rfl scGoesAgree.nd (DLR.pi_zipM (by rfl) T.zip (pa_cons (pv 2) (pa_cons (pv 3) pa_nil))) (blkOk_by (N := nGoesAgree) (sc := defScope sGoesAgree) (by decide +kernel)) (fun _ _ _ _ _ => (pg_tupK K rfl rfl (pgs_cons (pg_name (i := 7) scGoesAgree.nd rfl (Or.inl rfl)) (pgs_cons (pg_name (i := 8) scGoesAgree.nd rfl (Or.inl rfl)) pgs_nil)))) (fun _ _ _ _ _ => (pts_one (pt_cmpR op_ne (pe_ix (ix_tupK K rfl) (pv 7) pe_int (fun _ _ => rfl)) pe_str (nomark _)))) (fun _ _ _ _ _ => (pe_cmpR op_eq (pv 8) pe_int (nomark _)))) pa_nil)))))))), ?_⟩
    refine ⟨_, rfl, a, _, _, _, rfl, rfl, SqT.of hpa, at1, ?_⟩
    refine ⟨(by show 1 ≤ sizeLine; decide), fun l0 hl0 => ?_⟩
    refine alloc hl0 fun H1 s1 e1 => ?_
    refine ⟨_, rfl, ra, _, rfl, .inr (SqT.of (s1 _ _ hra)), l0, _, _, rfl, rfl, e1, ?_, ?_, ?_, fun ld hld => ?_⟩
    · rw [List.length_map]; omega
    · rw [List.length_map]; omega
    · refine sz ?_
      show 1 * _ ≤ _
      rw [List.length_map]; omega
    refine alloc hld fun H2 s2 e2 => ?_
    have S2 := s1.trans s2
    have hldH : H ld = none := s1.free hld
    rw [List.flatten_replicate_singleton, List.length_map, hrl, Int.toNat_natCast] at e2
    have e2 : H2 ld = some (.lst (((List.range p.rows.length).map fun _ => (0 : Int)).map V.int)) := by
      rw [e2, List.map_map]
      congr 2
      refine List.ext_getElem (by simp) fun i h1 h2 => by simp
    refine ⟨_, rfl, ld, _, _, 0, rfl, rfl, e2, ixN_nat (by simp; omega), ?_⟩
    rw [set_mapR (f' := flowF []) (by rfl) (fun x hx => by show (0 : Int) - 0 + (if x = 0 then 1 else 0) = 0; rw [if_neg hx]; rfl)]
    have M3 : Same1 H (upd H2 ld (.lst (((List.range p.rows.length).map (flowF [])).map V.int))) := Same.mut S2 hldH
    have E3 : (upd H2 ld (.lst (((List.range p.rows.length).map (flowF [])).map V.int))) ld = some (.lst (((List.range p.rows.length).map (flowF [])).map V.int)) := upd_same
    revert M3 E3
    refine change fun H3 _ _ => ?_
    intro s3 e3
    refine ⟨_, rfl, l, rfl, ⟨_, SqL.of (s3 _ _ hl)⟩, for_list (K := K) (a := l) (xs := bs.map V.ref) (fun i σ H' => ∃ (x4 x5 x6 : Option V), σ = [some (.ref a), some (.ref l), some (.ref ra), some (.ref ld), x4, x5, x6, none, none] ∧ Same1 H H' ∧ H' ld = some (.lst (((List.range p.rows.length).map (flowF (G.take i))).map V.int)))
      ⟨_, _, _, rfl, s3, e3⟩ (fun i σ H' _ ⟨_, _, _, _, q, _⟩ => SqL.of (q _ _ hl)) ?_ ?_⟩
    · rintro i x σ H4 hi ⟨x4, x5, x6, rfl, s4, e4⟩
      have hic : i < bs.length := by
        have q := (List.getElem?_eq_some_iff.mp hi).1
        rwa [List.length_map] at q
      have ex : x = .ref bs[i] := by
        rw [List.getElem?_map, List.getElem?_eq_getElem hic] at hi
        exact (Option.some.inj hi).symm
      subst ex
      obtain ⟨⟨⟨u, v⟩, m⟩, hq1, hq2⟩ := Paired.get hG (List.getElem?_eq_getElem hic)
      obtain ⟨hu, hv⟩ := hlt _ (List.mem_of_getElem? hq1)
      have hu : u < p.rows.length := hu
      have hv : v < p.rows.length := hv
      refine ⟨bs[i], _, rfl, SqT.of (s4 _ _ hq2), rfl, _, _, rfl, _, _, rfl, _, _, rfl, rfl, ?_⟩
      refine ⟨_, rfl, _, rfl, ld, _, u, _, rfl, rfl, SqL.of e4, mapR_get _ hu, _, rfl, _, _, rfl, rfl, ld, _, _, u, rfl, rfl, e4, ixN_nat (by simpa using hu), ?_⟩
      rw [set_mapR (f' := fun x => if x = u then flowF (G.take i) u - m else flowF (G.take i) x) (if_pos rfl) (fun x hx => if_neg hx)]
      have M5 := Same.mut (o := .lst (((List.range p.rows.length).map fun x => if x = u then flowF (G.take i) u - m else flowF (G.take i) x).map V.int)) s4 hldH
      have E5 : (upd H4 ld (.lst (((List.range p.rows.length).map fun x => if x = u then flowF (G.take i) u - m else flowF (G.take i) x).map V.int))) ld = some (.lst (((List.range p.rows.length).map fun x => if x = u then flowF (G.take i) u - m else flowF (G.take i) x).map V.int)) := upd_same
      revert M5 E5
      refine change fun H5 _ _ => ?_
      intro s5 e5
      refine ⟨_, rfl, _, rfl, ld, _, v, _, rfl, rfl, SqL.of e5, mapR_get _ hv, _, rfl, _, _, rfl, rfl, ld, _, _, v, rfl, rfl, e5, ixN_nat (by simpa using hv), ?_⟩
      rw [set_mapR (f' := flowF (G.take (i + 1))) ?_ ?_]
      · exact ⟨_, _, _, rfl, Same.mut s5 hldH, upd_same⟩
      · rw [List.take_add_one, hq1]
        show flowF (_ ++ [((u, v), m)]) v = _
        rw [flowF_app]
        by_cases e : v = u
        · subst e; simp
        · rw [if_pos rfl, if_neg (show ¬ u = v from fun z => e z.symm), if_neg e]; dsimp only; omega
      · intro x hx
        rw [List.take_add_one, hq1]
        show flowF (_ ++ [((u, v), m)]) x = _
        rw [flowF_app, if_neg (show ¬ v = x from fun z => hx z.symm)]
        by_cases e : x = u
        · subst e; rw [if_pos rfl, if_pos rfl]; omega
        · rw [if_neg (show ¬ u = x from fun z => e z.symm), if_neg e]; omega
    · rintro σ H4 ⟨x4, x5, x6, rfl, s4, e4⟩
      rw [List.length_map, hbl, List.take_length] at e4
      refine ⟨_, rfl, _, rfl, ra, ld, _, _, rfl, SqT.of (s4 _ _ hra), SqL.of e4, fun D hD => ?_⟩
      refine DLR.lc_zipM (K := K) (a := ra) (b := ld) (xs := rs.map V.ref) (ys := ((List.range p.rows.length).map (flowF G)).map V.int) (by simp [hrl])
        (fun i H' => ∃ bl : List Bool, H' D = some (.lst (bl.map V.bl)) ∧ bl.length ≤ i ∧ Same1 H H' ∧ H' ld = some (.lst (((List.range p.rows.length).map (flowF G)).map V.int)) ∧ bl.all id = (List.range i).all fun x => (p.rows.getD x .stop).isWd "stop" || decide (flowF G x = 0))
        ⟨[], upd_same, Nat.le_refl _, s4.trans (Same.new hD), by rw [upd_ne (ne_of_none e4 hD)]; exact e4, rfl⟩ (fun i H' _ ⟨_, _, _, q, q2, _⟩ => ⟨SqT.of (q _ _ hra), SqL.of q2⟩) ?_ ?_
      · rintro i x y t H5 H6 hx hy ⟨bl, hd5, hbi, s5, e5, hall⟩ ht rfl
        have hic : i < rs.length := by
          have q := (List.getElem?_eq_some_iff.mp hx).1
          rwa [List.length_map] at q
        have hip : i < p.rows.length := by omega
        have ex : x = .ref rs[i] := by
          rw [List.getElem?_map, List.getElem?_eq_getElem hic] at hx
          exact (Option.some.inj hx).symm
        have ey : y = .int (flowF G i) := by
          rw [mapR_get _ hip] at hy
          exact (Option.some.inj hy).symm
        subst ex ey
        obtain ⟨r, hq1, hq2⟩ := Paired.get hR (List.getElem?_eq_getElem hic)
        have er : p.rows.getD i .stop = r := by rw [List.getD_eq_getElem?_getD, hq1]; rfl
        have hDH : H D = none := s4.free hD
        have nlD : ld ≠ D := ne_of_none e4 hD
        refine alloc ht fun H6 s6 e6 => ?_
        have S6 := s5.trans s6
        refine ⟨t, _, rfl, SqT.of e6, rfl, _, _, rfl, _, _, rfl, rfl, ?_⟩
        refine ⟨rfl, _, rfl, rs[i], _, _, _, rfl, rfl, SqT.of (S6 _ _ hq2), atI_nat (j := 0) (Row.w0 r), rfl, !r.isWd "stop", rfl, ?_⟩
        cases hs : r.isWd "stop" with
        | true =>
          refine iteF ⟨bl, s6 _ _ hd5, by omega, S6, s6 _ _ e5, ?_⟩
          rw [all_succ, ← hall, er, hs, Bool.true_or, Bool.and_true]
        | false =>
          refine iteT ?_
          have hd6 := s6 _ _ hd5
          refine ⟨_, rfl, rfl, _, hd6, szl (by rw [List.length_map]; omega), bl ++ [decide (flowF G i = 0)], ?_, by rw [List.length_append]; exact Nat.succ_le_succ hbi, Same.mut S6 hDH, by rw [upd_ne nlD]; exact s6 _ _ e5, ?_⟩
          · rw [upd_same, List.map_append]
            have ed : decide (V.int (flowF G i) = V.int 0) = decide (flowF G i = 0) := decide_eq_decide.mpr ⟨fun z => V.int.inj z, fun z => congrArg V.int z⟩
            simp only [List.map_cons, List.map_nil, ed]
          · rw [all_succ, ← hall, er, hs, Bool.false_or, List.all_append]
            show (_ && (_ && true)) = _
            rw [Bool.and_true]
            rfl
      · rintro H5 ⟨bl, hd5, _, s5, _, hall⟩
        refine ⟨D, _, rfl, SqL.of hd5, ?_⟩
        rw [hall, List.length_map, hrl]
        exact k H5 s5
end
end DL
namespace DL
open PySem L2 DLR
theorem in64 {k : Nat} {A : Around} (hr : Room k A) : A.units + 64 < cLine := by
  have := in65 hr
  omega
theorem goes_lt {p : Prog} {G : GoL} (g : Good p) (h : Goes p G) : ∀ e ∈ G, e.1.1 < p.rows.length ∧ e.1.2 < p.rows.length := fun e he => by
  obtain ⟨k1, k2, _⟩ := h.key e he
  exact goesN_lt g (goesN_has k1 k2)
abbrev sCheckGoes : Stmt := top 43
abbrev sBeatsBy : Stmt := top 49
abbrev FCheckGoes (K : Frg) (mg : Str → Option Value) := Fd K mg "check_goes" sCheckGoes ["program", "goes"]
abbrev FBeatsBy (K : Frg) (mg : Str → Option Value) := Fd K mg "beats_by" sBeatsBy ["program", "laying", "goes"]
def spCheckGoes : Sp := fun vs H Q _ => ∃ (a l : Addr) (bs : List Addr) (p : Prog) (G : GoL), vs = [.ref a, .ref l] ∧ ProgAt H a p ∧ Good p ∧ H l = some (.lst (bs.map V.ref)) ∧ GoesAt H bs G ∧ Goes p G ∧ G.length < 60 ∧ ∀ H', Same1 H H' → Q .non H'
def spBeats : Sp := fun vs H Q _ => ∃ (a b l : Addr) (bs : List Addr) (p : Prog) (y : Lay) (G : GoL), vs = [.ref a, .ref b, .ref l] ∧ ProgAt H a p ∧ Good p ∧ LayAt H b y ∧ LayOk p y ∧ H l = some (.lst (bs.map V.ref)) ∧ GoesAt H bs G ∧ Goes p G ∧ G.length < 60 ∧
  ∀ H', Same1 H H' → Q (.int (beatsF y p.rows G)) H'
section
variable {P : Program} {w : World} {K : PySem.W.Frag} {mg : Str → Option Value} {base : Heap}
abbrev nCheckGoes : List Str := ["program", "goes", "may_be", "go", "pairs", "found", "begin", "_"]
theorem scCheckGoes : FnScope nCheckGoes ["program", "goes"] (defScope sCheckGoes) := ⟨rfl, rfl, rfl, by decide +kernel, rfl, by decide +kernel, by decide +kernel⟩
theorem ok_checkGoes (c : FCheckGoes K mg) (cGoesThatMayBe : FGoesMay K mg) (cIsGo : FIsGo K mg) (cGoesAgree : FGoesAgree K mg) (cRowsFound : FRowsFound K mg) (T : Bt mg) (TS : Bs mg)
    (GGoesThatMayBe : FnOk P w K mg base CX0 4 cGoesThatMayBe.f cGoesThatMayBe.fd ["program"] spGoesMay) (GIsGo : FnOk P w K mg base CX0 2 cIsGo.f cIsGo.fd ["go", "may_be"] spIsGo) : FnOk P w K mg base CX0 5 c.f c.fd ["program", "goes"] spCheckGoes := by
  have GGoesAgree : FnOk P w K mg base CX0 1 cGoesAgree.f cGoesAgree.fd ["program", "goes"] spGoesAgree := ok_goesAgree cGoesAgree T
  have GRowsFound : FnOk P w K mg base CX0 1 cRowsFound.f cRowsFound.fd ["pairs"] spRowsFound := ok_rowsFound cRowsFound
  refine c.F.ok scCheckGoes (fun vs H Q E h => ?_) (fun cdv A outer s H vs Q E hr h => ?_)
  · obtain ⟨a, l, bs, p, G, rfl, _⟩ := h
    rfl
  · obtain ⟨a, l, bs, p, G, rfl, hP, g, hl, hG, gk, g60, k⟩ := h
    have hbl := Paired.length hG
    have hr40 := g.r40
    have hr1 := g.r1
    refine ⟨_, (pss_cons (ps_set (i := 2) scCheckGoes.nd rfl (Or.inr rfl) (pe_call GGoesThatMayBe (hr.mono (by first | omega | decide)) (by rfl) cGoesThatMayBe.m cGoesThatMayBe.F.kp cGoesThatMayBe.b .nil pass0 (pa_cons (pv 0) pa_nil)))
      (pss_cons (ps_if (pt_not (pt_val (pe_callB (cr_all rfl) (by rfl) T.all (by decide +kernel) (pa_cons (pe_lc (own := [("go", 3)]) (g := gName 3) (tt := tYes) rfl scCheckGoes.nd (pi_list (pv 1)) (blkOk_by (N := nCheckGoes) (sc := defScope sCheckGoes) (by decide +kernel)) (fun _ _ _ _ _ => (pg_name (i := 3) scCheckGoes.nd rfl (Or.inl rfl))) (fun _ _ _ _ _ => pts_nil) (fun _ _ _ _ _ => (pe_call GIsGo (hr.mono (by first | omega | decide)) (by rfl) cIsGo.m cIsGo.F.kp cIsGo.b .nil pass0 (pa_cons (pv 3) (pa_cons (pv 2) pa_nil))))) pa_nil))))
          (pss_one ps_never)
          pss_nil)
      (pss_cons (ps_setLc (i := 4) (own := [("go", 3)]) (g := gName 3) (tt := tYes) rfl scCheckGoes.nd rfl rfl (sw_true rfl rfl rfl (by decide +kernel)) (pi_list (pv 1)) (blkOk_by (N := nCheckGoes) (sc := defScope sCheckGoes) (by decide +kernel)) (fun _ _ _ _ _ => (pg_name (i := 3) scCheckGoes.nd rfl (Or.inl rfl))) (fun _ _ _ _ _ => pts_nil) (fun _ _ _ _ _ => (pe_slice sl_tupS (pv 3) po_none (po_some pe_int))))
      (pss_cons (ps_if (pt_cmpR op_ne (pe_lenSetP rfl (in64 hr) (by rfl) T.len (by rfl) TS.set (pv 4)) (pe_callB call_len_seq (by rfl) T.len PySem.boot_len (pa_cons (pv 4) pa_nil)) (nomark _))
          (pss_one ps_never)
          pss_nil)
      (pss_cons (ps_if (pt_not (pt_val (pe_call GGoesAgree (hr.mono (by first | omega | decide)) (by rfl) cGoesAgree.m cGoesAgree.F.kp cGoesAgree.b .nil pass0 (pa_cons (pv 0) (pa_cons (pv 1) pa_nil)))))
          (pss_one ps_never)
          pss_nil)
      (pss_cons (ps_set (i := 5) scCheckGoes.nd rfl (Or.inr rfl) (pe_call GRowsFound (hr.mono (by first | omega | decide)) (by rfl) cRowsFound.m cRowsFound.F.kp cRowsFound.b .nil pass0 (pa_cons (pv 4) pa_nil)))
      (pss_one (ps_if (pt_not (pt_val (pe_callB (cr_all rfl) (by rfl) T.all (by decide +kernel) (pa_cons (pe_lc (own := [("begin", 6), ("_", 7)]) (g := gTup K 2 (gCons (gName 6) (gCons (gName 7) gNil))) (tt := tYes) rfl scCheckGoes.nd (pi_list (pv 4)) (blkOk_by (N := nCheckGoes) (sc := defScope sCheckGoes) (by decide +kernel)) (fun _ _ _ _ _ => (pg_tupK K rfl rfl (pgs_cons (pg_name (i := 6) scCheckGoes.nd rfl (Or.inl rfl)) (pgs_cons (pg_name (i := 7) scCheckGoes.nd rfl (Or.inl rfl)) pgs_nil)))) (fun _ _ _ _ _ => pts_nil) (fun _ _ _ _ _ => (pe_cmp (pc_din (hu_of hr) (pv 6) (pv 5))))) pa_nil))))
          (pss_one ps_never)
          pss_nil)))))))), ?_⟩
    refine ⟨_, rfl, a, p, rfl, hP, g, fun m ms H1 s1 nm e1 hM => ?_⟩
    -- all are goes
    refine ⟨_, rfl, l, rfl, ⟨_, SqL.of (s1 _ _ hl)⟩, fun D2 hD2 => ?_⟩
    refine lc_list (K := K) (a := l) (xs := bs.map V.ref) (fun i H' => Same1 H1 H' ∧ H' D2 = some (.lst ((List.replicate i true).map V.bl))) ⟨Same.new hD2, upd_same⟩ (fun i H' _ ⟨q, _⟩ => SqL.of (q _ _ (s1 _ _ hl))) ?_ ?_
    · rintro i x H3 hi ⟨s3, hd3⟩
      have hic : i < bs.length := by
        have q := (List.getElem?_eq_some_iff.mp hi).1
        rwa [List.length_map] at q
      have ex : x = .ref bs[i] := by
        rw [List.getElem?_map, List.getElem?_eq_getElem hic] at hi
        exact (Option.some.inj hi).symm
      subst ex
      obtain ⟨e, hq1, hq2⟩ := Paired.get hG (List.getElem?_eq_getElem hic)
      obtain ⟨k1, k2, k3, k4⟩ := gk.key _ (List.mem_of_getElem? hq1)
      refine ⟨rfl, _, rfl, _, rfl, bs[i], m, ms, _, e, rfl, (s1.trans s3) _ _ hq2, s3 _ _ e1, PairsL.kp hM (Kp.same s3), goesN_has k1 k2, k3, fun H4 s4 => ?_⟩
      have hd4 := s4 _ _ hd3
      refine ⟨_, hd4, szl (by rw [List.length_map, List.length_replicate]; omega), Same.mut (s3.trans s4) hD2, ?_⟩
      rw [upd_same, List.replicate_succ', List.map_append]
      rfl
    rintro H1' ⟨s1', hd1⟩
    refine ⟨D2, _, rfl, SqL.of hd1, ?_⟩
    rw [show (List.replicate (bs.map V.ref).length true).all id = true by rw [List.all_eq_true]; intro x hx; rw [List.eq_of_mem_replicate hx]; rfl]
    refine ⟨_, rfl, iteF ?_⟩
    have S1 : Same1 H H1' := s1.trans s1'
    refine ⟨_, rfl, l, rfl, ⟨_, SqL.of (S1 _ _ hl)⟩, fun D hD => ?_⟩
    refine lc_list (K := K) (a := l) (xs := bs.map V.ref) (fun i H' => ∃ ds : List Addr, Same1 H1' H' ∧ H' D = some (.lst (ds.map V.ref)) ∧ PairsL H' ds ((G.map (·.1)).take i))
      ⟨[], Same.new hD, upd_same, .nil⟩ (fun i H' _ ⟨_, q, _⟩ => SqL.of (q _ _ (S1 _ _ hl))) ?_ ?_
    · rintro i x H2 hi ⟨ds, s2, hd2, hp2⟩
      have hic : i < bs.length := by
        have q := (List.getElem?_eq_some_iff.mp hi).1
        rwa [List.length_map] at q
      have ex : x = .ref bs[i] := by
        rw [List.getElem?_map, List.getElem?_eq_getElem hic] at hi
        exact (Option.some.inj hi).symm
      subst ex
      obtain ⟨e, hq1, hq2⟩ := Paired.get hG (List.getElem?_eq_getElem hic)
      have hdl := Paired.length hp2
      rw [List.length_take] at hdl
      refine ⟨rfl, _, rfl, _, rfl, bs[i], _, rfl, (S1.trans s2) _ _ hq2, fun t H3 s3 e3 => ?_⟩
      have e3 : H3 t = some (.tup (pairVs e.1)) := e3
      have hd3 := s3 _ _ hd2
      refine ⟨_, hd3, szl (by rw [List.length_map]; omega), ds ++ [t], Same.mut (s2.trans s3) hD, by rw [upd_same, List.map_append]; rfl, ?_⟩
      rw [List.take_add_one, List.getElem?_map, hq1]
      exact Paired.mapP (Paired.app (Paired.mapP hp2 fun b q h => s3 _ _ h) (Paired.one e3)) fun b q h => Kp.lst hd3 _ _ h
    rintro H2 ⟨ds, s2, hd2, hp2⟩
    rw [List.length_map, hbl, ← List.length_map (as := G) (f := (·.1)), List.take_length] at hp2
    have hdl := Paired.length hp2
    rw [List.length_map] at hdl
    have S2 := S1.trans s2
    have hDH : H D = none := S1.free hD
    refine ⟨_, rfl, D, ds, G.map (·.1), rfl, hd2, hp2, by rw [List.length_map]; omega, gk.nd, ?_⟩
    refine ⟨_, rfl, D, _, rfl, .inl (SqL.of hd2), ?_⟩
    rw [List.length_map, List.length_map, hdl]
    refine ⟨rfl, _, rfl, ?_⟩
    rw [show (!decide (V.int ((G.length : Nat) : Int) = V.int ((G.length : Nat) : Int))) = false by simp]
    refine iteF ?_
    refine ⟨_, rfl, _, rfl, a, l, bs, p, G, rfl, hP.kp (Kp.same S2), g, S2 _ _ hl, hG.kp (Kp.same S2), goes_lt g gk, fun H4 s4 => ?_⟩
    rw [gk.agree]
    refine ⟨_, rfl, iteF ?_⟩
    have S4 := S2.trans s4
    refine ⟨_, rfl, D, ds, G.map (·.1), p.rows.length, rfl, s4 _ _ hd2, PairsL.kp hp2 (Kp.same s4), hr1, by omega, fun q hq => ?_, fun fa F H5 s5 hF h0 hcl => ?_⟩
    · obtain ⟨e, he, rfl⟩ := List.mem_map.mp hq
      exact (goes_lt g gk e he).2
    have S5 := s4.trans s5
    have hd5 := S5 _ _ hd2
    have hp5 : PairsL H5 ds (G.map (·.1)) := PairsL.kp hp2 (Kp.same S5)
    have hin := gk.reach (· ∈ F) h0 fun e he => hcl e.1 (List.mem_map.mpr ⟨e, he, rfl⟩)
    refine ⟨_, rfl, D, rfl, ⟨_, SqL.of hd5⟩, fun D3 hD3 => ?_⟩
    refine lc_list (K := K) (a := D) (xs := ds.map V.ref) (fun i H' => Same1 H5 H' ∧ H' D3 = some (.lst ((List.replicate i true).map V.bl))) ⟨Same.new hD3, upd_same⟩ (fun i H' _ ⟨q, _⟩ => SqL.of (q _ _ hd5)) ?_ ?_
    · rintro i x H6 hi ⟨s6, hd6⟩
      have hic : i < ds.length := by
        have q := (List.getElem?_eq_some_iff.mp hi).1
        rwa [List.length_map] at q
      have ex : x = .ref ds[i] := by
        rw [List.getElem?_map, List.getElem?_eq_getElem hic] at hi
        exact (Option.some.inj hi).symm
      subst ex
      obtain ⟨⟨u, v⟩, hq1, hq2⟩ := Paired.get hp5 (List.getElem?_eq_getElem hic)
      obtain ⟨e, he, hee⟩ := List.mem_map.mp (List.mem_of_getElem? hq1)
      have hu : u ∈ F := by
        have q := hin e he
        rw [hee] at q
        exact q
      obtain ⟨o, hg, ho⟩ := (hF.same s6).get u
      rw [decide_eq_true hu] at ho
      refine ⟨ds[i], _, rfl, SqT.of (s6 _ _ hq2), rfl, _, _, rfl, _, _, rfl, rfl, ?_⟩
      refine ⟨rfl, _, rfl, _, rfl, fa, o, rfl, hg, ?_⟩
      rw [ho]
      refine ⟨_, hd6, szl (by rw [List.length_map, List.length_replicate]; omega), Same.mut s6 hD3, ?_⟩
      rw [upd_same, List.replicate_succ', List.map_append]
      rfl
    rintro H6 ⟨s6, hd6⟩
    refine ⟨D3, _, rfl, SqL.of hd6, ?_⟩
    rw [show (List.replicate (ds.map V.ref).length true).all id = true by rw [List.all_eq_true]; intro x hx; rw [List.eq_of_mem_replicate hx]; rfl]
    refine ⟨_, rfl, iteF ?_⟩
    exact k H6 (S2.trans (S5.trans s6))
abbrev nBeatsBy : List Str := ["program", "laying", "goes", "going", "begin", "to", "many"]
theorem scBeatsBy : FnScope nBeatsBy ["program", "laying", "goes"] (defScope sBeatsBy) := ⟨rfl, rfl, rfl, by decide +kernel, rfl, by decide +kernel, by decide +kernel⟩
theorem ok_beatsBy (c : FBeatsBy K mg) (cCost : FCost K mg) (T : Bt mg) (GCost : FnOk P w K mg base CX0 5 cCost.f cCost.fd ["program", "laying", "begin", "to"] spCost) : FnOk P w K mg base CX0 6 c.f c.fd ["program", "laying", "goes"] spBeats := by
  refine c.F.ok scBeatsBy (fun vs H Q E h => ?_) (fun cdv A outer s H vs Q E hr h => ?_)
  · obtain ⟨a, b, l, bs, p, y, G, rfl, _⟩ := h
    rfl
  · obtain ⟨a, b, l, bs, p, y, G, rfl, hP, g, hY, yk, hl, hG, gk, g60, k⟩ := h
    have hcl := Paired.length hG
    have r1 := g.r1
    refine ⟨_, (pss_cons (ps_set (i := 3) scBeatsBy.nd rfl (Or.inl rfl) (pe_callB (cr_sum rfl) (by rfl) T.sum (by decide +kernel) (pa_cons (pe_lc (own := [("begin", 4), ("to", 5), ("many", 6)]) (g := gTup K 3 (gCons (gName 4) (gCons (gName 5) (gCons (gName 6) gNil)))) (tt := tYes) rfl scBeatsBy.nd (pi_list (pv 2)) (blkOk_by (N := nBeatsBy) (sc := defScope sBeatsBy) (by decide +kernel)) (fun _ _ _ _ _ => (pg_tupK K rfl rfl (pgs_cons (pg_name (i := 4) scBeatsBy.nd rfl (Or.inl rfl)) (pgs_cons (pg_name (i := 5) scBeatsBy.nd rfl (Or.inl rfl)) (pgs_cons (pg_name (i := 6) scBeatsBy.nd rfl (Or.inl rfl)) pgs_nil))))) (fun _ _ _ _ _ => pts_nil) (fun _ _ _ _ _ => (pe_op op_mul (pv 6) (pe_call GCost (hr.mono (by first | omega | decide)) (by rfl) cCost.m cCost.F.kp cCost.b .nil pass0 (pa_cons (pv 0) (pa_cons (pv 1) (pa_cons (pv 4) (pa_cons (pv 5) pa_nil)))))))) pa_nil)))
      (pss_one (ps_ret (pe_op op_add (pe_op op_add (pe_ix ix_tup (pe_ix ix_tup (pv 1) pe_int (fun _ _ => rfl)) pe_int (fun _ _ => rfl)) (pv 3)) pe_int)))), ?_⟩
    refine ⟨_, rfl, l, rfl, ⟨_, SqL.of hl⟩, fun D hD => ?_⟩
    refine lc_list (K := K) (a := l) (xs := bs.map V.ref) (fun i H' => Same1 H H' ∧ H' D = some (.lst (((G.map fun e => e.2 * costF y p.rows e.1.1 e.1.2).take i).map V.int))) ⟨Same.new hD, upd_same⟩ (fun i H' _ ⟨q, _⟩ => SqL.of (q _ _ hl)) ?_ ?_
    · rintro i x H1 hi ⟨s1, hD1⟩
      have hic : i < bs.length := by
        have q := (List.getElem?_eq_some_iff.mp hi).1
        rwa [List.length_map] at q
      have ex : x = .ref bs[i] := by
        rw [List.getElem?_map, List.getElem?_eq_getElem hic] at hi
        exact (Option.some.inj hi).symm
      subst ex
      obtain ⟨⟨⟨u, v⟩, n⟩, hq1, hq2⟩ := Paired.get hG (List.getElem?_eq_getElem hic)
      obtain ⟨k1, k2, k3, k4⟩ := gk.key _ (List.mem_of_getElem? hq1)
      obtain ⟨_, hv⟩ := goesN_lt g (goesN_has k1 k2)
      refine ⟨bs[i], _, rfl, SqT.of (s1 _ _ hq2), rfl, _, _, rfl, _, _, rfl, _, _, rfl, rfl, ?_⟩
      refine ⟨rfl, _, rfl, _, rfl, _, rfl, _, rfl, _, rfl, a, b, p, y, u, v, rfl, hP.kp (Kp.same s1), g, hY.kp (Kp.same s1), yk, k1, hv, fun H2 s2 => ?_⟩
      refine ⟨_, _, rfl, rfl, .inl ⟨by dsimp only at k3 ⊢; omega, by dsimp only at k4 ⊢; omega⟩, ?_⟩
      refine ⟨_, s2 _ _ hD1, szl (by rw [List.length_map, List.length_take, List.length_map]; omega), Same.mut (s1.trans s2) hD, ?_⟩
      rw [upd_same, List.take_add_one, List.getElem?_map, hq1, List.map_append]
      rfl
    · rintro H1 ⟨s1, hD1⟩
      rw [List.length_map, hcl, ← List.length_map (as := G) (f := fun e => e.2 * costF y p.rows e.1.1 e.1.2), List.take_length] at hD1
      obtain ⟨pl, hh, hs, hb, hpl, hhl, hH⟩ := hY
      refine ⟨D, _, rfl, SqL.of hD1, ?_⟩
      refine ⟨_, rfl, b, _, _, _, rfl, rfl, SqT.of (s1 _ _ hb), at1, pl, _, _, _, rfl, rfl, SqT.of (s1 _ _ hpl), atI_nat (j := 0) (nI_at (by rw [yk.pl]; omega)), _, rfl, _, _, rfl, rfl, _, _, rfl, rfl, ?_⟩
      have q := k H1 s1
      unfold beatsF at q
      rw [show ((y.places.getD 0 0 : Nat) : Int) + 1 + (G.map fun e => e.2 * costF y p.rows e.1.1 e.1.2).sum = ((y.places.getD 0 0 : Nat) : Int) + (G.map fun e => e.2 * costF y p.rows e.1.1 e.1.2).sum + 1 by omega] at q
      exact q
abbrev nBeats : List Str := ["program", "laying", "goes"]
end
end DL
namespace DLR
open PySem PySem.Spec PyProof.Rows L2
/-! ### how often a truth stands in a list; what is never asked -/
def rCntB (K : PySem.W.Frag) : V → List V → Hp → VK → Prop := fun x xs H Q => ∃ (p : Addr) (bs : List Bool) (b : Bool), x = .ref p ∧ xs = [.bl b] ∧ SqL K H p (bs.map V.bl) ∧ Q (.int (bs.count b : Nat)) H
theorem flat_bl : ∀ bs : List Bool, (bs.map V.bl).all flatV = true
  | [] => rfl
  | _ :: bs => flat_bl bs
theorem count_bl (b : Bool) : ∀ {bs : List Bool} {us : List Value}, Vals (bs.map V.bl) us → us.countP (eqU (.bl b)) = bs.count b
  | [], _, .nil => rfl
  | c :: bs, u :: us, .cons r t => by
    rw [List.countP_cons, count_bl b t, eqU_of r rfl, List.count_cons]
    rfl
section
variable {X : Cx}
theorem mt_countB : MtR X "list.count" (rCntB X.K) := by
  intro pins s σ H x xs v us Q I rx rxs h
  obtain ⟨p, bs, b, rfl, rfl, hs, q⟩ := h
  cases rx
  obtain ⟨u, rfl, ru⟩ := rxs.one
  obtain ⟨its, rv, ⟨⟨cls, dd, data, sl⟩, n, ho, hc, hdn, hd⟩, hlen⟩ := I.list hs
  simp only at hc hd
  subst hc hd
  refine call_meets PySem.F.slot_list_count ⟨_, ho, rfl⟩ PySem.F.entry_list_count (PySem.F.args_list_count_2 _ _)
    (SeqAt.list_countAt p its.toArray n dd sl u (eqU (.bl b))) ⟨ho, fun y hy => mem_eqAt ru rfl rv (flat_bl bs) y (by simpa using hy), ?_⟩
  refine ⟨.int (bs.count b : Nat), H, I.tok _, ⟨s.toks, ?_⟩, q⟩
  show Value.int ((its.toArray.toList.countP (eqU (.bl b)) : Nat) : Int) s.toks = Value.int ((bs.count b : Nat) : Int) s.toks
  rw [show its.toArray.toList = its from rfl, count_bl b rv]
def tNo : TE := fun _ _ _ => False
theorem pe_no {e : Expr} : PE X e tNo := ⟨fun _ _ _ _ _ _ h => h.elim⟩
end
end DLR
namespace DL
open PySem L2 DLR LamX
/-! ### what a work told, or as what it was refused -/
structure Er (mg : Str → Option Value) where
  BP : Addr
  BL : Addr
  BF : Addr
  BG : Addr
  BE : Addr
  TM : Addr
  OV : Addr
  BT : Addr
  DE : Addr
  mBP : mg "BadProgram" = some (.ref BP)
  mBL : mg "BadLaying" = some (.ref BL)
  mBF : mg "BadFuel" = some (.ref BF)
  mBG : mg "BadGoes" = some (.ref BG)
  mBE : mg "BadPaper" = some (.ref BE)
  mTM : mg "TooMany" = some (.ref TM)
  mOV : mg "Over" = some (.ref OV)
  mBT : mg "BadText" = some (.ref BT)
  mDE : mg "DrumError" = some (.ref DE)
  VE : mg "ValueError" = none
def wordJ : Nat → Str
  | 0 => "program"
  | 1 => "laying"
  | 2 => "fuel"
  | 3 => "goes"
  | 4 => "paper"
  | 5 => "many"
  | 6 => "over"
  | _ => "text"
structure Knd (K : Frg) {mg : Str → Option Value} (E : Er mg) (D : Addr) (j : Nat) : Prop where
  ex : ExcC K D
  one : PySem.W.exmOne K (.ref D) (.ref E.DE) = some true
  ve : PySem.W.kitOne K (.ref D) (.type "ValueError") = some true
  k0 : PySem.W.kitOne K (.ref D) (.ref E.BP) = some (decide (0 = j))
  k1 : PySem.W.kitOne K (.ref D) (.ref E.BL) = some (decide (1 = j))
  k2 : PySem.W.kitOne K (.ref D) (.ref E.BF) = some (decide (2 = j))
  k3 : PySem.W.kitOne K (.ref D) (.ref E.BG) = some (decide (3 = j))
  k4 : PySem.W.kitOne K (.ref D) (.ref E.BE) = some (decide (4 = j))
  k5 : PySem.W.kitOne K (.ref D) (.ref E.TM) = some (decide (5 = j))
  k6 : PySem.W.kitOne K (.ref D) (.ref E.OV) = some (decide (6 = j))
  k7 : PySem.W.kitOne K (.ref D) (.ref E.BT) = some (decide (7 = j))
  j : j = 2 ∨ j = 3 ∨ j = 5 ∨ j = 6
abbrev sTold : Stmt := top 86
abbrev nTold : List Str := ["_law_work", "e", "_law_kinds", "_law_word"]
theorem scTold : FnScope nTold ["_law_work"] (defScope sTold) := ⟨rfl, rfl, rfl, by decide +kernel, rfl, by decide +kernel, by decide +kernel⟩
def suiteOf : Stmt → List Stmt
  | .Try _ [.ExceptHandler _ _ b _] _ _ _ => b
  | _ => []
abbrev toldSuite : List Stmt := suiteOf ((defBody sTold).getD 0 (.Pass ⟨0, 0, 0, 0⟩))
theorem at_kinds {j : Nat} (h : j = 2 ∨ j = 3 ∨ j = 5 ∨ j = 6) : ([decide (0 = j), decide (1 = j), decide (2 = j), decide (3 = j)] ++ [decide (4 = j), decide (5 = j), decide (6 = j), decide (7 = j)]).count true = 1 ∧
    atI [V.str "program", V.str "laying", V.str "fuel", V.str "goes", V.str "paper", V.str "many", V.str "over", V.str "text"] (j : Int) = some (.str (wordJ j)) ∧
    ((([decide (0 = j), decide (1 = j), decide (2 = j), decide (3 = j)] ++ [decide (4 = j), decide (5 = j), decide (6 = j), decide (7 = j)] : List Bool).map V.bl)[j]? = some (.bl true)) ∧
    (∀ (m : Nat) (z' : V), m < j → (([decide (0 = j), decide (1 = j), decide (2 = j), decide (3 = j)] ++ [decide (4 = j), decide (5 = j), decide (6 = j), decide (7 = j)] : List Bool).map V.bl)[m]? = some z' → eqV z' (.bl true) = false) ∧
    decide (V.str (wordJ j) = V.str "program") = false ∧ decide (V.str (wordJ j) = V.str "laying") = false ∧ decide (V.str (wordJ j) = V.str "paper") = false ∧ decide (V.str (wordJ j) = V.str "text") = false := by
  have low : ∀ {l : List V} {j : Nat}, (∀ i, i < j → ∃ z, l[i]? = some z ∧ eqV z (.bl true) = false) → ∀ (m : Nat) (z' : V), m < j → l[m]? = some z' → eqV z' (.bl true) = false := by
    intro l j h m z' hm e
    obtain ⟨z, h1, h2⟩ := h m hm
    rw [h1] at e
    rw [← Option.some.inj e]
    exact h2
  rcases h with rfl | rfl | rfl | rfl
  · refine ⟨by decide +kernel, rfl, rfl, low fun i hi => ?_, by decide +kernel, by decide +kernel, by decide +kernel, by decide +kernel⟩
    match i, hi with
    | 0, _ => exact ⟨_, rfl, rfl⟩
    | 1, _ => exact ⟨_, rfl, rfl⟩
  · refine ⟨by decide +kernel, rfl, rfl, low fun i hi => ?_, by decide +kernel, by decide +kernel, by decide +kernel, by decide +kernel⟩
    match i, hi with
    | 0, _ => exact ⟨_, rfl, rfl⟩
    | 1, _ => exact ⟨_, rfl, rfl⟩
    | 2, _ => exact ⟨_, rfl, rfl⟩
  · refine ⟨by decide +kernel, rfl, rfl, low fun i hi => ?_, by decide +kernel, by decide +kernel, by decide +kernel, by decide +kernel⟩
    match i, hi with
    | 0, _ => exact ⟨_, rfl, rfl⟩
    | 1, _ => exact ⟨_, rfl, rfl⟩
    | 2, _ => exact ⟨_, rfl, rfl⟩
    | 3, _ => exact ⟨_, rfl, rfl⟩
    | 4, _ => exact ⟨_, rfl, rfl⟩
  · refine ⟨by decide +kernel, rfl, rfl, low fun i hi => ?_, by decide +kernel, by decide +kernel, by decide +kernel, by decide +kernel⟩
    match i, hi with
    | 0, _ => exact ⟨_, rfl, rfl⟩
    | 1, _ => exact ⟨_, rfl, rfl⟩
    | 2, _ => exact ⟨_, rfl, rfl⟩
    | 3, _ => exact ⟨_, rfl, rfl⟩
    | 4, _ => exact ⟨_, rfl, rfl⟩
    | 5, _ => exact ⟨_, rfl, rfl⟩
theorem relRef {C : Addr} : ∀ u, RelV (.ref C) u → u = .ref C := fun u h => by cases h; rfl
theorem relTy {C : String} : ∀ u, RelV (.ty C) u → u = .type C := fun u h => by cases h; rfl
section
variable {X : Cx}
theorem told_suite (E : Er X.mg) (T : Bt X.mg) {g : Addr} {cdg : Value} {s : Shared} {H0 : Hp} {CX : CXT} {E0 : XK} {j : Nat} {D a : Addr} {oe : Obj} {pn : List (Addr × Obj)} (kn : Knd X.K E D j) (hz : Zc (.ref D) none oe) (hf : ∃ vs, oe.data = .fields vs) :
    ∃ t, PSs ((cxOf CX X.prog X.w X.K X.mg X.base nTold "_law_told" (defScope sTold) g cdg X.A X.stack s H0 E0).nox.suite a ((a, oe) :: pn)) toldSuite t ∧
      ∀ (D : Ends) (σ : L2.St) (H : Hp), σ.length = 4 → σ[1]? = some (some (.ref a)) → (∀ t' H', Same1 H H' → H' t' = some (.tup [.str (wordJ j)]) → D.rt (.ref t') H') → t D σ H := by
  refine ⟨_, (pss_cons (ps_set (i := 2) scTold.nd rfl (Or.inl rfl) (pe_lst (pa_cons (pe_callB (call_isE kn.ex hz hf) (by rfl) T.isinstance (by decide +kernel) (pa_cons (pv 1) (pa_cons (pe_glob (v := .ref E.BP) rfl E.mBP rfl) pa_nil))) (pa_cons (pe_callB (call_isE kn.ex hz hf) (by rfl) T.isinstance (by decide +kernel) (pa_cons (pv 1) (pa_cons (pe_glob (v := .ref E.BL) rfl E.mBL rfl) pa_nil))) (pa_cons (pe_callB (call_isE kn.ex hz hf) (by rfl) T.isinstance (by decide +kernel) (pa_cons (pv 1) (pa_cons (pe_glob (v := .ref E.BF) rfl E.mBF rfl) pa_nil))) (pa_cons (pe_callB (call_isE kn.ex hz hf) (by rfl) T.isinstance (by decide +kernel) (pa_cons (pv 1) (pa_cons (pe_glob (v := .ref E.BG) rfl E.mBG rfl) pa_nil))) pa_nil))))))
      (pss_cons (ps_set (i := 2) scTold.nd rfl (Or.inl rfl) (pe_op op_cat (pv 2) (pe_lst (pa_cons (pe_callB (call_isE kn.ex hz hf) (by rfl) T.isinstance (by decide +kernel) (pa_cons (pv 1) (pa_cons (pe_glob (v := .ref E.BE) rfl E.mBE rfl) pa_nil))) (pa_cons (pe_callB (call_isE kn.ex hz hf) (by rfl) T.isinstance (by decide +kernel) (pa_cons (pv 1) (pa_cons (pe_glob (v := .ref E.TM) rfl E.mTM rfl) pa_nil))) (pa_cons (pe_callB (call_isE kn.ex hz hf) (by rfl) T.isinstance (by decide +kernel) (pa_cons (pv 1) (pa_cons (pe_glob (v := .ref E.OV) rfl E.mOV rfl) pa_nil))) (pa_cons (pe_callB (call_isE kn.ex hz hf) (by rfl) T.isinstance (by decide +kernel) (pa_cons (pv 1) (pa_cons (pe_glob (v := .ref E.BT) rfl E.mBT rfl) pa_nil))) pa_nil)))))))
      (pss_cons (ps_if (PW.pt (pw_or (pt_cmpR op_ne (pe_bm PySem.F.plainAttrs_list PySem.F.slot_list_count PySem.F.type_list_count mt_countB (pv 2) (pa_cons pe_bl pa_nil)) pe_int (nomark _)) (pw_or1 (pt_not (pt_val (pe_callB (call_isE kn.ex hz hf) (by rfl) T.isinstance (by decide +kernel) (pa_cons (pv 1) (pa_cons (pe_bltn (v := .ty "ValueError") (by rfl) E.VE (by decide +kernel) rfl) pa_nil))))))))
          (pss_one ps_never)
          pss_nil)
      (pss_cons (ps_set (i := 3) scTold.nd rfl (Or.inl rfl) (pe_ix ix_list (pe_lst (pa_cons pe_str (pa_cons pe_str (pa_cons pe_str (pa_cons pe_str (pa_cons pe_str (pa_cons pe_str (pa_cons pe_str (pa_cons pe_str pa_nil))))))))) (pe_bm PySem.F.plainAttrs_list PySem.F.slot_list_index PySem.F.type_list_index mt_index (pv 2) (pa_cons pe_bl pa_nil)) (fun _ _ => rfl)))
      (pss_cons (ps_if (pt_cmpR op_eq (pv 3) pe_str (nomark _))
          (pss_one ps_never)
          pss_nil)
      (pss_cons (ps_if (pt_cmpR op_eq (pv 3) pe_str (nomark _))
          (pss_one ps_never)
          pss_nil)
      (pss_cons (ps_if (pt_cmpR op_eq (pv 3) pe_str (nomark _))
          (pss_one ps_never)
          pss_nil)
      (pss_one (ps_ret (pe_ifExp (pt_cmpR op_eq (pv 3) pe_str (nomark _)) pe_no (pe_tup (pa_cons (pv 3) pa_nil)))))))))))), ?_⟩
  intro D' σ H hl h1 hq
  obtain ⟨x0, x1, x2, x3, rfl⟩ : ∃ x0 x1 x2 x3, σ = [x0, x1, x2, x3] := by
    match σ, hl with
    | [x0, x1, x2, x3], _ => exact ⟨x0, x1, x2, x3, rfl⟩
  have h1 : x1 = some (.ref a) := Option.some.inj h1
  subst h1
  obtain ⟨q1, q2, q3, q4, q5, q6, q7, q8⟩ := at_kinds kn.j
  refine ⟨_, rfl, .ref E.BP, .ref E.BP, _, rfl, relRef, kn.k0, _, rfl, .ref E.BL, .ref E.BL, _, rfl, relRef, kn.k1, _, rfl, .ref E.BF, .ref E.BF, _, rfl, relRef, kn.k2, _, rfl, .ref E.BG, .ref E.BG, _, rfl, relRef, kn.k3, (by show 4 ≤ sizeLine; decide), fun l1 hl1 => ?_⟩
  refine alloc hl1 fun H1 s1 e1 => ?_
  refine ⟨_, rfl, _, rfl, .ref E.BE, .ref E.BE, _, rfl, relRef, kn.k4, _, rfl, .ref E.TM, .ref E.TM, _, rfl, relRef, kn.k5, _, rfl, .ref E.OV, .ref E.OV, _, rfl, relRef, kn.k6, _, rfl, .ref E.BT, .ref E.BT, _, rfl, relRef, kn.k7, (by show 4 ≤ sizeLine; decide), fun l2 hl2 => ?_⟩
  refine alloc hl2 fun H2 s2 e2 => ?_
  refine ⟨l1, l2, _, _, rfl, rfl, s2 _ _ e1, e2, (by show 8 ≤ sizeLine; decide), fun l3 hl3 => ?_⟩
  refine alloc hl3 fun H3 s3 e3 => ?_
  have e3 : H3 l3 = some (.lst (([decide (0 = j), decide (1 = j), decide (2 = j), decide (3 = j)] ++ [decide (4 = j), decide (5 = j), decide (6 = j), decide (7 = j)] : List Bool).map V.bl)) := e3
  generalize hk : ([decide (0 = j), decide (1 = j), decide (2 = j), decide (3 = j)] ++ [decide (4 = j), decide (5 = j), decide (6 = j), decide (7 = j)] : List Bool) = ks at q1 q3 q4 e3
  refine ⟨_, rfl, .inl ⟨rfl, _, SqL.of e3⟩, l3, ks, true, rfl, rfl, SqL.of e3, ?_⟩
  rw [q1]
  refine ⟨rfl, _, rfl, ?_⟩
  rw [show (!decide (V.int ((1 : Nat) : Int) = V.int 1)) = false by decide +kernel]
  refine iteF ⟨_, rfl, .ty "ValueError", .type "ValueError", true, rfl, relTy, kn.ve, _, rfl, ?_⟩
  refine iteF ?_
  refine ⟨(by show 8 ≤ sizeLine; decide), fun l4 hl4 => ?_⟩
  refine alloc hl4 fun H4 s4 e4 => ?_
  refine ⟨_, rfl, .inl ⟨rfl, _, SqL.of (s4 _ _ e3)⟩, l3, _, _, j, _, rfl, rfl, SqL.of (s4 _ _ e3), rfl, flat_bl ks, q3, rfl, q4, ?_⟩
  refine ⟨l4, _, _, _, rfl, rfl, SqL.of e4, q2, ?_⟩
  refine ⟨_, rfl, rfl, _, rfl, ?_⟩
  rw [q5]
  refine iteF ⟨_, rfl, rfl, _, rfl, ?_⟩
  rw [q6]
  refine iteF ⟨_, rfl, rfl, _, rfl, ?_⟩
  rw [q7]
  refine iteF ⟨_, rfl, rfl, _, rfl, ?_⟩
  rw [q8]
  refine iteF ⟨_, rfl, (by show 1 ≤ sizeLine; decide), fun t ht => ?_⟩
  refine alloc ht fun H5 s5 e5 => ?_
  exact hq t H5 ((((s1.trans s2).trans s3).trans s4).trans s5) e5
end
end DL
namespace DL
open PySem PySem.Spec PyProof.Rows L2 DLR LamX
def TTd (K : Frg) {mg : Str → Option Value} (E : Er mg) : (XK → Hp → VK → Prop) → Hp → VK → Prop := fun tl H Q =>
  tl (fun cls d H' => ∃ (D : Addr) (j : Nat), Knd K E D j ∧ cls = .ref D ∧ d = none ∧ ∀ t H'', Same1 H' H'' → H'' t = some (.tup [.str (wordJ j)]) → Q (.ref t) H'') H Q
section
variable {X : Cx}
def tsTold (K : Frg) {mg : Str → Option Value} (E : Er mg) : Addr → Value → Option Addr → TS := fun a cls d D σ H =>
  σ.length = 4 → σ[1]? = some (some (.ref a)) ∧ ∃ (D0 : Addr) (j : Nat), Knd K E D0 j ∧ cls = .ref D0 ∧ d = none ∧ ∀ t H'', Same1 H H'' → H'' t = some (.tup [.str (wordJ j)]) → D.rt (.ref t) H''
theorem told_ok (E : Er X.mg) (T : Bt X.mg) {g : Addr} {cdg : Value} {q : Str} : GivesTo X nTold "_law_told" (defScope sTold) g cdg (defBody sTold) "_law_work" q (TTd X.K E) := by
  intro f c' s H Q tl act hc h
  refine ⟨_, pss_one (ps_try_as (X := (cxOf C8.CX0 X.prog X.w X.K X.mg X.base nTold "_law_told" (defScope sTold) g cdg X.A X.stack s H C8.E0).nox) (c := .ref E.DE) (i := 1)
      (tb := fun W D σ H => ∃ Ech : XK, (∀ cls d σ' H', Ech cls d H' → W cls d σ' H') ∧ σ[0]? = some (some (.ref f)) ∧ H c' = some (CodeO c' q) ∧ tl Ech H D.rt)
      (ts := tsTold X.K E) rfl rfl scTold.nd rfl rfl ⟨by rfl, by decide, .inl E.mDE⟩ LamX.takes0 (fun W pn xe tk _ => ?_) (fun a oe cls d pn hz hf => ?_)), ?_⟩
  · refine ⟨fun pins s' σ H' D I h' => ?_⟩
    obtain ⟨Ech, hW, h1, h2, h3⟩ := h'
    exact (pss_one (ps_ret (act W pn xe Ech _ _ tk hW))).run pins s' σ H' D I ⟨h1, h2, h3⟩
  · refine ⟨fun pins s' σ H' D I h' => ?_⟩
    have hl : σ.length = 4 := I.len
    obtain ⟨h1, D0, j, kn, rfl, rfl, hq⟩ := h' hl
    obtain ⟨t, ht, hr⟩ := told_suite (X := X) (g := g) (cdg := cdg) (s := s) (H0 := H) (CX := C8.CX0) (E0 := C8.E0) (a := a) (pn := pn) E T kn hz hf
    exact ht.run pins s' σ H' D I (hr D σ H' hl h1 hq)
  · refine ⟨fun cls d H' => ∃ (D : Addr) (j : Nat), Knd X.K E D j ∧ cls = .ref D ∧ d = none ∧ ∀ t H'', Same1 H' H'' → H'' t = some (.tup [.str (wordJ j)]) → Q (.ref t) H'', ?_, rfl, hc, h⟩
    rintro cls d σ' H' ⟨D, j, kn, rfl, rfl, hq⟩
    refine ⟨true, kn.one, fun _ a ha => ?_, fun z => by cases z⟩
    intro hl
    rw [List.length_set] at hl
    refine ⟨?_, D, j, kn, rfl, rfl, hq⟩
    rw [List.getElem?_set_self (by omega)]
end
structure OvK (K : Frg) (D : Addr) : Prop where
  x : PySem.W.excIn K D [.type "ValueError", .type "Exception", .type "BaseException", .type "object"] "ValueError.__new__" = true
  k : PySem.W.keepIn K (.ref D) = true
  b : PySem.W.subIn K (.ref D) (.type "BaseException") = some true
  t : PySem.W.typeIn K (.ref D) = some (.type "type")
end DL
namespace DLR
open PySem PySem.Spec PyProof.Rows L2
/-! ### {e for x in xs if t}, e a whole number -/
abbrev IS := (Int → Bool) × Nat
abbrev isO (w : World) (D : Addr) (t : IS) : HO := SetO w D t.1 t.2
def isAdd (t : IS) (c : Int) : IS := (fun j => t.1 j || decide (j = c), if t.1 c = true then t.2 else t.2 + 1)
abbrev is0 : IS := (fun _ => false, 0)
def turnI (w : World) (D : Addr) (g : TG) (tt : TT) (te : TE) (vs : List Nat) (σ : L2.St) (Nx : Hp → Prop) (x : V) (H : Hp) : Prop :=
  g x (wipe σ vs) H fun σ2 H2 => wipe σ2 vs = wipe σ vs ∧ tt σ2 H2 fun b H3 =>
    if b = true then te σ2 H3 fun y H4 => ∃ (c : Int) (t : IS), y = .int c ∧ H4 D = some (isO w D t) ∧ t.2 + 1 < scanBound ∧ Nx (upd H4 D (isO w D (isAdd t c)))
    else Nx H3
def tScI (w : World) (wi : TI) (g : TG) (tt : TT) (te : TE) (vs : List Nat) : TE := fun σ H Q => wi σ H fun J H1 => ∀ D, H1 D = none →
  ∃ W : Nat → Nat → Hp → Prop, (∃ m, W 0 m (upd H1 D (isO w D is0))) ∧ ∀ i m H, W i m H → (J.stop i H ∧ Q (.ref D) H) ∨
    (J.go i H ∧ ∃ Nx : Hp → Prop, (∀ H', Nx H' → ∃ m', m' < m ∧ W (i + 1) m' H') ∧ ∀ x H', J.yld i H x H' → turnI w D g tt te vs σ Nx x H')
section
variable {X : Cx}
theorem laysI {pins : List (Addr × Obj)} {σ : L2.St} {H : Hp} {s : Shared} {E : Value → Shared → Prop} {D : Addr} {t : IS} {c : Int} {k : Tok} {Q : Value → Shared → Prop} (I : Inv X pins σ H s)
    (hD : H D = some (isO X.w D t)) (hz : t.2 + 1 < scanBound) (h : ∀ s', Inv X pins σ (upd H D (isO X.w D (isAdd t c))) s' → Q .none s') :
    wpAny (model X.prog X.w) X.A (call (.builtin "set.add") [.ref D, .int c k]) Q E s := by
  refine setR_add (setO_get I hD) hz fun h' sb R => h _ ?_
  obtain ⟨o, _, _, _, ho, _⟩ := id R
  exact I.write (e := D) (t' := s.toks + 1) (by rw [hD]; trivial) (.inl rfl) (fun b u n e => (sb.2 b n).trans e) ⟨o, ho⟩ (setO_new R)
theorem pe_scI {elt tg iter : Expr} {ifs : List Expr} {scope : Scope} {own : List (PySem.Str × Nat)} {pos : Pos} {wi : TI} {g : TG} {tt : TT} {te : TE} (calm : X.calm = true) (uniq : X.N.Nodup) (walk : PI X tg iter wi) (blk : BlkOk X.N X.env.scope scope own)
    (tgt : ∀ (s : Shared) (H : Hp) (C : Addr) (cl : List (PySem.Str × Addr)) (fp : List Addr), PG (X.blk s H scope (compEnvC scope cl C X.env) fp) tg g)
    (tst : ∀ (s : Shared) (H : Hp) (C : Addr) (cl : List (PySem.Str × Addr)) (fp : List Addr), PTs (X.blk s H scope (compEnvC scope cl C X.env) fp) ifs tt)
    (item : ∀ (s : Shared) (H : Hp) (C : Addr) (cl : List (PySem.Str × Addr)) (fp : List Addr), PE (X.blk s H scope (compEnvC scope cl C X.env) fp) elt te)
    (plain : ∀ x, foldedSetIterable iter X.env x = pure x := by intro _; rfl) : PE X (.SetComp elt [⟨tg, iter, ifs, 0⟩] scope pos) (tScI X.w wi g tt te (own.map (·.2))) := by
  refine ⟨fun pins s σ H Q I h => ?_⟩
  rw [PpSet.eval_SetComp]
  have cells : ∀ y ∈ scope.names, y.2 = .free → ∃ c, X.env.cells.lookup y.1 = some c := fun y hy e => (blk.free y hy e).elim (fun k => I.ok.has _ (.inl k)) fun k => I.ok.has _ (.inr k)
  refine wpAny_comprehension_free (use := none) rfl plain (closure_ok cells) blk.kind (fun y hy e => (blk.uniq y hy).trans (by rw [e])) (thn (walk.run pins s σ H _ I h) fun _ _ hw => thn hw fun _ s2 begun => ?_)
  obtain ⟨it, fp, at_, J, H2, rfl, I2, T, began, own2, wish⟩ := begun
  refine PpSet.newSet_ok (newEnv_comp ?_)
  have fresh : H2 s2.heap.objs.size = none := I2.hok.fresh (Nat.le_refl _)
  obtain ⟨W, ⟨m0, w0⟩, goes⟩ := wish _ fresh
  -- the set stands
  have I3 := I2.laid (a := s2.heap.objs.size) (o := isO X.w s2.heap.objs.size is0) (h' := s2.heap.push { cls := .type "set", dict := none, data := .set #[] 0 (.fresh 0 0 (!X.w.params.followText "set-order")) }) (t' := s2.toks)
    (fun b o e => Heap.get?_push_of_some _ e) (Nat.le_refl _) (setO_new (setR_fresh X.w))
  have below : ∀ b ∈ fp, b < s2.heap.objs.size := fun b hb => by
    obtain ⟨o, e, _⟩ := T.obj _ _ began b hb
    exact Heap.lt_size e
  have up : ∀ b o, s2.heap.get? b = some o → (s2.heap.push { cls := .type "set", dict := none, data := .set #[] 0 (.fresh 0 0 (!X.w.params.followText "set-order")) }).get? b = some o := fun b o e => Heap.get?_push_of_some _ e
  have grown : (s2.heap.push { cls := .type "set", dict := none, data := .set #[] 0 (.fresh 0 0 (!X.w.params.followText "set-order")) }).objs.size = s2.heap.objs.size + 1 := Heap.size_push ..
  generalize s2.heap.push { cls := .type "set", dict := none, data := .set #[] 0 (.fresh 0 0 (!X.w.params.followText "set-order")) } = h3 at I3 up grown ⊢
  generalize s2.heap.objs.size = D at I3 below fresh goes w0 grown ⊢
  have far : ∀ b ∈ fp, FpOk X pins (upd H2 D (isO X.w D is0)) b ∧ b < h3.objs.size := fun b hb =>
    ⟨⟨(upd_ne (Nat.ne_of_lt (below b hb))).trans (own2 b hb).1, (own2 b hb).2⟩, by rw [grown]; exact Nat.lt_succ_of_lt (below b hb)⟩
  have stands : at_ 0 h3 := T.keep _ _ _ began fun b _ => up b
  have B := block_start (fp := fp) I3 blk uniq far
  have pg := tgt { s2 with heap := h3 } (upd H2 D (isO X.w D is0)) h3.objs.size (cellsFrom (h3.objs.size + 1) scope.names (cloFrom X.env.cells scope.names [])) fp
  have pt := tst { s2 with heap := h3 } (upd H2 D (isO X.w D is0)) h3.objs.size (cellsFrom (h3.objs.size + 1) scope.names (cloFrom X.env.cells scope.names [])) fp
  have pe := item { s2 with heap := h3 } (upd H2 D (isO X.w D is0)) h3.objs.size (cellsFrom (h3.objs.size + 1) scope.names (cloFrom X.env.cells scope.names [])) fp
  have hidden : ∀ b ∈ fp, (upd H2 D (isO X.w D is0)) b = none := fun b hb => (far b hb).1.1
  have kept4 : ∀ b o, h3.get? b = some o → (pushCells (h3.push { cls := .type "dict", data := .dict #[] }) scope.names).get? b = some o := fun b o e => pushCells_keeps _ _ _ _ (Heap.get?_push_of_some _ e)
  have stands4 := T.keep _ _ _ stands fun b _ => kept4 b
  show codeAny (model X.prog X.w) X.A (.compStart _ 0 (.ref it) (.ref D) (compEnvC scope (cellsFrom (h3.objs.size + 1) scope.names (cloFrom X.env.cells scope.names [])) h3.objs.size X.env)) _ _
  have home : (compEnvC scope (cellsFrom (h3.objs.size + 1) scope.names (cloFrom X.env.cells scope.names [])) h3.objs.size X.env).locals = h3.objs.size := rfl
  generalize compEnvC scope (cellsFrom (h3.objs.size + 1) scope.names (cloFrom X.env.cells scope.names [])) h3.objs.size X.env = ce at B pg pt pe home ⊢
  generalize upd H2 D (isO X.w D is0) = H3 at I3 B pg pt pe w0 hidden far
  -- what the iterator owns is out of the block's sight
  have owned : ∀ {σ' : L2.St} {H' : Hp} {z : Shared}, Inv (X.blk { s2 with heap := h3 } H3 scope ce fp) [] σ' H' z → (∀ b ∈ fp, H' b = none) → ∀ b ∈ fp, FpOk (X.blk { s2 with heap := h3 } H3 scope ce fp) [] H' b := by
    intro σ' H' z J none_ b hb
    have x1 := J.ok.exf b hb
    exact ⟨none_ b hb, x1.1, J.ok.exfs b hb, .inl hb, fun x c e => x1.2 x c e, fun p hp => by cases hp⟩
  have rounds : ∀ z : Shared, (∃ n i H', Inv (X.blk { s2 with heap := h3 } H3 scope ce fp) [] (wipe σ (own.map (·.2))) H' z ∧ at_ i z.heap ∧ (∀ b ∈ fp, H' b = none) ∧ W i n H') →
      codeAny (model X.prog X.w) X.A (.compLoop (.SetComp elt [⟨tg, iter, ifs, 0⟩] scope pos) 0 (.ref it) (.ref D) ce) (compPost (model X.prog X.w) X.A X.xe none (EP X pins σ Q) (.ref D) h3.objs.size) z := by
    rintro z ⟨n0, hz⟩
    refine PpSet.compLoopS_any (fun n z => ∃ i H', Inv (X.blk { s2 with heap := h3 } H3 scope ce fp) [] (wipe σ (own.map (·.2))) H' z ∧ at_ i z.heap ∧ (∀ b ∈ fp, H' b = none) ∧ W i n H') ?_ n0 hz
    rintro n z5 ⟨i, H5, I5, a5, none5, w5⟩
    rcases goes i n H5 w5 with ⟨stop, out⟩ | ⟨go, Nx, less, step⟩
    · refine thnF (T.done (X.blk { s2 with heap := h3 } H3 scope ce fp) rfl rfl rfl calm i [] z5 _ H5 (fun _ _ => False) I5 (owned I5 none5) a5 stop) fun r z6 ⟨hr, I6⟩ => ?_
      subst hr
      have back : Inv X pins σ H5 z6 := I3.call' (ch := fp) I6.os I6.base I6.hok I6.bare fun b hb => by
        obtain ⟨⟨_, f1, f2, f3, f4, f5⟩, _⟩ := far b hb
        exact ⟨f3, f1, f4, f5⟩
      have away : H5 h3.objs.size = none := by
        rw [← home]
        exact I6.free
      obtain ⟨m, ns, _⟩ := I6.loc
      have ns : z6.heap.Ns ce.locals m := ns
      rw [home] at ns
      obtain ⟨f0, f1, f2, f3, f4, f5⟩ := I3.fpOk (Nat.le_refl _) away
      exact ⟨m, ns, fun h' sb => ⟨.ref D, H5, back.turned (t' := z6.toks) (fun b o n e => (sb.2 b n).trans e) f0 f1 f3 f4 f5, rfl, out⟩⟩
    · refine thnF (T.item (X.blk { s2 with heap := h3 } H3 scope ce fp) rfl rfl rfl calm i [] z5 _ H5 (fun _ _ => False) I5 (owned I5 none5) a5 go) fun r z6 ⟨u, hr, drawn⟩ => ?_
      subst hr
      refine thnF drawn fun _ z7 ⟨x, H7, I7, r7, y7, a7, none7⟩ => ?_
      have P7 := I7.pinned (owned I7 none7) (T.obj _ _ a7)
      refine thnF (pg.run _ z7 _ H7 x u _ P7 r7 (step x H7 y7)) fun _ z8 ⟨σ8, H8, I8, same8, q8⟩ => ?_
      -- a turn that is through
      have through : ∀ {z : Shared} {H' : Hp}, Inv (X.blk { s2 with heap := h3 } H3 scope ce fp) ([] ++ pinsAt fp z7.heap) σ8 H' z → Nx H' →
          ∃ m, m < n ∧ ∃ i H', Inv (X.blk { s2 with heap := h3 } H3 scope ce fp) [] (wipe σ (own.map (·.2))) H' z ∧ at_ i z.heap ∧ (∀ b ∈ fp, H' b = none) ∧ W i m H' := by
        intro z H' J nx
        obtain ⟨m', lt, w'⟩ := less H' nx
        have held : ∀ b ∈ fp, ∀ o, z7.heap.get? b = some o → z.heap.get? b = some o ∧ H' b = none := by
          intro b hb o e
          have p := J.pin (b, o) (List.mem_append_right _ (List.mem_append_right _ (mem_pinsAt hb e)))
          exact ⟨p.1, p.2.1⟩
        refine ⟨m', lt, i + 1, H', (J.unpinned (pins := [])).weak ?_ ?_, T.keep _ _ _ a7 fun b hb o e => (held b hb o e).1, fun b hb => ?_, w'⟩
        · rw [← same8, wipe_length]
        · intro j v e
          rw [← same8] at e
          exact (wipe_some e).1
        · obtain ⟨o, e, _⟩ := T.obj _ _ a7 b hb
          exact (held b hb o e).2
      refine thnF (pt.run _ z8 σ8 H8 _ I8 q8) fun b z9 ⟨H9, I9, q9⟩ => ?_
      cases b with
      | false => exact through I9 q9
      | true =>
        refine thnF (pe.run _ z9 σ8 H9 _ I9 q9) fun v z10 ⟨y, H10, I10, r10, c, t, ey, eD, room, nx⟩ => ?_
        subst ey
        obtain ⟨k, rfl⟩ := r10
        exact laysI (X := X.blk { s2 with heap := h3 } H3 scope ce fp) I10 eD room fun z11 I11 => through I11 nx
  exact PpSet.codeAny_compStart_set (rounds _ ⟨m0, 0, H3, B, stands4, hidden, w0⟩) (T.self X.A 0 _ _ _ stands4 (rounds _ ⟨m0, 0, H3, B, stands4, hidden, w0⟩))
end
end DLR
namespace DLR
open PySem PySem.Spec PyProof.Rows L2
/-! ### min(xs), the order of the items told at the states where they stand -/
section
variable {prog : Program} {w : World} {A : Around}
theorem minLoopD {R : Result → Shared → Prop} {I S l : Addr} {its : Array Value} {bt : Nat → Nat → Bool} {h0 : Heap}
    (hd : A.handled = none) (hlI : l ≠ I) (hSI : S ≠ I) (hSl : S ≠ l) (hI0 : h0.get? I = none) (hS0 : h0.get? S = none)
    (cmp : ∀ (i j : Nat) (vi vj : Value) (z : Shared), its[i]? = some vi → its[j]? = some vj → (∀ b o, h0.get? b = some o → z.heap.get? b = some o) → SeqAt.RcLt A.in1 z vi vj (bt i j)) :
    ∀ (k j : Nat) (s : Shared) (vb : Value) (c : Nat), its.size - (j + 1) = k → j + 1 ≤ its.size → s.heap.IsListIter I l (j + 1) → s.heap.IsList l its →
      (∀ b o, h0.get? b = some o → s.heap.get? b = some o) → its[argBest bt j]? = some vb → s.heap.get? S = some { cls := .type "list", data := .seq #[vb, vb] c } →
      (∀ (v : Value) (h' : Heap) (tk : Nat), its[argBest bt (its.size - 1)]? = some v → (∀ b o, h0.get? b = some o → h'.get? b = some o) →
        R (.ok (.ret v)) { heap := h', gens := s.gens, drawn := s.drawn, toks := tk, os := s.os }) →
      codeAny (model prog w) A (.builtin "min.loop" { pos := [.ref I, .none, .ref S] }) R s := by
  intro k
  induction k with
  | zero =>
    intro j s vb c hk hj hi hl keep hb hS out
    have ej : j + 1 = its.size := by omega
    refine codeAny_builtin F.entry_min_loop ?_
    rw [Around.under_plainId F.plain_min_loop]
    unfold Builtin.«min.loop»
    refine wpAny_bind ?_
    refine wpAny_seqItems hS rfl ?_
    refine wpAny_bind (wpAny_tryCatch ?_)
    have T : Walks prog w A.in1 I [I, l] [I] its.size (fun i v => its[i]? = some v) (fun i h => h.IsListIter I l i ∧ h.IsList l its) := Walks.list (by exact hd) I l hlI its
    refine T.done s _ _ ⟨ej ▸ hi, hl⟩ fun h' tk kp => ?_
    have kS : h'.get? S = some { cls := .type "list", data := .seq #[vb, vb] c } := kp S _ (by simpa using hSI) hS
    refine wpAny_bind (wpAny_updateSeq kS rfl ?_ ?_ ?_)
    · refine wpAny_bind (wpAny_letGo ?_)
      refine wpAny_pure ?_
      refine out vb _ _ (by rw [← ej]; exact hb) fun b o e => ?_
      have nI : b ≠ I := fun x => by rw [x, hI0] at e; cases e
      have nS : b ≠ S := fun x => by rw [x, hS0] at e; cases e
      exact (Heap.get?_update_other _ _ (Ne.symm nS)).trans (kp b o (by simpa using nI) (keep b o e))
    · rw [sizeLine_eq]; exact (by decide : 2 ≤ 16777216)
    · rw [sizeLine_eq]; exact (by decide : 0 ≤ 16777216 + 1)
  | succ k ih =>
    intro j s vb c hk hj hi hl keep hb hS out
    have ej : j + 1 < its.size := by omega
    refine codeAny_builtin F.entry_min_loop ?_
    rw [Around.under_plainId F.plain_min_loop]
    unfold Builtin.«min.loop»
    refine wpAny_bind ?_
    refine wpAny_seqItems hS rfl ?_
    refine wpAny_bind (wpAny_tryCatch ?_)
    have T : Walks prog w A.in1 I [I, l] [I] its.size (fun i v => its[i]? = some v) (fun i h => h.IsListIter I l i ∧ h.IsList l its) := Walks.list (by exact hd) I l hlI its
    refine T.item (j + 1) s _ _ ej ⟨hi, hl⟩ fun v h' tk hv st kp => ?_
    have kS : h'.get? S = some { cls := .type "list", data := .seq #[vb, vb] c } := kp S _ (by simpa using hSI) hS
    have keep' : ∀ b o, h0.get? b = some o → h'.get? b = some o := fun b o e => by
      have nI : b ≠ I := fun x => by rw [x, hI0] at e; cases e
      exact kp b o (by simpa using nI) (keep b o e)
    refine wpAny_bind (wpAny_pure ?_)
    refine wpAny_bind (wpAny_tryCatch (wpAny_holding (wpAny_bind ?_)))
    refine cmp (j + 1) (argBest bt j) v vb _ hv hb keep' prog w _ _ ?_
    refine wpAny_bind (wpAny_holding (wpAny_truthy_bool ?_))
    refine wpAny_bind (wpAny_letGo ?_)
    refine wpAny_pure ?_
    by_cases hbt : bt (j + 1) (argBest bt j) = true
    · rw [if_pos hbt]
      have eB : argBest bt (j + 1) = j + 1 := by show (if bt (j + 1) (argBest bt j) = true then j + 1 else argBest bt j) = j + 1; rw [if_pos hbt]
      refine wpAny_bind (wpAny_updateSeq kS rfl ?_ ?_ ?_)
      · refine wpAny_bind (wpAny_letGo ?_)
        refine wpAny_pure ⟨plainId_quiet F.plain_min_loop _, ?_⟩
        have up : ∀ b, b ≠ S → (h'.update S (Obj.mapSeq fun _ => #[v, v])).get? b = h'.get? b := fun b nb => Heap.get?_update_other _ _ (Ne.symm nb)
        refine ih (j + 1) _ v _ (by omega) (by omega) ?_ ?_ ?_ (by rw [eB]; exact hv) (get?_update_seq (c := "list") kS _) ?_
        · obtain ⟨o, e1, e2⟩ := st.1
          exact ⟨o, (up I (Ne.symm hSI)).trans e1, e2⟩
        · obtain ⟨o, e1, e2⟩ := st.2
          exact ⟨o, (up l (Ne.symm hSl)).trans e1, e2⟩
        · exact fun b o e => (up b fun x => by rw [x, hS0] at e; cases e).trans (keep' b o e)
        · exact fun v' h'' tk' hv' kp' => out v' h'' tk' hv' kp'
      · rw [sizeLine_eq]; exact (by decide : 2 ≤ 16777216)
      · rw [sizeLine_eq]; exact (by decide : 2 ≤ 16777216 + 1)
    · rw [if_neg hbt]
      have eB : argBest bt (j + 1) = argBest bt j := by show (if bt (j + 1) (argBest bt j) = true then j + 1 else argBest bt j) = argBest bt j; rw [if_neg hbt]
      refine wpAny_bind (wpAny_letGo ?_)
      refine wpAny_pure ⟨plainId_quiet F.plain_min_loop _, ?_⟩
      exact ih (j + 1) _ vb c (by omega) (by omega) st.1 st.2 keep' (by rw [eB]; exact hb) kS fun v' h'' tk' hv' kp' => out v' h'' tk' hv' kp'
theorem minFirstD {R : Result → Shared → Prop} {I S l : Addr} {its : Array Value} {bt : Nat → Nat → Bool} {h0 : Heap}
    (hd : A.handled = none) (hlI : l ≠ I) (hSI : S ≠ I) (hSl : S ≠ l) (hI0 : h0.get? I = none) (hS0 : h0.get? S = none)
    (cmp : ∀ (i j : Nat) (vi vj : Value) (z : Shared), its[i]? = some vi → its[j]? = some vj → (∀ b o, h0.get? b = some o → z.heap.get? b = some o) → SeqAt.RcLt A.in1 z vi vj (bt i j))
    (s : Shared) (c : Nat) (pos : 0 < its.size) (hi : s.heap.IsListIter I l 0) (hl : s.heap.IsList l its)
    (keep : ∀ b o, h0.get? b = some o → s.heap.get? b = some o) (hS : s.heap.get? S = some { cls := .type "list", data := .seq #[] c })
    (out : ∀ (v : Value) (h' : Heap) (tk : Nat), its[argBest bt (its.size - 1)]? = some v → (∀ b o, h0.get? b = some o → h'.get? b = some o) →
        R (.ok (.ret v)) { heap := h', gens := s.gens, drawn := s.drawn, toks := tk, os := s.os }) :
      codeAny (model prog w) A (.builtin "min.loop" { pos := [.ref I, .none, .ref S] }) R s := by
  refine codeAny_builtin F.entry_min_loop ?_
  rw [Around.under_plainId F.plain_min_loop]
  unfold Builtin.«min.loop»
  refine wpAny_bind ?_
  refine wpAny_seqItems hS rfl ?_
  refine wpAny_bind (wpAny_tryCatch ?_)
  have T : Walks prog w A.in1 I [I, l] [I] its.size (fun i v => its[i]? = some v) (fun i h => h.IsListIter I l i ∧ h.IsList l its) := Walks.list (by exact hd) I l hlI its
  refine T.item 0 s _ _ pos ⟨hi, hl⟩ fun v h' tk hv st kp => ?_
  have kS : h'.get? S = some { cls := .type "list", data := .seq #[] c } := kp S _ (by simpa using hSI) hS
  have keep' : ∀ b o, h0.get? b = some o → h'.get? b = some o := fun b o e => by
    have nI : b ≠ I := fun x => by rw [x, hI0] at e; cases e
    exact kp b o (by simpa using nI) (keep b o e)
  refine wpAny_bind (wpAny_pure ?_)
  have up : ∀ b, b ≠ S → (h'.update S (Obj.mapSeq fun _ => #[v, v])).get? b = h'.get? b := fun b nb => Heap.get?_update_other _ _ (Ne.symm nb)
  refine wpAny_bind (wpAny_updateSeq kS rfl ?_ ?_ ?_)
  · refine wpAny_pure ⟨plainId_quiet F.plain_min_loop _, ?_⟩
    refine minLoopD hd hlI hSI hSl hI0 hS0 cmp _ 0 _ v _ rfl (by omega) ?_ ?_ ?_ hv (get?_update_seq (c := "list") kS _) ?_
    · obtain ⟨o, e1, e2⟩ := st.1
      exact ⟨o, (up I (Ne.symm hSI)).trans e1, e2⟩
    · obtain ⟨o, e1, e2⟩ := st.2
      exact ⟨o, (up l (Ne.symm hSl)).trans e1, e2⟩
    · exact fun b o e => (up b fun x => by rw [x, hS0] at e; cases e).trans (keep' b o e)
    · exact fun v' h'' tk' hv' kp' => out v' h'' tk' hv' kp'
  · rw [sizeLine_eq]; exact (by decide : 0 ≤ 16777216)
  · rw [sizeLine_eq]; exact (by decide : 2 ≤ 16777216 + 1)
theorem minD {E Q : Value → Shared → Prop} {s : Shared} {l : Addr} {its : Array Value} {bt : Nat → Nat → Bool}
    (hd : A.handled = none) (hl : s.heap.IsList l its) (pos : 0 < its.size)
    (cmp : ∀ (i j : Nat) (vi vj : Value) (z : Shared), its[i]? = some vi → its[j]? = some vj → (∀ b o, s.heap.get? b = some o → z.heap.get? b = some o) → SeqAt.RcLt A.in1 z vi vj (bt i j))
    (out : ∀ (v : Value) (h' : Heap) (tk : Nat), its[argBest bt (its.size - 1)]? = some v → (∀ b o, s.heap.get? b = some o → h'.get? b = some o) →
        Q v { heap := h', gens := s.gens, drawn := s.drawn, toks := tk, os := s.os }) :
    wpAny (model prog w) A (call (.builtin "min") [.ref l]) Q E s := by
  refine call_function_tree F.kind_min F.plain_min F.entry_min (F.args_min1 _) ?_
  unfold Builtin.min
  have hls : l < s.heap.objs.size := by
    obtain ⟨o, e, _⟩ := hl
    exact Heap.lt_size e
  refine wpAny_bind (wpAny_of_eq (a := [none, none]) rfl ?_)
  refine wpAny_bind (wpAny_pure ?_)
  refine wpAny_bind (wpAny_pyIter_list hl ?_)
  refine wpAny_bind (wpAny_newList ?_ ?_)
  · refine wpAny_pure ⟨plainId_quiet F.plain_min_loop _, ?_⟩
    have hI : (s.heap.push { cls := Value.type "list_iterator", data := Data.fields #[Value.ref l, Value.int 0 0] }).get? s.heap.objs.size = some { cls := Value.type "list_iterator", data := Data.fields #[Value.ref l, Value.int 0 0] } := Heap.get?_push_size _ rfl
    have e1 : (s.heap.push { cls := Value.type "list_iterator", data := Data.fields #[Value.ref l, Value.int 0 0] }).objs.size = s.heap.objs.size + 1 := Heap.size_push ..
    refine minFirstD (h0 := s.heap) hd (Nat.ne_of_lt hls) ?_ ?_ (Heap.get?_none_of_le (Nat.le_refl _)) ?_ cmp _ 0 pos ?_ ?_ ?_ ?_ fun v h' tk hv kp => out v h' tk hv kp
    · exact fun x => absurd (e1.symm.trans x) (Nat.succ_ne_self _)
    · exact fun x => Nat.lt_irrefl l (Nat.lt_trans hls (Nat.lt_of_lt_of_eq (Nat.lt_succ_self _) (e1.symm.trans x)))
    · exact Heap.get?_none_of_le (Nat.le_of_lt (Nat.lt_of_lt_of_eq (Nat.lt_succ_self _) e1.symm))
    · exact ⟨_, Heap.get?_push_of_some _ hI, rfl, rfl⟩
    · obtain ⟨o, e, r⟩ := hl
      exact ⟨o, Heap.get?_push_of_some _ (Heap.get?_push_of_some _ e), r⟩
    · exact fun b o e => Heap.get?_push_of_some _ (Heap.get?_push_of_some _ e)
    · exact Heap.get?_push_size _ rfl
  · rw [sizeLine_eq]; exact (by decide : 0 ≤ 16777216)
end
end DLR
namespace DLR
open PySem PySem.Spec PyProof.Rows L2
/-! ### min(xs), xs a list of data of any depth -/
theorem dpAt {K : PySem.W.Frag} {H : Hp} : ∀ {xs : List V} {ds : List PyData}, DpAll K H xs ds → ∀ (i : Nat) (x : V), xs[i]? = some x → ∃ d, ds[i]? = some d ∧ Dp K H x d
  | _, _, .nil, i, x, h => by simp at h
  | _, _, .cons (d := d) h0 hr, 0, x, h => ⟨d, rfl, by simp at h; exact h ▸ h0⟩
  | _, _, .cons h0 hr, i + 1, x, h => dpAt hr i x (by simpa using h)
theorem dpLen {K : PySem.W.Frag} {H : Hp} : ∀ {xs : List V} {ds : List PyData}, DpAll K H xs ds → ds.length = xs.length
  | _, _, .nil => rfl
  | _, _, .cons _ hr => congrArg (· + 1) (dpLen hr)
theorem valsAt : ∀ {xs : List V} {us : List Value}, Vals xs us → ∀ (i : Nat) (u : Value), us[i]? = some u → ∃ x, xs[i]? = some x ∧ RelV x u
  | _, _, .nil, i, u, h => by simp at h
  | _, _, .cons h0 hr, 0, u, h => ⟨_, rfl, by simp at h; exact h ▸ h0⟩
  | _, _, .cons h0 hr, i + 1, u, h => valsAt hr i u (by simpa using h)
theorem valsLen : ∀ {xs : List V} {us : List Value}, Vals xs us → us.length = xs.length
  | _, _, .nil => rfl
  | _, _, .cons _ hr => congrArg (· + 1) (valsLen hr)
abbrev leastD (ds : List PyData) : Nat := argBest (fun i j => PySem.W.dataLt (ds.getD i .none) (ds.getD j .none)) (ds.length - 1)
def rMinD (K : PySem.W.Frag) : List V → Hp → VK → Prop := fun vs H Q => ∃ (a : Addr) (xs : List V) (ds : List PyData), vs = [V.ref a] ∧ SqL K H a xs ∧ DpAll K H xs ds ∧
  0 < xs.length ∧ (∀ d ∈ ds, d ≠ .none ∧ d.depth ≤ 60) ∧ (∀ d ∈ ds, ∀ e ∈ ds, PySem.W.alike d e = true) ∧ ∀ x, xs[leastD ds]? = some x → Q x H
theorem cr_minD {X : Cx} (hc : X.calm = true) (hu : X.A.units + 64 < cLine) : CallR X (.builtin "min") (rMinD X.K) := by
  rintro pins s σ H vs us Q I hv ⟨a, xs, ds, rfl, hl, hd, pos, fit, like, fin⟩
  obtain ⟨its, hits, pl, _⟩ := I.list hl
  rw [Vals.ref1 hv]
  have n1 : its.length = xs.length := valsLen hits
  have n2 : ds.length = xs.length := dpLen hd
  refine minD (bt := fun i j => PySem.W.dataLt (ds.getD i .none) (ds.getD j .none)) (I.ok.hd hc) pl.isList (by simpa [n1] using pos) ?_ ?_
  · intro i j vi vj z hi hj keep
    obtain ⟨x, hx, rx⟩ := valsAt hits i vi (by simpa using hi)
    obtain ⟨y, hy, ry⟩ := valsAt hits j vj (by simpa using hj)
    obtain ⟨d, ed, px⟩ := dpAt hd i x hx
    obtain ⟨e, ee, py⟩ := dpAt hd j y hy
    have J : L2.Inv X pins σ H { heap := z.heap, gens := s.gens, drawn := s.drawn, toks := s.toks, os := s.os } := I.kept keep
    obtain ⟨as, ra⟩ := Dp.reads J d x vi px rx
    obtain ⟨bs, rb⟩ := Dp.reads J e y vj py ry
    have md : d ∈ ds := List.mem_of_getElem? ed
    have me : e ∈ ds := List.mem_of_getElem? ee
    have g1 : ds.getD i .none = d := by rw [List.getD_eq_getElem?_getD, ed]; rfl
    have g2 : ds.getD j .none = e := by rw [List.getD_eq_getElem?_getD, ee]; rfl
    show SeqAt.RcLt X.A.in1 z vi vj (PySem.W.dataLt (ds.getD i .none) (ds.getD j .none))
    rw [g1, g2]
    refine PySem.W.rcLt_alike d e X.A.in1 z vi vj as bs ra rb (like d md e me) (fit d md).1 ?_
    have f1 := (fit d md).2
    have u1 : X.A.in1.units ≤ X.A.units + 1 := by first | exact Nat.le_refl _ | exact Nat.le_succ _ | (simp [Around.in1])
    omega
  · intro v h' tk hv kp
    have hv' : its[leastD ds]? = some v := by
      have : its.toArray.size - 1 = ds.length - 1 := by simp [n1, n2]
      rw [this] at hv
      rw [List.getElem?_toArray] at hv
      exact hv
    obtain ⟨x, hx, rx⟩ := valsAt hits _ v hv'
    exact ⟨x, H, I.kept kp, rx, fin x hx⟩
theorem argBest_le (bt : Nat → Nat → Bool) : ∀ n, argBest bt n ≤ n
  | 0 => Nat.le_refl _
  | n + 1 => by
    show (if bt (n + 1) (argBest bt n) = true then n + 1 else argBest bt n) ≤ n + 1
    split
    · exact Nat.le_refl _
    · exact Nat.le_succ_of_le (argBest_le bt n)
theorem argBest_key (bt : Nat → Nat → Bool) (f : Nat → Int) (m : Nat) (yes : ∀ i j, i ≤ m → j ≤ m → f i < f j → bt i j = true) (no : ∀ i j, i ≤ m → j ≤ m → bt i j = true → f i ≤ f j) :
    ∀ n, n ≤ m → ∀ j, j ≤ n → f (argBest bt n) ≤ f j
  | 0, _, j, hj => by
    have : j = 0 := Nat.le_zero.1 hj
    subst this
    exact Int.le_refl _
  | n + 1, hn, j, hj => by
    have ih := argBest_key bt f m yes no n (Nat.le_of_succ_le hn)
    have hb := argBest_le bt n
    show f (if bt (n + 1) (argBest bt n) = true then n + 1 else argBest bt n) ≤ f j
    split
    next h =>
      have h1 := no _ _ hn (by omega) h
      rcases Nat.lt_or_ge j (n + 1) with lt | ge
      · exact Int.le_trans h1 (ih j (Nat.le_of_lt_succ lt))
      · have : j = n + 1 := Nat.le_antisymm hj ge
        subst this
        exact Int.le_refl _
    next h =>
      rcases Nat.lt_or_ge j (n + 1) with lt | ge
      · exact ih j (Nat.le_of_lt_succ lt)
      · have : j = n + 1 := Nat.le_antisymm hj ge
        subst this
        refine Int.not_lt.1 fun l => h (yes _ _ hn (by omega) l)
theorem eqv_ints {x y : Int} (h : x ≠ y) : (PyData.int x).eqv (.int y) = false := by
  cases e : (PyData.int x).eqv (.int y)
  · rfl
  · exact absurd (by simpa [PyData.eqv] using e) h
theorem dataLt_first {x y : Int} (xs ys : List PyData) (h : x ≠ y) : PySem.W.dataLt (.tuple (.int x :: xs)) (.tuple (.int y :: ys)) = decide (x < y) := by
  rw [PySem.W.dataLt_tuple, PySem.W.dataLt_all_no (by rfl) (eqv_ints h), PySem.W.dataLt_int]
theorem leastD_first (ds : List PyData) (f : Nat → Int) (hf : ∀ i, i < ds.length → ∃ r, ds[i]? = some (.tuple (.int (f i) :: r))) (pos : 0 < ds.length) :
    leastD ds < ds.length ∧ ∀ j, j < ds.length → f (leastD ds) ≤ f j := by
  have at_ : ∀ i, i ≤ ds.length - 1 → ∃ r, ds.getD i .none = .tuple (.int (f i) :: r) := fun i hi => by
    obtain ⟨r, e⟩ := hf i (by omega)
    exact ⟨r, by rw [List.getD_eq_getElem?_getD, e]; rfl⟩
  refine ⟨?_, fun j hj => ?_⟩
  · have := argBest_le (fun i j => PySem.W.dataLt (ds.getD i .none) (ds.getD j .none)) (ds.length - 1)
    show argBest _ _ < _
    omega
  · refine argBest_key _ f (ds.length - 1) ?_ ?_ _ (Nat.le_refl _) j (by omega)
    · intro i k hi hk lt
      obtain ⟨r, e⟩ := at_ i hi
      obtain ⟨t, e'⟩ := at_ k hk
      simp only [e, e']
      rw [dataLt_first _ _ (Int.ne_of_lt lt)]
      exact decide_eq_true lt
    · intro i k hi hk b
      obtain ⟨r, e⟩ := at_ i hi
      obtain ⟨t, e'⟩ := at_ k hk
      simp only [e, e'] at b
      by_cases eq : f i = f k
      · exact Int.le_of_eq eq
      · rw [dataLt_first _ _ eq] at b
        exact Int.le_of_lt (of_decide_eq_true b)
end DLR
namespace DLR
open PySem PySem.Spec L2
theorem pe_frz {X : Cx} {e : Expr} {td : TE} (h : PE X e td) : PE X e (fun σ H Q => td σ H fun x H1 => ∃ d u, x = .ref d ∧ H1 d = some u ∧ Mut (some u) ∧ ∀ od : Obj, Q x (upd H1 d (.frz od u))) := by
  refine ⟨fun pins s σ H Q I ht => thn (h.run pins s σ H _ I ht) ?_⟩
  rintro v s' ⟨x, H1, I1, r, d, u, rfl, hd, mu, q⟩
  obtain ⟨od, I2⟩ := I1.lock hd mu
  exact ⟨.ref d, _, I2, r, q od⟩
theorem lc_gen {J : It} {g : TG} {tt : TT} {te : TE} {vs : List Nat} {σ : L2.St} {H1 : Hp} {D : Addr} {Qd : Hp → Prop} (n : Nat) (Pv : Nat → Hp → Prop)
    (h0 : Pv 0 (upd H1 D (HO.lst []))) (go : ∀ i H, i < n → Pv i H → J.go i H) (stop : ∀ H, Pv n H → J.stop n H)
    (step : ∀ i x H H', i < n → Pv i H → J.yld i H x H' → g x (wipe σ vs) H' fun σ2 H2 => wipe σ2 vs = wipe σ vs ∧ tt σ2 H2 fun b H3 =>
      if b = true then te σ2 H3 fun y H4 => ∃ acc, H4 D = some (HO.lst acc) ∧ acc.length < sizeLine ∧ Pv (i + 1) (upd H4 D (HO.lst (acc ++ [y]))) else Pv (i + 1) H3)
    (fin : ∀ H, Pv n H → Qd H) :
    ∃ W : Nat → Nat → Hp → Prop, (∃ m, W 0 m (upd H1 D (HO.lst []))) ∧ ∀ i m H, W i m H → J.stop i H ∧ Qd H ∨ J.go i H ∧ ∃ Nx : Hp → Prop, (∀ H', Nx H' → ∃ m', m' < m ∧ W (i + 1) m' H') ∧
      ∀ x H', J.yld i H x H' → g x (wipe σ vs) H' fun σ2 H2 => wipe σ2 vs = wipe σ vs ∧ tt σ2 H2 fun b H3 =>
        if b = true then te σ2 H3 fun y H4 => ∃ acc, H4 D = some (HO.lst acc) ∧ acc.length < sizeLine ∧ Nx (upd H4 D (HO.lst (acc ++ [y]))) else Nx H3 := by
  refine ⟨fun i m H => m = n - i ∧ i ≤ n ∧ Pv i H, ⟨n, rfl, Nat.zero_le _, h0⟩, ?_⟩
  rintro i m H ⟨rfl, hi, hp⟩
  rcases Nat.lt_or_ge i n with lt | ge
  · exact .inr ⟨go i H lt hp, Pv (i + 1), fun H' h => ⟨n - (i + 1), by omega, rfl, lt, h⟩, fun x H' hy => step i x H H' lt hp hy⟩
  · have e : i = n := Nat.le_antisymm hi ge
    subst e
    exact .inl ⟨stop H hp, fin H hp⟩
def isOf (l : List Int) : IS := l.foldl isAdd is0
theorem isOf_app (l : List Int) (c : Int) : isOf (l ++ [c]) = isAdd (isOf l) c := by
  unfold isOf
  rw [List.foldl_append]
  rfl
theorem fold_mem (j : Int) : ∀ (l : List Int) (t : IS), (l.foldl isAdd t).1 j = true ↔ t.1 j = true ∨ j ∈ l
  | [], t => by simp
  | c :: l, t => by
    rw [List.foldl_cons, fold_mem j l (isAdd t c)]
    simp [isAdd, or_assoc]
theorem isOf_mem (l : List Int) (j : Int) : (isOf l).1 j = true ↔ j ∈ l := by
  unfold isOf
  rw [fold_mem]
  simp
theorem fold_le : ∀ (l : List Int) (t : IS), (l.foldl isAdd t).2 ≤ t.2 + l.length
  | [], t => Nat.le_refl _
  | c :: l, t => by
    rw [List.foldl_cons, List.length_cons]
    refine Nat.le_trans (fold_le l (isAdd t c)) ?_
    show (if t.1 c = true then t.2 else t.2 + 1) + l.length ≤ _
    split <;> omega
theorem isOf_le (l : List Int) : (isOf l).2 ≤ l.length := by
  have q := fold_le l is0
  show (l.foldl isAdd is0).2 ≤ l.length
  have e : (is0 : IS).2 = 0 := rfl
  omega
theorem sc_list {K : PySem.W.Frag} {w : World} {a : Addr} {xs : List V} {g : TG} {tt : TT} {te : TE} {vs : List Nat} {σ : L2.St} {H1 : Hp} {D : Addr} {Qd : Hp → Prop} (Pv : Nat → Hp → Prop)
    (h0 : Pv 0 (upd H1 D (isO w D is0))) (hl : ∀ i H, i ≤ xs.length → Pv i H → SqL K H a xs)
    (step : ∀ i x H, xs[i]? = some x → Pv i H → turnI w D g tt te vs σ (Pv (i + 1)) x H)
    (fin : ∀ H, Pv xs.length H → Qd H) :
    ∃ W : Nat → Nat → Hp → Prop, (∃ m, W 0 m (upd H1 D (isO w D is0))) ∧ ∀ i m H, W i m H → (Itl K a).stop i H ∧ Qd H ∨ (Itl K a).go i H ∧ ∃ Nx : Hp → Prop, (∀ H', Nx H' → ∃ m', m' < m ∧ W (i + 1) m' H') ∧
      ∀ x H', (Itl K a).yld i H x H' → turnI w D g tt te vs σ Nx x H' := by
  refine ⟨fun i m H => m = xs.length - i ∧ i ≤ xs.length ∧ Pv i H, ⟨_, rfl, Nat.zero_le _, h0⟩, ?_⟩
  rintro i m H ⟨rfl, hi, hp⟩
  rcases Nat.lt_or_ge i xs.length with lt | ge
  · refine .inr ⟨⟨xs, xs[i], hl i H hi hp, List.getElem?_eq_getElem lt⟩, Pv (i + 1), fun H' h => ⟨xs.length - (i + 1), by omega, rfl, lt, h⟩, ?_⟩
    rintro x H' ⟨rfl, hy⟩
    exact step i x _ (hy xs (hl i _ hi hp)) hp
  · have e : i = xs.length := Nat.le_antisymm hi ge
    subst e
    exact .inl ⟨⟨xs, hl _ H hi hp, Nat.le_refl _⟩, fin H hp⟩
end DLR
namespace DL
open PySem L2 DLR
theorem mt_lcountK {X : Cx} (K0 : PySem.W.Frag) (hK : X.K = K0) : MtR X "list.count" (rCntI K0) := hK ▸ mt_lcount
abbrev sTimes : Stmt := top 48
abbrev sCoreW : Stmt := top 64
abbrev sCoreR : Stmt := top 65
abbrev sCores : Stmt := top 66
abbrev sCoreP : Stmt := top 67
abbrev nTimes : List Str := ["goes","done","_","to","many"]
abbrev nCoreW : List Str := ["program","goes","done","row"]
abbrev nCoreR : List Str := ["goes","come_to","_","to"]
abbrev nCores : List Str := ["wide","things","count","_"]
abbrev nCoreP : List Str := ["number","wide","things","places","_"]
abbrev FTimes (K : Frg) (mg : Str → Option Value) := Fd K mg "times_done" sTimes ["goes"]
abbrev FCoreW (K : Frg) (mg : Str → Option Value) := Fd K mg "core_worths" sCoreW ["program","goes"]
abbrev FCoreR (K : Frg) (mg : Str → Option Value) := Fd K mg "core_rows" sCoreR ["goes"]
abbrev FCores (K : Frg) (mg : Str → Option Value) := Fd K mg "cores" sCores ["wide","things"]
abbrev FCoreP (K : Frg) (mg : Str → Option Value) := Fd K mg "core_places" sCoreP ["number","wide","things"]
def doneBy (G : GoL) (x : Nat) : Prop := x = 0 ∨ ∃ e ∈ G, e.1.2 = x
structure TimesAt (H : Hp) (da : Addr) (G : GoL) (F : List Nat) (kvs : List (Key × V)) : Prop where
  dic : H da = some (.dK kvs)
  keys : kvs.map (·.1) = F.map kN
  nd : F.Nodup
  mem : ∀ x, x ∈ F ↔ doneBy G x
  val : ∀ kv ∈ kvs, ∃ i : Int, kv.2 = .int i
def spTimes : Sp := fun vs H Q _ => ∃ (l : Addr) (bs : List Addr) (G : GoL), vs = [.ref l] ∧ H l = some (.lst (bs.map V.ref)) ∧ GoesAt H bs G ∧ G.length < 60 ∧
  ∀ da F kvs H', Same1 H H' → H da = none → TimesAt H' da G F kvs → Q (.ref da) H'
def WorthsOf (p : Prog) (G : GoL) (ws : List Nat) : Prop := ws.Pairwise (· < ·) ∧ ∀ x, x ∈ ws ↔ ∃ r, doneBy G r ∧ (p.rows.getD r .stop).uses = true ∧ (rowVs (p.rows.getD r .stop))[1]? = some (nI x)
def spCoreW : Sp := fun vs H Q _ => ∃ (a l : Addr) (bs : List Addr) (p : Prog) (G : GoL), vs = [.ref a, .ref l] ∧ ProgAt H a p ∧ Good p ∧ H l = some (.lst (bs.map V.ref)) ∧ GoesAt H bs G ∧ Goes p G ∧ G.length < 60 ∧
  ∀ wa ws H', Same1 H H' → H wa = none → H' wa = some (.lst (ws.map nI)) → WorthsOf p G ws → Q (.ref wa) H'
def RowsOf (G : GoL) (rs : List Nat) : Prop := rs.Pairwise (· < ·) ∧ ∀ x, x ∈ rs ↔ x ≠ 0 ∧ 2 ≤ (G.map (·.1.2)).count x
def spCoreR : Sp := fun vs H Q _ => ∃ (l : Addr) (bs : List Addr) (G : GoL), vs = [.ref l] ∧ H l = some (.lst (bs.map V.ref)) ∧ GoesAt H bs G ∧ G.length < 60 ∧
  ∀ ra rs H', Same1 H H' → H ra = none → H' ra = some (.lst (rs.map nI)) → RowsOf G rs → Q (.ref ra) H'
def spCores : Sp := fun vs H Q _ => ∃ (w n : Nat), vs = [nI w, nI n] ∧ w ≤ 24 ∧ n ≤ 100 ∧ Q (nI (w ^ n)) H
def digits (w : Nat) : Nat → Nat → List Nat
  | 0, _ => []
  | n + 1, x => (x % w) :: digits w n (x / w)
theorem digits_len (w : Nat) : ∀ n x, (digits w n x).length = n
  | 0, _ => rfl
  | n + 1, x => congrArg (· + 1) (digits_len w n (x / w))
theorem digits_lt {w : Nat} (h : 0 < w) : ∀ n x, ∀ d ∈ digits w n x, d < w
  | 0, _, d, hd => by cases hd
  | n + 1, x, d, hd => by
    rcases List.mem_cons.mp hd with e | e
    · rw [e]; exact Nat.mod_lt _ h
    · exact digits_lt h n _ d e
theorem digits_succ (w : Nat) : ∀ n x, digits w (n + 1) x = digits w n x ++ [x / w ^ n % w]
  | 0, x => by simp [digits]
  | n + 1, x => by
    rw [digits, digits_succ w n (x / w), digits, List.cons_append, Nat.div_div_eq_div_mul, Nat.pow_succ, Nat.mul_comm]
def spCoreP : Sp := fun vs H Q _ => ∃ (x w n : Nat), vs = [nI x, nI w, nI n] ∧ 2 ≤ w ∧ w ≤ 24 ∧ n ≤ 100 ∧
  ∀ l H', Same1 H H' → H l = none → H' l = some (.lst ((digits w n x).map nI)) → Q (.ref l) H'
theorem nats_of : ∀ (ns : List Int), ns.Pairwise (· < ·) → (∀ j ∈ ns, ∃ x : Nat, j = (x : Int)) → ∃ rs : List Nat, ns = rs.map (fun x : Nat => (x : Int)) ∧ rs.Pairwise (· < ·)
  | [], _, _ => ⟨[], rfl, .nil⟩
  | j :: ns, pw, h => by
    obtain ⟨h1, h2⟩ := List.pairwise_cons.mp pw
    obtain ⟨rs, e, p⟩ := nats_of ns h2 fun j hj => h j (List.mem_cons_of_mem _ hj)
    obtain ⟨x, hx⟩ := h j List.mem_cons_self
    subst hx
    subst e
    refine ⟨x :: rs, rfl, List.pairwise_cons.mpr ⟨fun y hy => ?_, p⟩⟩
    have := h1 (y : Int) (List.mem_map.mpr ⟨y, hy, rfl⟩)
    omega
theorem count_ints : ∀ (l : List Nat) (y : Nat), (l.map fun x : Nat => (x : Int)).count (y : Int) = l.count y
  | [], _ => rfl
  | x :: l, y => by
    rw [List.map_cons, List.count_cons, List.count_cons, count_ints l y]
    congr 1
    by_cases e : x = y
    · subst e; simp
    · rw [if_neg (by simp only [beq_iff_eq]; omega), if_neg (by simp only [beq_iff_eq]; omega)]
theorem putK_keys {kvs : List (Key × V)} {F : List Nat} (hk : kvs.map (·.1) = F.map kN) (v : Nat) (x : V) : (putK kvs (kN v) x).map (·.1) = (if v ∈ F then F else F ++ [v]).map kN := by
  have e : (kvs.any fun kv => decide (kv.1 = kN v)) = decide (v ∈ F) := by
    have q : (kvs.any fun kv => decide (kv.1 = kN v)) = ((kvs.map (·.1)).any fun k => decide (k = kN v)) := by rw [List.any_map]; rfl
    rw [q, hk, List.any_map]
    by_cases c : v ∈ F
    · rw [decide_eq_true c, List.any_eq_true]
      exact ⟨v, c, decide_eq_true rfl⟩
    · rw [decide_eq_false c, List.any_eq_false]
      intro y hy z
      exact c (kN_inj (of_decide_eq_true z) ▸ hy)
  unfold putK
  rw [e]
  by_cases c : v ∈ F
  · rw [if_pos (decide_eq_true c), if_pos c, ← hk, List.map_map]
    refine List.map_congr_left fun kv _ => ?_
    show (if kv.1 = kN v then (kv.1, x) else kv).1 = kv.1
    split <;> rfl
  · rw [if_neg (by rw [decide_eq_false c]; decide), if_neg c, List.map_append, List.map_append, hk]
    rfl
section
variable {P : Program} {w : World} {K : PySem.W.Frag} {mg : Str → Option Value} {base : Heap}
theorem scTimes : FnScope nTimes ["goes"] (defScope sTimes) := ⟨rfl, rfl, rfl, by decide +kernel, rfl, by decide +kernel, by decide +kernel⟩
theorem scCoreW : FnScope nCoreW ["program","goes"] (defScope sCoreW) := ⟨rfl, rfl, rfl, by decide +kernel, rfl, by decide +kernel, by decide +kernel⟩
theorem scCoreR : FnScope nCoreR ["goes"] (defScope sCoreR) := ⟨rfl, rfl, rfl, by decide +kernel, rfl, by decide +kernel, by decide +kernel⟩
theorem scCores : FnScope nCores ["wide","things"] (defScope sCores) := ⟨rfl, rfl, rfl, by decide +kernel, rfl, by decide +kernel, by decide +kernel⟩
theorem scCoreP : FnScope nCoreP ["number","wide","things"] (defScope sCoreP) := ⟨rfl, rfl, rfl, by decide +kernel, rfl, by decide +kernel, by decide +kernel⟩
theorem ok_cores (c : FCores K mg) (T : Bt mg) : FnOk P w K mg base CX0 1 c.f c.fd ["wide","things"] spCores := by
  refine c.F.ok scCores (fun vs H Q E h => ?_) (fun cdv A outer s H vs Q E hr h => ?_)
  · obtain ⟨W, n, rfl, _⟩ := h
    rfl
  · obtain ⟨W, n, rfl, hW, hn, k⟩ := h
    refine ⟨_, (pss_cons (ps_set (i := 2) scCores.nd rfl (Or.inl rfl) pe_int)
      (pss_cons (ps_for PassesOwn.never rfl (pi_range1 rfl T.range (pa_cons (pv 1) pa_nil)) (pg_name (i := 3) scCores.nd rfl (Or.inl rfl))
          (pss_one (ps_aug (i := 2) scCores.nd rfl (.inl rfl) (pv 0) iop_mul)))
      (pss_one (ps_ret (pv 2))))), ?_⟩
    refine ⟨_, rfl, (n : Int), rfl, by omega, by omega, ?_⟩
    refine for_range (lo := 0) (n := (n : Int).toNat) (fun i σ H' => ∃ x3 : Option V, σ = [some (nI W), some (nI n), some (nI (W ^ i)), x3] ∧ H' = H) ⟨none, rfl, rfl⟩ ?_ ?_
    · rintro i σ H' hi ⟨x3, rfl, rfl⟩
      refine ⟨_, rfl, _, rfl, _, _, rfl, rfl, .inr ⟨by omega, by omega⟩, some (.int (0 + (i : Int))), ?_, rfl⟩
      show [some (nI W), some (nI n), some (V.int (((W ^ i : Nat) : Int) * (W : Int))), some (V.int (0 + (i : Int)))] = _
      rw [show ((W ^ i : Nat) : Int) * (W : Int) = ((W ^ (i + 1) : Nat) : Int) by rw [Nat.pow_succ, Int.natCast_mul]]
      rfl
    · rintro σ H' ⟨x3, rfl, rfl⟩
      refine ⟨_, rfl, ?_⟩
      exact k
theorem ok_coreP (c : FCoreP K mg) (T : Bt mg) : FnOk P w K mg base CX0 1 c.f c.fd ["number","wide","things"] spCoreP := by
  refine c.F.ok scCoreP (fun vs H Q E h => ?_) (fun cdv A outer s H vs Q E hr h => ?_)
  · obtain ⟨x, W, n, rfl, _⟩ := h
    rfl
  · obtain ⟨x, W, n, rfl, w2, w24, hn, k⟩ := h
    refine ⟨_, (pss_cons (ps_set (i := 3) scCoreP.nd rfl (Or.inl rfl) (pe_lst pa_nil))
      (pss_cons (ps_for PassesOwn.never rfl (pi_range1 rfl T.range (pa_cons (pv 2) pa_nil)) (pg_name (i := 4) scCoreP.nd rfl (Or.inl rfl))
          (pss_cons (ps_expr (pe_bm PySem.F.plainAttrs_list PySem.F.slot_list_append PySem.F.type_list_append mt_append (pv 3) (pa_cons (pe_op op_mod (pv 0) (pv 1)) pa_nil)))
          (pss_one (ps_aug (i := 0) scCoreP.nd rfl (.inl rfl) (pv 1) iop_fdiv))))
      (pss_one (ps_ret (pv 3))))), ?_⟩
    refine ⟨Nat.zero_le _, fun l hl0 => ?_⟩
    refine ⟨_, rfl, (n : Int), rfl, by omega, by omega, ?_⟩
    refine for_range (lo := 0) (n := (n : Int).toNat) (fun i σ H' => ∃ x4 : Option V, σ = [some (nI (x / W ^ i)), some (nI W), some (nI n), some (.ref l), x4] ∧ Same1 H H' ∧ H' l = some (.lst ((digits W i x).map nI))) ⟨none, by rw [Nat.pow_zero, Nat.div_one]; rfl, Same.new hl0, upd_same⟩ ?_ ?_
    · rintro i σ H' hi ⟨x4, rfl, s', e'⟩
      refine ⟨_, rfl, .inl ⟨rfl, _, SqL.of e'⟩, _, rfl, _, rfl, _, _, rfl, rfl, by omega, l, _, _, rfl, rfl, e', szl (by rw [List.length_map, digits_len]; omega), ?_⟩
      refine ⟨_, rfl, _, rfl, _, _, rfl, rfl, ⟨by omega, by omega⟩, some (.int (0 + (i : Int))), ?_, Same.mut s' hl0, ?_⟩
      · show [some (V.int (((x / W ^ i : Nat) : Int) / (W : Int))), some (nI W), some (nI n), some (V.ref l), some (V.int (0 + (i : Int)))] = _
        rw [show ((x / W ^ i : Nat) : Int) / (W : Int) = ((x / W ^ (i + 1) : Nat) : Int) by rw [Nat.pow_succ, ← Nat.div_div_eq_div_mul]; rfl]
        rfl
      · rw [upd_same, digits_succ, List.map_append]
        rfl
    · rintro σ H' ⟨x4, rfl, s', e'⟩
      refine ⟨_, rfl, k l H' s' hl0 ?_⟩
      exact e'
theorem ok_times (c : FTimes K mg) : FnOk P w K mg base CX0 1 c.f c.fd ["goes"] spTimes := by
  refine c.F.ok scTimes (fun vs H Q E h => ?_) (fun cdv A outer s H vs Q E hr h => ?_)
  · obtain ⟨l, bs, G, rfl, _⟩ := h
    rfl
  · obtain ⟨l, bs, G, rfl, hl, hG, g60, k⟩ := h
    have hbl := Paired.length hG
    refine ⟨_, (pss_cons (ps_set (i := 1) scTimes.nd rfl (Or.inl rfl) (pe_disp (pps_cons pe_int pe_int pps_nil) (by rfl) (by rfl) (fun z => by cases z) (by decide)))
      (pss_cons (ps_for PassesOwn.never rfl (pi_list (pv 0)) (pg_tup rfl (pgs_cons (pg_name (i := 2) scTimes.nd rfl (Or.inl rfl)) (pgs_cons (pg_name (i := 3) scTimes.nd rfl (Or.inl rfl)) (pgs_cons (pg_name (i := 4) scTimes.nd rfl (Or.inl rfl)) pgs_nil))))
          (pss_one (ps_dput (hu_of hr) (pv 1) (pv 3) (pe_op op_add (pe_dget2 (hu_of hr) (pv 1) (pv 3) pe_int ⟨rfl, rfl, rfl, rfl⟩) (pv 4)) rfl)))
      (pss_one (ps_ret (pv 1))))), ?_⟩
    refine fun da hda => ?_
    refine alloc hda fun H1 s1 e1 => ?_
    refine ⟨e1, [(kN 0, .int 1)], rfl, (by show 1 ≤ 15; decide), ?_⟩
    have S1 : Same1 H (upd H1 da (.dK (mergeK [] [(kN 0, V.int 1)]))) := Same.mut s1 hda
    have T1 : TimesAt (upd H1 da (.dK (mergeK [] [(kN 0, V.int 1)]))) da (G.take 0) [0] [(kN 0, V.int 1)] :=
      ⟨upd_same, rfl, by simp, fun x => ⟨fun h => .inl (List.mem_singleton.mp h), fun h => by
        rcases h with h | ⟨e, he, _⟩
        · exact List.mem_singleton.mpr h
        · exact absurd he (by simp)⟩, fun kv h => by rw [List.mem_singleton.mp h]; exact ⟨1, rfl⟩⟩
    revert S1 T1
    refine change fun H2 b2 e2 => ?_
    intro S1 T1
    refine ⟨_, rfl, l, rfl, ⟨_, SqL.of (S1 _ _ hl)⟩, ?_⟩
    refine for_list (K := K) (a := l) (xs := bs.map V.ref) (fun i σ H' => ∃ (F : List Nat) (kvs : List (Key × V)) (x2 x3 x4 : Option V), σ = [some (.ref l), some (.ref da), x2, x3, x4] ∧ Same1 H H' ∧ TimesAt H' da (G.take i) F kvs ∧ kvs.length ≤ i + 1)
      ⟨[0], _, none, none, none, rfl, S1, T1, Nat.le_refl _⟩ (fun i σ H' _ ⟨_, _, _, _, _, _, q, _⟩ => SqL.of (q _ _ hl)) ?_ ?_
    · rintro i x σ H3 hi ⟨F, kvs, x2, x3, x4, rfl, s3, t3, l3⟩
      have hic : i < bs.length := by
        have q := (List.getElem?_eq_some_iff.mp hi).1
        rwa [List.length_map] at q
      have ex : x = .ref bs[i] := by
        rw [List.getElem?_map, List.getElem?_eq_getElem hic] at hi
        exact (Option.some.inj hi).symm
      subst ex
      obtain ⟨⟨⟨u, v⟩, n⟩, hq1, hq2⟩ := Paired.get hG (List.getElem?_eq_getElem hic)
      refine ⟨bs[i], _, rfl, SqT.of (s3 _ _ hq2), rfl, _, _, rfl, _, _, rfl, _, _, rfl, rfl, ?_⟩
      refine ⟨_, rfl, da, rfl, .inl ⟨kvs, .inl t3.dic⟩, _, rfl, _, DGet.k (k := kN v) t3.dic, ?_⟩
      have hv : ∃ i0 : Int, (valV kvs (kN v)).getD (V.int 0) = .int i0 := by
        cases q : valV kvs (kN v) with
        | none => exact ⟨0, rfl⟩
        | some z =>
          obtain ⟨e, he, rfl⟩ := valV_mem q
          exact t3.val e he
      obtain ⟨i0, hi0⟩ := hv
      rw [hi0]
      refine ⟨_, rfl, i0, _, rfl, rfl, _, rfl, _, rfl, da, _, rfl, DPut.k (k := kN v) t3.dic (szl (by omega)), ?_⟩
      refine ⟨if v ∈ F then F else F ++ [v], _, _, _, _, rfl, Same.mut s3 hda, ⟨upd_same, putK_keys t3.keys v _, ?_, fun y => ?_, putK_all t3.val⟩, Nat.le_trans putK_len (by omega)⟩
      · split
        · exact t3.nd
        · rename_i nv
          exact List.nodup_append.mpr ⟨t3.nd, by simp, fun y hy z hz q => nv (by rw [← List.mem_singleton.mp hz, ← q]; exact hy)⟩
      · have m1 : y ∈ (if v ∈ F then F else F ++ [v]) ↔ y ∈ F ∨ y = v := by
          split
          · rename_i hv
            exact ⟨.inl, fun h => h.elim id fun e => e ▸ hv⟩
          · rw [List.mem_append, List.mem_singleton]
        rw [m1, t3.mem, List.take_add_one, hq1]
        constructor
        · rintro ((h | ⟨e, he, q⟩) | rfl)
          · exact .inl h
          · exact .inr ⟨e, List.mem_append_left _ he, q⟩
          · exact .inr ⟨_, List.mem_append_right _ (List.mem_singleton.mpr rfl), rfl⟩
        · rintro (h | ⟨e, he, q⟩)
          · exact .inl (.inl h)
          · rcases List.mem_append.mp he with z | z
            · exact .inl (.inr ⟨e, z, q⟩)
            · have z : e = ((u, v), n) := List.mem_singleton.mp z
              subst z
              exact .inr q.symm
    · rintro σ H3 ⟨F, kvs, x2, x3, x4, rfl, s3, t3, l3⟩
      rw [List.length_map, hbl, List.take_length] at t3
      exact ⟨_, rfl, k da F kvs H3 s3 hda t3⟩
theorem ok_coreR (c : FCoreR K mg) (T : Bt mg) : FnOk P w K mg base CX0 1 c.f c.fd ["goes"] spCoreR := by
  refine c.F.ok scCoreR (fun vs H Q E h => ?_) (fun cdv A outer s H vs Q E hr h => ?_)
  · obtain ⟨l, bs, G, rfl, _⟩ := h
    rfl
  · obtain ⟨l, bs, G, rfl, hl, hG, g60, k⟩ := h
    have hbl := Paired.length hG
    refine ⟨_, (pss_cons (ps_set (i := 1) scCoreR.nd rfl (Or.inr rfl) (pe_lc (own := [("_", 2), ("to", 3)]) (g := gTup K 3 (gCons (gName 2) (gCons (gName 3) (gCons (gName 2) gNil)))) (tt := tYes) rfl scCoreR.nd (pi_list (pv 0)) (blkOk_by (N := nCoreR) (sc := defScope sCoreR) (by decide +kernel)) (fun _ _ _ _ _ => (pg_tupK K rfl rfl (pgs_cons (pg_name (i := 2) scCoreR.nd rfl (Or.inl rfl)) (pgs_cons (pg_name (i := 3) scCoreR.nd rfl (Or.inl rfl)) (pgs_cons (pg_name (i := 2) scCoreR.nd rfl (Or.inl rfl)) pgs_nil))))) (fun _ _ _ _ _ => pts_nil) (fun _ _ _ _ _ => (pv 3))))
      (pss_one (ps_ret (pe_callB (cr_sortedSet rfl) (by rfl) T.sorted (by decide +kernel) (pa_cons (pe_scI (own := [("to", 3)]) (g := gName 3) rfl scCoreR.nd (pi_list (pv 1)) (blkOk_by (N := nCoreR) (sc := defScope sCoreR) (by decide +kernel)) (fun _ _ _ _ _ => (pg_name (i := 3) scCoreR.nd rfl (Or.inl rfl))) (fun _ _ _ _ _ => (pts_one (PW.pt (pw_and (pt_cmpR op_ne (pv 3) pe_int (nomark _)) (pw_and1 (pt_cmpR op_ge (pe_bmK K rfl PySem.F.plainAttrs_list PySem.F.slot_list_count PySem.F.type_list_count (mt_lcountK K rfl) (pv 1) (pa_cons (pv 3) pa_nil)) pe_int (nomark _))))))) (fun _ _ _ _ _ => (pv 3))) pa_nil))))), ?_⟩
    refine ⟨_, rfl, l, rfl, ⟨_, SqL.of hl⟩, fun D hD => ?_⟩
    refine lc_list (K := K) (a := l) (xs := bs.map V.ref) (fun i H' => Same1 H H' ∧ H' D = some (.lst (((G.map (·.1.2)).take i).map nI))) ⟨Same.new hD, upd_same⟩ (fun i H' _ ⟨q, _⟩ => SqL.of (q _ _ hl)) ?_ ?_
    · rintro i x H1 hi ⟨s1, hD1⟩
      have hic : i < bs.length := by
        have q := (List.getElem?_eq_some_iff.mp hi).1
        rwa [List.length_map] at q
      have ex : x = .ref bs[i] := by
        rw [List.getElem?_map, List.getElem?_eq_getElem hic] at hi
        exact (Option.some.inj hi).symm
      subst ex
      obtain ⟨⟨⟨u, v⟩, n⟩, hq1, hq2⟩ := Paired.get hG (List.getElem?_eq_getElem hic)
      refine ⟨bs[i], _, rfl, SqT.of (s1 _ _ hq2), rfl, _, _, rfl, _, _, rfl, _, _, rfl, rfl, ?_⟩
      refine ⟨rfl, _, rfl, _, hD1, szl (by rw [List.length_map, List.length_take, List.length_map]; omega), Same.mut s1 hD, ?_⟩
      rw [upd_same, List.take_add_one, List.getElem?_map, hq1, List.map_append]
      rfl
    rintro H1 ⟨s1, hD1⟩
    rw [List.length_map, hbl, ← List.length_map (as := G) (f := fun e => e.1.2), List.take_length] at hD1
    refine ⟨_, rfl, D, rfl, ⟨_, SqL.of hD1⟩, fun D2 hD2 => ?_⟩
    have nDD : D ≠ D2 := ne_of_none hD1 hD2
    refine sc_list (K := K) (w := w) (a := D) (xs := (G.map (·.1.2)).map nI) (fun i H' => Same1 H1 H' ∧ H' D2 = some (isO w D2 (isOf ((((G.map (·.1.2)).take i).filter fun x => decide (x ≠ 0 ∧ 2 ≤ (G.map (·.1.2)).count x)).map fun x : Nat => (x : Int)))))
      ⟨Same.new hD2, upd_same⟩ (fun i H' _ ⟨q, _⟩ => SqL.of (q _ _ hD1)) ?_ ?_
    · rintro i x H2 hi ⟨s2, hD3⟩
      rw [List.getElem?_map] at hi
      cases hz : (G.map (·.1.2))[i]? with
      | none => rw [hz] at hi; cases hi
      | some y =>
        rw [hz] at hi
        have e : nI y = x := Option.some.inj hi
        subst e
        have hiG : i < G.length := by
          have q := (List.getElem?_eq_some_iff.mp hz).1
          rwa [List.length_map] at q
        refine ⟨rfl, _, rfl, rfl, _, rfl, ?_⟩
        have fs : ∀ f : Nat → Bool, ((G.map (·.1.2)).take (i + 1)).filter f = ((G.map (·.1.2)).take i).filter f ++ (if f y = true then [y] else []) := by
          intro f
          rw [List.take_add_one, hz, List.filter_append]
          show _ ++ List.filter f [y] = _
          rw [List.filter_cons, List.filter_nil]
        have bnd : ∀ f : Nat → Bool, (isOf ((((G.map (·.1.2)).take i).filter f).map fun x : Nat => (x : Int))).2 + 1 < scanBound := by
          intro f
          refine Nat.lt_of_le_of_lt (Nat.succ_le_succ (isOf_le _)) (Nat.lt_of_le_of_lt (m := 61) ?_ (by decide))
          rw [List.length_map]
          have q := List.length_filter_le f ((G.map (·.1.2)).take i)
          rw [List.length_take, List.length_map] at q
          omega
        by_cases y0 : y = 0
        · rw [show (!decide (nI y = V.int 0)) = false by subst y0; rfl]
          refine ⟨s2, ?_⟩
          rw [fs, if_neg (by rw [decide_eq_false (fun z => z.1 y0)]; decide), List.append_nil]
          exact hD3
        · rw [show (!decide (nI y = V.int 0)) = true by rw [decide_eq_false (fun z => y0 (by have := V.int.inj z; omega))]; rfl]
          have e2 : H2 D = some (.lst (((G.map (·.1.2)).map fun x : Nat => (x : Int)).map V.int)) := by
            rw [List.map_map]
            exact s2 _ _ hD1
          refine ⟨_, rfl, .inl ⟨rfl, _, SqL.of (s2 _ _ hD1)⟩, _, rfl, D, (G.map (·.1.2)).map fun x : Nat => (x : Int), (y : Int), rfl, rfl, SqL.of e2, _, _, rfl, rfl, _, rfl, ?_⟩
          have cnt : (((G.map (·.1.2)).map fun x : Nat => (x : Int)).count (y : Int) : Nat) = (G.map (·.1.2)).count y := count_ints _ y
          rw [cnt]
          by_cases y2 : 2 ≤ (G.map (·.1.2)).count y
          · rw [show decide ((2 : Int) ≤ (((G.map (·.1.2)).count y : Nat) : Int)) = true from decide_eq_true (by omega)]
            refine ⟨_, rfl, (y : Int), _, rfl, hD3, bnd _, Same.mut s2 hD2, ?_⟩
            rw [fs, if_pos (decide_eq_true ⟨y0, y2⟩), List.map_append, upd_same]
            show _ = some (isO w D2 (isOf (_ ++ [(y : Int)])))
            rw [isOf_app]
          · rw [show decide ((2 : Int) ≤ (((G.map (·.1.2)).count y : Nat) : Int)) = false from decide_eq_false (by omega)]
            refine ⟨s2, ?_⟩
            rw [fs, if_neg (by rw [decide_eq_false (fun z => y2 z.2)]; decide), List.append_nil]
            exact hD3
    · rintro H2 ⟨s2, hD3⟩
      rw [List.length_map, List.take_length] at hD3
      refine ⟨D2, _, _, rfl, hD3, ?_, fun ns p pw mem len hp => ?_⟩
      · refine Nat.lt_of_le_of_lt (isOf_le _) ?_
        rw [List.length_map]
        refine Nat.lt_of_le_of_lt (List.length_filter_le _ _) ?_
        rw [List.length_map]
        omega
      · have S2 := s1.trans s2
        have mem2 : ∀ j : Int, j ∈ ns ↔ ∃ x : Nat, j = (x : Int) ∧ x ≠ 0 ∧ 2 ≤ (G.map (·.1.2)).count x := by
          intro j
          rw [mem j, isOf_mem, List.mem_map]
          constructor
          · rintro ⟨x, hx, rfl⟩
            obtain ⟨h1, h2⟩ := List.mem_filter.mp hx
            exact ⟨x, rfl, of_decide_eq_true h2⟩
          · rintro ⟨x, rfl, h1, h2⟩
            exact ⟨x, List.mem_filter.mpr ⟨List.count_pos_iff.mp (by omega), decide_eq_true ⟨h1, h2⟩⟩, rfl⟩
        obtain ⟨rs, e1, e2⟩ := nats_of ns pw fun j hj => by
          obtain ⟨x, hx, _⟩ := (mem2 j).mp hj
          exact ⟨x, hx⟩
        subst e1
        refine alloc hp fun H3 s3 e3 => ?_
        refine k p rs H3 (S2.trans s3) (S2.free hp) (by rw [e3, List.map_map]; rfl) ⟨e2, fun x => ?_⟩
        have q := mem2 (x : Int)
        constructor
        · intro hx
          obtain ⟨z, hz, h1⟩ := q.mp (List.mem_map.mpr ⟨x, hx, rfl⟩)
          have : x = z := by omega
          exact this ▸ h1
        · intro hx
          obtain ⟨z, hz, h1⟩ := List.mem_map.mp (q.mpr ⟨x, rfl, hx⟩)
          have : z = x := by omega
          exact this ▸ hz
end
end DL
namespace DL
open PySem L2 DLR
section
variable {P : Program} {w : World} {K : PySem.W.Frag} {mg : Str → Option Value} {base : Heap}
theorem doneBy_lt {p : Prog} {G : GoL} (g : Good p) (h : Goes p G) {x : Nat} (d : doneBy G x) : x < p.rows.length := by
  rcases d with rfl | ⟨e, he, rfl⟩
  · exact g.r1
  · exact (goes_lt g h e he).2
theorem uses_at (r : Row) (h : r.uses = true) : ∃ x : Nat, (rowVs r)[1]? = some (nI x) := by
  cases r with
  | load x n => exact ⟨x, rfl⟩
  | add x n => exact ⟨x, rfl⟩
  | take x n => exact ⟨x, rfl⟩
  | store x n => exact ⟨x, rfl⟩
  | say n => cases h
  | test a b => cases h
  | stop => cases h
theorem ok_coreW (c : FCoreW K mg) (cTimes : FTimes K mg) (cUsesWorth : FUsesWorth K mg) (T : Bt mg) (Z : Pt K w mg) : FnOk P w K mg base CX0 2 c.f c.fd ["program","goes"] spCoreW := by
  have GTimes : FnOk P w K mg base CX0 1 cTimes.f cTimes.fd ["goes"] spTimes := ok_times cTimes
  have GUsesWorth : FnOk P w K mg base CX0 1 cUsesWorth.f cUsesWorth.fd ["row"] spUses := ok_usesWorth cUsesWorth Z
  refine c.F.ok scCoreW (fun vs H Q E h => ?_) (fun cdv A outer s H vs Q E hr h => ?_)
  · obtain ⟨a, l, bs, p, G, rfl, _⟩ := h
    rfl
  · obtain ⟨a, l, bs, p, G, rfl, ⟨wa, ra, rbs, hpa, hwa, hra, hR⟩, g, hl, hG, gk, g60, k⟩ := h
    have hbr := Paired.length hR
    refine ⟨_, (pss_cons (ps_setLc (i := 2) (own := [("row", 3)]) (g := gName 3) (tt := tYes) rfl scCoreW.nd rfl rfl (sw_true rfl rfl rfl (by decide +kernel)) (pi_keys (pe_frz (pe_call GTimes (hr.mono (by first | omega | decide)) (by rfl) cTimes.m cTimes.F.kp cTimes.b .nil pass0 (pa_cons (pv 1) pa_nil)))) (blkOk_by (N := nCoreW) (sc := defScope sCoreW) (by decide +kernel)) (fun _ _ _ _ _ => (pg_name (i := 3) scCoreW.nd rfl (Or.inl rfl))) (fun _ _ _ _ _ => pts_nil) (fun _ _ _ _ _ => (pe_ix (ix_tupK K rfl) (pe_ix (ix_tupK K rfl) (pv 0) pe_int (fun _ _ => rfl)) (pv 3) (fun _ _ => rfl))))
      (pss_one (ps_ret (pe_callB (cr_sortedSet rfl) (by rfl) T.sorted (by decide +kernel) (pa_cons (pe_scI (own := [("row", 3)]) (g := gName 3) rfl scCoreW.nd (pi_list (pv 2)) (blkOk_by (N := nCoreW) (sc := defScope sCoreW) (by decide +kernel)) (fun _ _ _ _ _ => (pg_name (i := 3) scCoreW.nd rfl (Or.inl rfl))) (fun _ _ _ _ _ => (pts_one (pt_val (pe_call GUsesWorth (hr.mono (by first | omega | decide)) (by rfl) cUsesWorth.m cUsesWorth.F.kp cUsesWorth.b .nil pass0 (pa_cons (pv 3) pa_nil))))) (fun _ _ _ _ _ => (pe_ix (ix_tupK K rfl) (pv 3) pe_int (fun _ _ => rfl)))) pa_nil))))), ?_⟩
    refine ⟨_, rfl, l, bs, G, rfl, hl, hG, g60, fun da F kvs H1 s1 nda tA => ?_⟩
    have hF60 : F.length ≤ 61 := by
      have q := nodup_sub tA.nd (m := 0 :: G.map (·.1.2)) fun x hx => by
        rcases (tA.mem x).mp hx with rfl | ⟨e, he, rfl⟩
        · exact List.mem_cons_self
        · exact List.mem_cons_of_mem _ (List.mem_map.mpr ⟨e, he, rfl⟩)
      rw [List.length_cons, List.length_map] at q
      omega
    have hkl : kvs.length = F.length := by
      have q := congrArg List.length tA.keys
      rwa [List.length_map, List.length_map] at q
    refine ⟨da, _, rfl, tA.dic, trivial, fun od => ?_⟩
    have S1 : Same1 H (upd H1 da (.frz od (.dK kvs))) := Same.mut s1 nda
    revert S1
    refine change fun H2 _ e2 => ?_
    intro S2
    refine ⟨da, od, rfl, .inl ⟨kvs, e2, fun D hD => ?_⟩⟩
    refine lc_gen (J := Itk da od kvs) kvs.length (fun i H' => Same1 H2 H' ∧ H' D = some (.lst ((F.take i).map fun x => V.ref (rbs.getD x 0)))) ⟨Same.new hD, upd_same⟩ (fun i H' hi ⟨q, _⟩ => ⟨q _ _ e2, hi⟩) (fun H' ⟨q, _⟩ => ⟨q _ _ e2, Nat.le_refl _⟩) ?_ ?_
    · rintro i x H3 H4 hi ⟨s3, hd3⟩ ⟨rfl, kk, v, hk, rfl⟩
      have hiF : i < F.length := by omega
      have ek : kk = kN F[i] := by
        have q : (kvs.map (·.1))[i]? = (F.map kN)[i]? := by rw [tA.keys]
        rw [List.getElem?_map, List.getElem?_map, hk, List.getElem?_eq_getElem hiF] at q
        exact Option.some.inj q
      subst ek
      have hd : doneBy G F[i] := (tA.mem _).mp (List.getElem_mem hiF)
      have hlt := doneBy_lt g gk hd
      have hcV : (rbs.map V.ref)[F[i]]? = some (V.ref (rbs.getD F[i] 0)) := by
        rw [List.getElem?_map, List.getD_eq_getElem?_getD, List.getElem?_eq_getElem (by omega)]
        rfl
      refine ⟨rfl, _, rfl, a, _, _, _, rfl, rfl, SqT.of ((S2.trans s3) _ _ hpa), at1, _, rfl, ra, _, _, _, rfl, rfl, SqT.of ((S2.trans s3) _ _ hra), atI_nat hcV, ?_⟩
      refine ⟨_, hd3, szl (by rw [List.length_map, List.length_take]; omega), Same.mut s3 hD, ?_⟩
      rw [upd_same, List.take_add_one, List.getElem?_eq_getElem hiF, List.map_append]
      rfl
    rintro H3 ⟨s3, hd3⟩
    rw [hkl, List.take_length] at hd3
    have S3 := S2.trans s3
    refine ⟨_, rfl, D, rfl, ⟨_, SqL.of hd3⟩, fun D2 hD2 => ?_⟩
    refine sc_list (K := K) (w := w) (a := D) (xs := F.map fun x => V.ref (rbs.getD x 0)) (fun i H' => Same1 H3 H' ∧ ∃ ws : List Nat, H' D2 = some (isO w D2 (isOf (ws.map fun x : Nat => (x : Int)))) ∧ ws.length ≤ i ∧
        ∀ x, x ∈ ws ↔ ∃ r ∈ F.take i, (p.rows.getD r .stop).uses = true ∧ (rowVs (p.rows.getD r .stop))[1]? = some (nI x))
      ⟨Same.new hD2, [], upd_same, Nat.le_refl _, fun x => ⟨fun h => (by cases h), fun ⟨r, hr, _⟩ => (by simp at hr)⟩⟩ (fun i H' _ ⟨q, _⟩ => SqL.of (q _ _ hd3)) ?_ ?_
    · rintro i x H4 hi ⟨s4, ws, hd4, hwl, hws⟩
      have hiF : i < F.length := by
        have q := (List.getElem?_eq_some_iff.mp hi).1
        rwa [List.length_map] at q
      have ex : x = V.ref (rbs.getD F[i] 0) := by
        rw [List.getElem?_map, List.getElem?_eq_getElem hiF] at hi
        exact (Option.some.inj hi).symm
      subst ex
      have hd : doneBy G F[i] := (tA.mem _).mp (List.getElem_mem hiF)
      have hlt := doneBy_lt g gk hd
      obtain ⟨cb, hcb1, hcb2⟩ := Paired.getR hR (List.getElem?_eq_getElem hlt)
      have ecb : rbs.getD F[i] 0 = cb := by rw [List.getD_eq_getElem?_getD, hcb1]; rfl
      have er : p.rows.getD F[i] .stop = p.rows[F[i]] := by rw [List.getD_eq_getElem?_getD, List.getElem?_eq_getElem hlt]; rfl
      rw [ecb]
      have hcb4 := (S3.trans s4) _ _ hcb2
      have hok := g.ok _ (List.getElem_mem hlt)
      have tk : F.take (i + 1) = F.take i ++ [F[i]] := by rw [List.take_add_one, List.getElem?_eq_getElem hiF]; rfl
      refine ⟨rfl, _, rfl, cb, p.rows[F[i]], rfl, hcb4, _, rfl, ?_⟩
      cases hu : p.rows[F[i]].uses with
      | false =>
        refine ⟨s4, ws, hd4, by omega, fun x => ?_⟩
        rw [hws, tk]
        constructor
        · rintro ⟨r, h1, h2⟩
          exact ⟨r, List.mem_append_left _ h1, h2⟩
        · rintro ⟨r, h1, h2⟩
          rcases List.mem_append.mp h1 with z | z
          · exact ⟨r, z, h2⟩
          · rw [List.mem_singleton.mp z, er, hu] at h2
            cases h2.1
      | true =>
        obtain ⟨x, hx⟩ := uses_at _ hu
        refine ⟨_, rfl, cb, _, _, _, rfl, rfl, SqT.of hcb4, atI_nat (j := 1) hx, (x : Int), _, rfl, hd4, ?_, Same.mut s4 hD2, ws ++ [x], ?_, ?_, fun y => ?_⟩
        · refine Nat.lt_of_le_of_lt (Nat.succ_le_succ (isOf_le _)) (Nat.lt_of_le_of_lt (m := 62) ?_ (by decide))
          rw [List.length_map]
          omega
        · rw [upd_same, List.map_append]
          show _ = some (isO w D2 (isOf (_ ++ [(x : Int)])))
          rw [isOf_app]
        · rw [List.length_append]
          show ws.length + 1 ≤ i + 1
          omega
        · rw [List.mem_append, List.mem_singleton, hws, tk]
          constructor
          · rintro (⟨r, h1, h2⟩ | rfl)
            · exact ⟨r, List.mem_append_left _ h1, h2⟩
            · exact ⟨F[i], List.mem_append_right _ (List.mem_singleton.mpr rfl), by rw [er]; exact hu, by rw [er]; exact hx⟩
          · rintro ⟨r, h1, h2⟩
            rcases List.mem_append.mp h1 with z | z
            · exact .inl ⟨r, z, h2⟩
            · rw [List.mem_singleton.mp z, er, hx] at h2
              have q := V.int.inj (Option.some.inj h2.2)
              exact .inr (by omega)
    · rintro H4 ⟨s4, ws, hd4, hwl, hws⟩
      rw [List.length_map, List.take_length] at hws
      rw [List.length_map] at hwl
      refine ⟨D2, _, _, rfl, hd4, ?_, fun ns q pw mem len hq => ?_⟩
      · refine Nat.lt_of_le_of_lt (isOf_le _) ?_
        rw [List.length_map]
        omega
      · have S4 := S3.trans s4
        have mem2 : ∀ j : Int, j ∈ ns ↔ ∃ x : Nat, j = (x : Int) ∧ x ∈ ws := by
          intro j
          rw [mem j, isOf_mem, List.mem_map]
          exact ⟨fun ⟨x, h1, h2⟩ => ⟨x, h2.symm, h1⟩, fun ⟨x, h1, h2⟩ => ⟨x, h2, h1.symm⟩⟩
        obtain ⟨rs, e1, e3⟩ := nats_of ns pw fun j hj => by
          obtain ⟨x, hx, _⟩ := (mem2 j).mp hj
          exact ⟨x, hx⟩
        subst e1
        refine alloc hq fun H5 s5 e5 => ?_
        refine k q rs H5 (S4.trans s5) (S4.free hq) (by rw [e5, List.map_map]; rfl) ⟨e3, fun x => ?_⟩
        have m1 : x ∈ rs ↔ x ∈ ws := by
          constructor
          · intro hx
            obtain ⟨z, hz, h1⟩ := (mem2 (x : Int)).mp (List.mem_map.mpr ⟨x, hx, rfl⟩)
            have : x = z := by omega
            exact this ▸ h1
          · intro hx
            obtain ⟨z, hz, h1⟩ := List.mem_map.mp ((mem2 (x : Int)).mpr ⟨x, rfl, hx⟩)
            have : z = x := by omega
            exact this ▸ hz
        rw [m1, hws]
        exact ⟨fun ⟨r, h1, h2⟩ => ⟨r, (tA.mem r).mp h1, h2⟩, fun ⟨r, h1, h2⟩ => ⟨r, (tA.mem r).mpr h1, h2⟩⟩
end
end DL
namespace DL
open PySem L2 DLR
abbrev sHomesOf : Stmt := top 68
abbrev sRowsAt : Stmt := top 69
abbrev nHomesOf : List Str := ["program","worths","places","homes","worth","place"]
abbrev nRowsAt : List Str := ["rows","places","laid_first","row","place"]
abbrev FHomesOf (K : Frg) (mg : Str → Option Value) := Fd K mg "homes_of" sHomesOf ["program","worths","places"]
abbrev FRowsAt (K : Frg) (mg : Str → Option Value) := Fd K mg "rows_at" sRowsAt ["rows","places"]
theorem Paired.put {α β : Type} {R : α → β → Prop} {a : α} {b : β} (h : R a b) : ∀ {xs : List α} {ys : List β} (i : Nat), Paired R xs ys → Paired R (xs.set i a) (ys.set i b)
  | _, _, _, .nil => .nil
  | _, _, 0, .cons _ hr => .cons h hr
  | _, _, i + 1, .cons h0 hr => .cons h0 (Paired.put h i hr)
theorem Paired.rep {α β : Type} {R : α → β → Prop} {a : α} {b : β} (h : R a b) : ∀ n, Paired R (List.replicate n a) (List.replicate n b)
  | 0 => .nil
  | n + 1 => .cons h (Paired.rep h n)
def homesZ (n : Nat) (z : List (Nat × Nat)) : List (List Nat) := z.foldl (fun hs q => hs.set q.1 [q.2]) (List.replicate n [0])
theorem homesZ_app (n : Nat) (z : List (Nat × Nat)) (q : Nat × Nat) : homesZ n (z ++ [q]) = (homesZ n z).set q.1 [q.2] := by
  unfold homesZ
  rw [List.foldl_append]
  rfl
theorem fold_set_len : ∀ (z : List (Nat × Nat)) (hs : List (List Nat)), (z.foldl (fun hs q => hs.set q.1 [q.2]) hs).length = hs.length
  | [], _ => rfl
  | q :: z, hs => by rw [List.foldl_cons, fold_set_len z, List.length_set]
theorem homesZ_len (n : Nat) (z : List (Nat × Nat)) : (homesZ n z).length = n := by
  unfold homesZ
  rw [fold_set_len, List.length_replicate]
theorem fold_set_one {W : Nat} : ∀ (z : List (Nat × Nat)) (hs : List (List Nat)), (∀ q ∈ z, q.2 < W) → (∀ h ∈ hs, ∃ x, h = [x] ∧ x < W) → ∀ h ∈ z.foldl (fun hs q => hs.set q.1 [q.2]) hs, ∃ x, h = [x] ∧ x < W
  | [], _, _, h2, h, hh => h2 h hh
  | q :: z, hs, h1, h2, h, hh => by
    refine fold_set_one z (hs.set q.1 [q.2]) (fun r hr => h1 r (List.mem_cons_of_mem _ hr)) (fun k hk => ?_) h hh
    rcases List.mem_or_eq_of_mem_set hk with m | m
    · exact h2 k m
    · exact ⟨q.2, m, h1 q List.mem_cons_self⟩
theorem homesZ_one {W n : Nat} (w0 : 0 < W) (z : List (Nat × Nat)) (h : ∀ q ∈ z, q.2 < W) : ∀ k ∈ homesZ n z, ∃ x, k = [x] ∧ x < W :=
  fold_set_one z _ h fun k hk => ⟨0, List.eq_of_mem_replicate hk, w0⟩
def spHomesOf : Sp := fun vs H Q _ => ∃ (a wl pl : Addr) (p : Prog) (ws ps : List Nat), vs = [.ref a, .ref wl, .ref pl] ∧ ProgAt H a p ∧ Good p ∧ H wl = some (.lst (ws.map nI)) ∧ H pl = some (.lst (ps.map nI)) ∧ ws.length = ps.length ∧ (∀ x ∈ ws, x < p.ws.length) ∧
  ∀ ha cs H', Same1 H H' → H' ha = some (.tup (cs.map V.ref)) → HomesAt H' cs (homesZ p.ws.length (ws.zip ps)) → Q (.ref ha) H'
structure PlAt (H : Hp) (da : Addr) (f : Nat → Option Nat) (m : Nat) : Prop where
  dic : ∃ kvs : List (Key × V), H da = some (.dK kvs) ∧ kvs.length ≤ m ∧ ∀ x, valV kvs (kN x) = (f x).map nI
def put1 (f : Nat → Option Nat) (q : Nat × Nat) : Nat → Option Nat := fun x => if x = q.1 then some q.2 else f x
def firstF (z : List (Nat × Nat)) : Nat → Option Nat := z.foldl put1 (fun x => if x = 0 then some 0 else none)
theorem firstF_app (z : List (Nat × Nat)) (q : Nat × Nat) : firstF (z ++ [q]) = put1 (firstF z) q := by
  unfold firstF
  rw [List.foldl_append]
  rfl
theorem PlAt.put {H : Hp} {da : Addr} {f : Nat → Option Nat} {m : Nat} {kvs : List (Key × V)} (hk : kvs.length ≤ m) (h : ∀ x, valV kvs (kN x) = (f x).map nI) (q : Nat × Nat) :
    PlAt (upd H da (.dK (putK kvs (kN q.1) (nI q.2)))) da (put1 f q) (m + 1) := by
  refine ⟨_, upd_same, Nat.le_trans putK_len (by omega), fun x => ?_⟩
  rw [valV_put, h]
  unfold put1
  by_cases e : x = q.1
  · rw [if_pos (by rw [e]), if_pos e]
    rfl
  · rw [if_neg (fun z => e (kN_inj z)), if_neg e]
def spRowsAt : Sp := fun vs H Q _ => ∃ (rl pl : Addr) (rs ps : List Nat), vs = [.ref rl, .ref pl] ∧ H rl = some (.lst (rs.map nI)) ∧ H pl = some (.lst (ps.map nI)) ∧ rs.length = ps.length ∧ rs.length ≤ 100 ∧
  ∀ da H', Same1 H H' → H da = none → PlAt H' da (firstF (rs.zip ps)) (rs.length + 1) → Q (.ref da) H'
section
variable {P : Program} {w : World} {K : PySem.W.Frag} {mg : Str → Option Value} {base : Heap}
theorem scHomesOf : FnScope nHomesOf ["program","worths","places"] (defScope sHomesOf) := ⟨rfl, rfl, rfl, by decide +kernel, rfl, by decide +kernel, by decide +kernel⟩
theorem scRowsAt : FnScope nRowsAt ["rows","places"] (defScope sRowsAt) := ⟨rfl, rfl, rfl, by decide +kernel, rfl, by decide +kernel, by decide +kernel⟩
theorem zip_take {α β : Type} {xs : List α} {ys : List β} {i : Nat} {x : α} {y : β} (hx : xs[i]? = some x) (hy : ys[i]? = some y) : (xs.zip ys).take (i + 1) = (xs.zip ys).take i ++ [(x, y)] := by
  have e : (xs.zip ys)[i]? = some (x, y) := by rw [List.getElem?_zip_eq_some]; exact ⟨hx, hy⟩
  rw [List.take_add_one, e]
  rfl
theorem ok_rowsAt (c : FRowsAt K mg) (T : Bt mg) : FnOk P w K mg base CX0 1 c.f c.fd ["rows","places"] spRowsAt := by
  refine c.F.ok scRowsAt (fun vs H Q E h => ?_) (fun cdv A outer s H vs Q E hr h => ?_)
  · obtain ⟨rl, pl, rs, ps, rfl, _⟩ := h
    rfl
  · obtain ⟨rl, pl, rs, ps, rfl, hrl, hpl, hlen, h100, k⟩ := h
    refine ⟨_, (pss_cons (ps_set (i := 2) scRowsAt.nd rfl (Or.inl rfl) (pe_disp (pps_cons pe_int pe_int pps_nil) (by rfl) (by rfl) (fun z => by cases z) (by decide)))
      (pss_cons (ps_for PassesOwn.never rfl (pi_zip (by rfl) T.zip (pa_cons (pv 0) (pa_cons (pv 1) pa_nil))) (pg_tup rfl (pgs_cons (pg_name (i := 3) scRowsAt.nd rfl (Or.inl rfl)) (pgs_cons (pg_name (i := 4) scRowsAt.nd rfl (Or.inl rfl)) pgs_nil)))
          (pss_one (ps_dput (hu_of hr) (pv 2) (pv 3) (pv 4) rfl)))
      (pss_one (ps_ret (pv 2))))), ?_⟩
    refine fun da hda => ?_
    refine alloc hda fun H1 s1 e1 => ?_
    refine ⟨e1, [(kN 0, nI 0)], rfl, (by show 1 ≤ 15; decide), ?_⟩
    have S1 : Same1 H (upd H1 da (.dK (mergeK [] [(kN 0, nI 0)]))) := Same.mut s1 hda
    have P1 : PlAt (upd H1 da (.dK (mergeK [] [(kN 0, nI 0)]))) da (firstF ((rs.zip ps).take 0)) 1 := by
      refine ⟨_, upd_same, Nat.le_refl _, fun x => ?_⟩
      rw [show mergeK [] [(kN 0, nI 0)] = [(kN 0, nI 0)] from rfl]
      show _ = Option.map nI (if x = 0 then some 0 else none)
      by_cases e : x = 0
      · subst e; rw [valV_pos rfl]; rfl
      · rw [valV_neg (show ¬ (kN 0, nI 0).1 = kN x from fun z => e (kN_inj z).symm), if_neg e]
        rfl
    revert S1 P1
    refine change fun H2 b2 e2 => ?_
    intro S1 P1
    refine ⟨_, rfl, _, rfl, rl, pl, _, _, rfl, SqL.of (S1 _ _ hrl), SqL.of (S1 _ _ hpl), ?_⟩
    refine RZ.for_zipL (K := K) (a := rl) (b := pl) (xs := rs.map nI) (ys := ps.map nI) (by rw [List.length_map, List.length_map]; exact hlen) (fun i σ H' => ∃ (x3 x4 : Option V), σ = [some (.ref rl), some (.ref pl), some (.ref da), x3, x4] ∧ Same1 H H' ∧ i ≤ rs.length ∧ PlAt H' da (firstF ((rs.zip ps).take i)) (i + 1))
      ⟨none, none, rfl, S1, Nat.zero_le _, P1⟩ (fun i σ H' ⟨_, _, _, q, _⟩ => ⟨SqL.of (q _ _ hrl), SqL.of (q _ _ hpl)⟩) ?_ ?_
    · rintro i x y t σ H3 hx hy ⟨x3, x4, rfl, s3, hi, kvs, d1, d2, d3⟩ nt
      rw [List.getElem?_map] at hx hy
      cases ex : rs[i]? with
      | none => rw [ex] at hx; cases hx
      | some r =>
        cases ey : ps[i]? with
        | none => rw [ey] at hy; cases hy
        | some q =>
          rw [ex] at hx
          rw [ey] at hy
          have hx : nI r = x := Option.some.inj hx
          have hy : nI q = y := Option.some.inj hy
          subst hx hy
          have hil := (List.getElem?_eq_some_iff.mp ex).1
          have nda : da ≠ t := ne_of_none d1 nt
          refine alloc nt fun H4 s4 e4 => ?_
          have d4 := s4 _ _ d1
          refine ⟨t, _, rfl, SqT.of e4, rfl, _, _, rfl, _, _, rfl, rfl, ?_⟩
          refine ⟨_, rfl, _, rfl, _, rfl, da, _, rfl, DPut.k (k := kN r) d4 (szl (by omega)), ?_⟩
          refine ⟨_, _, rfl, Same.mut (s3.trans s4) hda, hil, ?_⟩
          rw [zip_take ex ey, firstF_app]
          exact PlAt.put d2 d3 (r, q)
    · rintro σ H3 ⟨x3, x4, rfl, s3, hi, p3⟩
      rw [List.length_map, show (rs.zip ps).take rs.length = rs.zip ps from List.take_of_length_le (by rw [List.length_zip]; omega)] at p3
      exact ⟨_, rfl, k da H3 s3 hda p3⟩
theorem ok_homesOf (c : FHomesOf K mg) (T : Bt mg) : FnOk P w K mg base CX0 1 c.f c.fd ["program","worths","places"] spHomesOf := by
  refine c.F.ok scHomesOf (fun vs H Q E h => ?_) (fun cdv A outer s H vs Q E hr h => ?_)
  · obtain ⟨a, wl, pl, p, ws, ps, rfl, _⟩ := h
    rfl
  · obtain ⟨a, wl, pl, p, ws, ps, rfl, ⟨wa, ra, rbs, hpa, hwa, hra, hR⟩, g, hwl, hpl, hlen, hwn, k⟩ := h
    have hW8 := g.w8
    refine ⟨_, (pss_cons (ps_set (i := 3) scHomesOf.nd rfl (Or.inl rfl) (pe_op op_rep (pe_lst (pa_cons (pe_tup (pa_cons pe_int pa_nil)) pa_nil)) (pe_callB call_len_seq (by rfl) T.len PySem.boot_len (pa_cons (pe_ix ix_tup (pv 0) pe_int (fun _ _ => rfl)) pa_nil))))
      (pss_cons (ps_for PassesOwn.never rfl (pi_zip (by rfl) T.zip (pa_cons (pv 1) (pa_cons (pv 2) pa_nil))) (pg_tup rfl (pgs_cons (pg_name (i := 4) scHomesOf.nd rfl (Or.inl rfl)) (pgs_cons (pg_name (i := 5) scHomesOf.nd rfl (Or.inl rfl)) pgs_nil)))
          (pss_one (ps_asg (pe_tup (pa_cons (pv 5) pa_nil)) (pg_sub (pv 3) (pv 4) set_list))))
      (pss_one (ps_ret (pe_callTy call_tuple_of (by rfl) T.tuple (by decide +kernel) (pa_cons (pv 3) pa_nil)))))), ?_⟩
    refine ⟨(by show 1 ≤ sizeLine; decide), fun c0 hc0 => ?_⟩
    refine alloc hc0 fun H1 s1 e1 => ?_
    refine ⟨(by show 1 ≤ sizeLine; decide), fun l0 hl0 => ?_⟩
    refine alloc hl0 fun H2 s2 e2 => ?_
    have S2 := s1.trans s2
    refine ⟨_, rfl, a, _, _, _, rfl, rfl, SqT.of (S2 _ _ hpa), at0, wa, _, rfl, .inr (SqT.of (S2 _ _ hwa)), l0, _, _, rfl, rfl, e2, ?_, ?_, ?_, fun hl hhl => ?_⟩
    · rw [List.length_map]; omega
    · rw [List.length_map]; omega
    · refine sz ?_
      show 1 * _ ≤ _
      rw [List.length_map]; omega
    refine alloc hhl fun H3 s3 e3 => ?_
    rw [List.flatten_replicate_singleton, List.length_map, Int.toNat_natCast] at e3
    have S3 := S2.trans s3
    have nhl : H hl = none := S2.free hhl
    refine ⟨_, rfl, _, rfl, wl, pl, _, _, rfl, SqL.of (S3 _ _ hwl), SqL.of (S3 _ _ hpl), ?_⟩
    refine RZ.for_zipL (K := K) (a := wl) (b := pl) (xs := ws.map nI) (ys := ps.map nI) (by rw [List.length_map, List.length_map]; exact hlen) (fun i σ H' => ∃ (x4 x5 : Option V) (cs : List Addr), σ = [some (.ref a), some (.ref wl), some (.ref pl), some (.ref hl), x4, x5] ∧ Same1 H H' ∧ i ≤ ws.length ∧ H' hl = some (.lst (cs.map V.ref)) ∧ HomesAt H' cs (homesZ p.ws.length ((ws.zip ps).take i)))
      ⟨none, none, List.replicate p.ws.length c0, rfl, S3, Nat.zero_le _, by rw [e3, List.map_replicate], Paired.rep (R := fun b (h : List Nat) => H3 b = some (.tup (h.map nI))) (b := [0]) ((s2.trans s3) _ _ e1) _⟩ (fun i σ H' ⟨_, _, _, _, q, _⟩ => ⟨SqL.of (q _ _ hwl), SqL.of (q _ _ hpl)⟩) ?_ ?_
    · rintro i x y t σ H4 hx hy ⟨x4, x5, cs, rfl, s4, hi, h4, hs4⟩ nt
      rw [List.getElem?_map] at hx hy
      cases ex : ws[i]? with
      | none => rw [ex] at hx; cases hx
      | some r =>
        cases ey : ps[i]? with
        | none => rw [ey] at hy; cases hy
        | some q =>
          rw [ex] at hx
          rw [ey] at hy
          have hx : nI r = x := Option.some.inj hx
          have hy : nI q = y := Option.some.inj hy
          subst hx hy
          have hil := (List.getElem?_eq_some_iff.mp ex).1
          have hrn := hwn r (List.mem_of_getElem? ex)
          refine alloc nt fun H5 s5 e5 => ?_
          have h5 := s5 _ _ h4
          have hs5 := HomesAt.kp hs4 (Kp.same s5)
          have hcl := Paired.length hs5
          rw [homesZ_len] at hcl
          refine ⟨t, _, rfl, SqT.of e5, rfl, _, _, rfl, _, _, rfl, rfl, ?_⟩
          refine ⟨_, rfl, (by show 1 ≤ sizeLine; decide), fun c1 hc1 => ?_⟩
          refine alloc hc1 fun H6 s6 e6 => ?_
          have h6 := s6 _ _ h5
          have hs6 := HomesAt.kp hs5 (Kp.same s6)
          refine ⟨_, rfl, _, rfl, hl, _, _, r, rfl, rfl, h6, ixN_nat (by rw [List.length_map]; omega), ?_⟩
          refine ⟨_, _, cs.set r c1, rfl, Same.mut ((s4.trans s5).trans s6) nhl, hil, by rw [upd_same, List.map_set], ?_⟩
          rw [zip_take ex ey, homesZ_app]
          exact HomesAt.kp (Paired.put (R := fun b (h : List Nat) => H6 b = some (.tup (h.map nI))) (b := [q]) e6 r hs6) (Kp.lst h6)
    · rintro σ H4 ⟨x4, x5, cs, rfl, s4, hi, h4, hs4⟩
      rw [List.length_map, show (ws.zip ps).take ws.length = ws.zip ps from List.take_of_length_le (by rw [List.length_zip]; omega)] at hs4
      refine ⟨_, rfl, hl, _, rfl, .inl ⟨SqL.of h4, fun ha hha => ?_⟩⟩
      refine alloc hha fun H5 s5 e5 => ?_
      exact k ha cs H5 (s4.trans s5) e5 (HomesAt.kp hs4 (Kp.same s5))
end
end DL
namespace DL
open PySem L2 DLR
theorem op_notIn_seqK {X : Cx} (K0 : PySem.W.Frag) (hK : X.K = K0) : OpR X (compareOp .NotIn) (rIn K0 true) := hK ▸ op_notIn_seq
abbrev sLinks : Stmt := top 70
abbrev nLinks : List Str := ["goes","rows","links","waiting","row","ahead","begin","to","_"]
abbrev FLinks (K : Frg) (mg : Str → Option Value) := Fd K mg "links_beside_core" sLinks ["goes","rows"]
theorem inV_nat (j : Nat) : ∀ L : List Nat, inV (nI j) (L.map nI) = decide (j ∈ L)
  | [] => rfl
  | x :: L => by
    show (eqV (nI x) (nI j) || inV (nI j) (L.map nI)) = _
    rw [inV_nat j L]
    show (((x : Int) == (j : Int)) || _) = _
    by_cases e : x = j
    · subst e; simp
    · have e1 : ((x : Int) == (j : Int)) = false := beq_eq_false_iff_ne.mpr (by omega)
      rw [e1, Bool.false_or]
      refine decide_eq_decide.mpr ?_
      rw [List.mem_cons]
      exact ⟨.inr, fun z => z.resolve_left fun q => e q.symm⟩
theorem flat_nat : ∀ L : List Nat, (L.map nI).all flatV = true
  | [] => rfl
  | x :: L => flat_nat L
structure Links (G : GoL) (rs : List Nat) (L : List (Nat × Nat)) : Prop where
  go : ∀ q ∈ L, q ∈ G.map (·.1) ∧ q.2 ≠ 0 ∧ q.2 ∉ rs
  ord : ∀ (i : Nat) (q : Nat × Nat), L[i]? = some q → q.1 = 0 ∨ q.1 ∈ rs ∨ ∃ (j : Nat) (q' : Nat × Nat), j < i ∧ L[j]? = some q' ∧ q'.2 = q.1
  all : ∀ e ∈ G, (e.1.1 = 0 ∨ e.1.1 ∈ rs ∨ ∃ q ∈ L, q.2 = e.1.1) → e.1.2 ≠ 0 → e.1.2 ∉ rs → e.1 ∈ L
  len : L.length ≤ 60
def spLinks : Sp := fun vs H Q _ => ∃ (l rl : Addr) (bs : List Addr) (G : GoL) (rs : List Nat) (N : Nat), vs = [.ref l, .ref rl] ∧ H l = some (.lst (bs.map V.ref)) ∧ GoesAt H bs G ∧ H rl = some (.lst (rs.map nI)) ∧ RowsOf G rs ∧
  (G.map (·.1)).Nodup ∧ G.length < 60 ∧ 0 < N ∧ N ≤ 60 ∧ (∀ e ∈ G, e.1.2 < N) ∧ ∀ la ls L H', Same1 H H' → H' la = some (.lst (ls.map V.ref)) → PairsL H' ls L → Links G rs L → Q (.ref la) H'
def aheadF (rs : List Nat) (r : Nat) (q : Nat × Nat) : Bool := decide (q.1 = r ∧ q.2 ≠ 0 ∧ q.2 ∉ rs)
def aheadOf (G : GoL) (rs : List Nat) (r : Nat) : List Nat := ((G.map (·.1)).filter (aheadF rs r)).map (·.2)
structure LW (G : GoL) (rs : List Nat) (N : Nat) (L : List (Nat × Nat)) (W Pd : List Nat) : Prop where
  nd : (W ++ Pd).Nodup
  al : ∀ x, x ∈ W ++ Pd ↔ x = 0 ∨ x ∈ rs ∨ ∃ q ∈ L, q.2 = x
  go : ∀ q ∈ L, q.1 ∈ Pd ∧ q ∈ G.map (·.1) ∧ q.2 ≠ 0 ∧ q.2 ∉ rs
  cl : ∀ x ∈ Pd, ∀ e ∈ G, e.1.1 = x → e.1.2 ≠ 0 → e.1.2 ∉ rs → e.1 ∈ L
  ord : ∀ (i : Nat) (q : Nat × Nat), L[i]? = some q → q.1 = 0 ∨ q.1 ∈ rs ∨ ∃ (j : Nat) (q' : Nat × Nat), j < i ∧ L[j]? = some q' ∧ q'.2 = q.1
  lt : ∀ x ∈ W ++ Pd, x < N
  len : L.length ≤ W.length + Pd.length
theorem two_come {G : GoL} {u r t : Nat} (nd : (G.map (·.1)).Nodup) (h1 : (u, t) ∈ G.map (·.1)) (h2 : (r, t) ∈ G.map (·.1)) (ne : u ≠ r) : 2 ≤ (G.map (·.1.2)).count t := by
  have e : (G.map (·.1.2)).count t = ((G.map (·.1)).filter fun q => q.2 == t).length := by
    rw [← List.countP_eq_length_filter, List.countP_map, List.count, List.countP_map]
    rfl
  rw [e]
  refine nodup_sub (l := [(u, t), (r, t)]) ?_ fun q hq => ?_
  · simp [ne]
  · rcases List.mem_cons.mp hq with rfl | hq
    · exact List.mem_filter.mpr ⟨h1, by simp⟩
    · rw [List.mem_singleton.mp hq]
      exact List.mem_filter.mpr ⟨h2, by simp⟩
theorem LW.step {G : GoL} {rs : List Nat} {N : Nat} {L : List (Nat × Nat)} {W Pd : List Nat} {r : Nat} (ro : RowsOf G rs) (nd : (G.map (·.1)).Nodup) (hN : ∀ e ∈ G, e.1.2 < N) (h : LW G rs N L (W ++ [r]) Pd) :
    LW G rs N (L ++ (aheadOf G rs r).map fun t => (r, t)) (W ++ aheadOf G rs r) (r :: Pd) := by
  have pm : (W ++ (r :: Pd)).Perm ((W ++ [r]) ++ Pd) := by rw [List.append_assoc]; exact List.Perm.refl _
  have nd1 : (W ++ (r :: Pd)).Nodup := pm.nodup_iff.mpr h.nd
  have rP : r ∉ Pd := (List.nodup_cons.mp (List.nodup_append.mp nd1).2.1).1
  have inA : ∀ t, t ∈ aheadOf G rs r ↔ (r, t) ∈ G.map (·.1) ∧ t ≠ 0 ∧ t ∉ rs := by
    intro t
    unfold aheadOf
    rw [List.mem_map]
    constructor
    · rintro ⟨⟨u, v⟩, hq, rfl⟩
      obtain ⟨m1, m2⟩ := List.mem_filter.mp hq
      obtain ⟨e1, e2, e3⟩ := of_decide_eq_true m2
      have e1 : u = r := e1
      subst e1
      exact ⟨m1, e2, e3⟩
    · rintro ⟨m1, m2, m3⟩
      exact ⟨(r, t), List.mem_filter.mpr ⟨m1, decide_eq_true ⟨rfl, m2, m3⟩⟩, rfl⟩
  have ndA : (aheadOf G rs r).Nodup := by
    unfold aheadOf
    have q := nd.filter (aheadF rs r)
    refine List.pairwise_map.mpr (q.imp_of_mem fun {a b} ha hb ne z => ne ?_)
    obtain ⟨a1, _⟩ := of_decide_eq_true (List.mem_filter.mp ha).2
    obtain ⟨b1, _⟩ := of_decide_eq_true (List.mem_filter.mp hb).2
    exact Prod.ext (a1.trans b1.symm) z
  have dis : ∀ t ∈ aheadOf G rs r, t ∉ W ++ (r :: Pd) := by
    intro t ht hw
    obtain ⟨t1, t2, t3⟩ := (inA t).mp ht
    rcases (h.al t).mp (pm.mem_iff.mp hw) with z | z | ⟨q, hq, z⟩
    · exact t2 z
    · exact t3 z
    · obtain ⟨g1, g2, g3, g4⟩ := h.go q hq
      have ne : q.1 ≠ r := fun y => rP (y ▸ g1)
      obtain ⟨u, v⟩ := q
      have z : v = t := z
      subst z
      exact t3 ((ro.2 v).mpr ⟨t2, two_come nd g2 t1 ne⟩)
  have pm2 : ((W ++ aheadOf G rs r) ++ (r :: Pd)).Perm (aheadOf G rs r ++ (W ++ (r :: Pd))) := by
    rw [List.append_assoc]
    refine (List.perm_append_comm_assoc W (aheadOf G rs r) (r :: Pd))
  have al1 : ∀ x, x ∈ W ++ (r :: Pd) ↔ x = 0 ∨ x ∈ rs ∨ ∃ q ∈ L, q.2 = x := fun x => pm.mem_iff.trans (h.al x)
  refine ⟨pm2.nodup_iff.mpr (List.nodup_append.mpr ⟨ndA, nd1, fun x hx y hy e => dis x hx (e ▸ hy)⟩), fun x => ?_, fun q hq => ?_, fun x hx e he e1 e2 e3 => ?_, fun i q hq => ?_, fun x hx => ?_, ?_⟩
  · rw [pm2.mem_iff, List.mem_append, al1]
    constructor
    · rintro (z | z | z | ⟨q, hq, z⟩)
      · exact .inr (.inr ⟨(r, x), List.mem_append_right _ (List.mem_map.mpr ⟨x, z, rfl⟩), rfl⟩)
      · exact .inl z
      · exact .inr (.inl z)
      · exact .inr (.inr ⟨q, List.mem_append_left _ hq, z⟩)
    · rintro (z | z | ⟨q, hq, z⟩)
      · exact .inr (.inl z)
      · exact .inr (.inr (.inl z))
      · rcases List.mem_append.mp hq with y | y
        · exact .inr (.inr (.inr ⟨q, y, z⟩))
        · obtain ⟨t, ht, rfl⟩ := List.mem_map.mp y
          have z : t = x := z
          exact .inl (z ▸ ht)
  · rcases List.mem_append.mp hq with y | y
    · obtain ⟨g1, g2⟩ := h.go q y
      exact ⟨List.mem_cons_of_mem _ g1, g2⟩
    · obtain ⟨t, ht, rfl⟩ := List.mem_map.mp y
      exact ⟨List.mem_cons_self, (inA t).mp ht⟩
  · rcases List.mem_cons.mp hx with z | z
    · refine List.mem_append_right _ (List.mem_map.mpr ⟨e.1.2, (inA _).mpr ⟨List.mem_map.mpr ⟨e, he, ?_⟩, e2, e3⟩, ?_⟩)
      · exact Prod.ext (e1.trans z) rfl
      · exact Prod.ext (z.symm.trans e1.symm) rfl
    · exact List.mem_append_left _ (h.cl x z e he e1 e2 e3)
  · rcases Nat.lt_or_ge i L.length with lt | ge
    · rw [List.getElem?_append_left lt] at hq
      rcases h.ord i q hq with z | z | ⟨j, q', jl, hj, z⟩
      · exact .inl z
      · exact .inr (.inl z)
      · exact .inr (.inr ⟨j, q', jl, by rw [List.getElem?_append_left (by omega)]; exact hj, z⟩)
    · rw [List.getElem?_append_right ge] at hq
      obtain ⟨t, ht, e⟩ := List.mem_map.mp (List.mem_of_getElem? hq)
      subst e
      rcases (al1 r).mp (List.mem_append_right _ List.mem_cons_self) with z | z | ⟨q', hq', z⟩
      · exact .inl z
      · exact .inr (.inl z)
      · obtain ⟨j, hj⟩ := List.getElem?_of_mem hq'
        have jl := (List.getElem?_eq_some_iff.mp hj).1
        exact .inr (.inr ⟨j, q', by omega, by rw [List.getElem?_append_left jl]; exact hj, z⟩)
  · rcases List.mem_append.mp (pm2.mem_iff.mp hx) with z | z
    · obtain ⟨m1, _⟩ := (inA x).mp z
      obtain ⟨e, he, ee⟩ := List.mem_map.mp m1
      have q := hN e he
      rw [ee] at q
      exact q
    · exact h.lt x (pm.mem_iff.mp z)
  · have q := h.len
    rw [List.length_append, List.length_map, List.length_append, List.length_cons]
    rw [List.length_append] at q
    have q : L.length ≤ (W.length + 1) + Pd.length := q
    omega
section
variable {P : Program} {w : World} {K : PySem.W.Frag} {mg : Str → Option Value} {base : Heap}
theorem scLinks : FnScope nLinks ["goes","rows"] (defScope sLinks) := ⟨rfl, rfl, rfl, by decide +kernel, rfl, by decide +kernel, by decide +kernel⟩
theorem ok_links (c : FLinks K mg) : FnOk P w K mg base CX0 1 c.f c.fd ["goes","rows"] spLinks := by
  refine c.F.ok scLinks (fun vs H Q E h => ?_) (fun cdv A outer s H vs Q E hr h => ?_)
  · obtain ⟨l, rl, bs, G, rs, N, rfl, _⟩ := h
    rfl
  · obtain ⟨l, rl, bs, G, rs, N, rfl, hl, hG, hrl, ro, nd, g60, n0, n60, hN, k⟩ := h
    have hbl := Paired.length hG
    have rsN : ∀ x ∈ rs, x < N := fun x hx => by
      have q := ((ro.2 x).mp hx).2
      obtain ⟨e, he, rfl⟩ := List.mem_map.mp (List.count_pos_iff.mp (show 0 < (G.map (·.1.2)).count x by omega))
      exact hN e he
    have rsNd : rs.Nodup := ro.1.imp fun {a b} h => Nat.ne_of_lt h
    have rsLen := lenLe rsNd rsN
    have z0 : 0 ∉ rs := fun h => ((ro.2 0).mp h).1 rfl
    refine ⟨_, (pss_cons (ps_set (i := 2) scLinks.nd rfl (Or.inl rfl) (pe_lst pa_nil))
      (pss_cons (ps_set (i := 3) scLinks.nd rfl (Or.inl rfl) (pe_lst (pa_cons pe_int (StX.pa_star (pv 1) pa_nil))))
      (pss_cons (ps_while PassesOwn.never (pt_truth (pv 3) (fun _ => rfl))
          (pss_cons (ps_set (i := 4) scLinks.nd rfl (Or.inr rfl) (pe_bm0 PySem.F.plainAttrs_list PySem.F.slot_list_pop PySem.F.type_list_pop mt_pop (pv 3)))
          (pss_cons (ps_setLc (i := 5) (own := [("begin", 6), ("to", 7), ("_", 8)]) (g := gTup K 3 (gCons (gName 6) (gCons (gName 7) (gCons (gName 8) gNil)))) rfl scLinks.nd rfl rfl (sw_true rfl rfl rfl (by decide +kernel)) (pi_list (pv 0)) (blkOk_by (N := nLinks) (sc := defScope sLinks) (by decide +kernel)) (fun _ _ _ _ _ => (pg_tupK K rfl rfl (pgs_cons (pg_name (i := 6) scLinks.nd rfl (Or.inl rfl)) (pgs_cons (pg_name (i := 7) scLinks.nd rfl (Or.inl rfl)) (pgs_cons (pg_name (i := 8) scLinks.nd rfl (Or.inl rfl)) pgs_nil))))) (fun _ _ _ _ _ => (pts_one (PW.pt (pw_and (pt_cmpR op_eq (pv 6) (pv 4) (nomark _)) (pw_and (pt_cmpR op_ne (pv 7) pe_int (nomark _)) (pw_and1 (pt_cmpR (op_notIn_seqK K rfl) (pv 7) (pv 1) rfl))))))) (fun _ _ _ _ _ => (pv 7)))
          (pss_cons (ps_expr (pe_bm PySem.F.plainAttrs_list PySem.F.slot_list_extend PySem.F.type_list_extend mt_extend (pv 2) (pa_cons (pe_lc (own := [("to", 7)]) (g := gName 7) (tt := tYes) rfl scLinks.nd (pi_list (pv 5)) (blkOk_by (N := nLinks) (sc := defScope sLinks) (by decide +kernel)) (fun _ _ _ _ _ => (pg_name (i := 7) scLinks.nd rfl (Or.inl rfl))) (fun _ _ _ _ _ => pts_nil) (fun _ _ _ _ _ => (pe_tup (pa_cons (pv 4) (pa_cons (pv 7) pa_nil))))) pa_nil)))
          (pss_one (ps_expr (pe_bm PySem.F.plainAttrs_list PySem.F.slot_list_extend PySem.F.type_list_extend mt_extend (pv 3) (pa_cons (pv 5) pa_nil))))))))
      (pss_one (ps_ret (pv 2)))))), ?_⟩
    refine ⟨Nat.zero_le _, fun la hla => ?_⟩
    refine alloc hla fun H1 s1 e1 => ?_
    refine ⟨_, rfl, rl, rs.map nI, rfl, .inr (SqL.of (s1 _ _ hrl)), ?_, fun wa hwa => ?_⟩
    · refine sz ?_
      rw [List.append_nil, List.length_cons, List.length_map]
      omega
    refine alloc hwa fun H2 s2 e2 => ?_
    have e2 : H2 wa = some (.lst ((0 :: rs).map nI)) := by rw [e2, List.append_nil]; rfl
    have S2 := s1.trans s2
    have nwa : H wa = none := s1.free hwa
    have nlw : la ≠ wa := ne_of_none e1 hwa
    dsimp only [gName]
    refine whileE (fun m σ H' => ∃ (L : List (Nat × Nat)) (W Pd : List Nat) (ls : List Addr) (x4 x5 x6 x7 x8 : Option V), m = N - Pd.length ∧ σ = [some (.ref l), some (.ref rl), some (.ref la), some (.ref wa), x4, x5, x6, x7, x8] ∧ Same1 H H' ∧ H' la = some (.lst (ls.map V.ref)) ∧ PairsL H' ls L ∧ H' wa = some (.lst (W.map nI)) ∧ LW G rs N L W Pd)
      (fun σ H' => ∃ (L : List (Nat × Nat)) (Pd : List Nat) (ls : List Addr) (x4 x5 x6 x7 x8 : Option V), σ = [some (.ref l), some (.ref rl), some (.ref la), some (.ref wa), x4, x5, x6, x7, x8] ∧ Same1 H H' ∧ H' la = some (.lst (ls.map V.ref)) ∧ PairsL H' ls L ∧ LW G rs N L [] Pd)
      ⟨_, [], 0 :: rs, [], [], none, none, none, none, none, rfl, rfl, S2, s2 _ _ e1, .nil, e2, ?_⟩ ?_ ?_
    · refine ⟨?_, fun x => ?_, fun q hq => (by cases hq), fun x hx => (by cases hx), fun i q hq => (by simp at hq), fun x hx => ?_, Nat.zero_le _⟩
      · rw [List.append_nil]
        exact List.nodup_cons.mpr ⟨z0, rsNd⟩
      · rw [List.append_nil, List.mem_cons]
        exact ⟨fun h => h.elim .inl fun h => .inr (.inl h), fun h => h.elim .inl fun h => h.elim .inr fun ⟨q, hq, _⟩ => by cases hq⟩
      · rw [List.append_nil] at hx
        rcases List.mem_cons.mp hx with z | z
        · rw [z]; exact n0
        · exact rsN x z
    · rintro σ H' ⟨L, Pd, ls, x4, x5, x6, x7, x8, rfl, s', h1, h2, lw⟩
      have ndP : Pd.Nodup := lw.nd
      have ltP := lenLe ndP fun x hx => lw.lt x hx
      have q := lw.len
      refine ⟨_, rfl, k la ls L H' s' h1 h2 ⟨fun q hq => (lw.go q hq).2, lw.ord, fun e he d e2 e3 => lw.cl _ ((lw.al e.1.1).mpr d) e he rfl e2 e3, ?_⟩⟩
      have q : L.length ≤ 0 + Pd.length := q
      omega
    · intro Nx hNx
      rintro m σ H4 ⟨L, W, Pd, ls, x4, x5, x6, x7, x8, rfl, rfl, s4, h4, hp4, hw4, lw⟩
      refine ⟨_, rfl, !(W.map nI).isEmpty, .inl ⟨_, SqL.of hw4, rfl⟩, ?_⟩
      rcases List.eq_nil_or_concat W with rfl | ⟨W0, r, rfl⟩
      · exact hNx _ _ ⟨L, Pd, ls, _, _, _, _, _, rfl, s4, h4, hp4, lw⟩
      · have hne : (!((W0.concat r).map nI).isEmpty) = true := by simp
        rw [hne]
        have hw4 : H4 wa = some (.lst (W0.map nI ++ [nI r])) := by rw [hw4, List.concat_eq_append, List.map_append]; rfl
        rw [List.concat_eq_append] at lw
        have lw2 := lw.step ro nd hN
        have ltP : (r :: Pd).length ≤ N := lenLe (List.nodup_append.mp lw2.nd).2.1 fun x hx => lw2.lt x (List.mem_append_right _ hx)
        have ltP : Pd.length + 1 ≤ N := ltP
        refine ⟨_, fun σ' H' q => q, _, rfl, .inl ⟨rfl, _, SqL.of hw4⟩, wa, _, nI r, rfl, rfl, hw4, ?_, ?_⟩
        · rw [List.length_append, List.length_map]
          show (W0.map nI ++ [nI r])[W0.length + 1 - 1]? = _
          rw [Nat.add_sub_cancel, List.getElem?_append_right (by rw [List.length_map]; exact Nat.le_refl _), List.length_map, Nat.sub_self]
          rfl
        rw [List.dropLast_concat]
        refine change (p := wa) (o := .lst (W0.map nI)) (H := H4) fun H5 b5 e5 => ?_
        have s5 : Same1 H H5 := fun x o e => b5 x o (ne_of_none e nwa) (s4 _ _ e)
        have K5 : Kp H4 H5 := fun x xs e => b5 x _ (fun q => by subst q; rw [hw4] at e; cases e) e
        have h5 := b5 _ _ nlw h4
        have hp5 := PairsL.kp hp4 K5
        refine ⟨_, rfl, l, rfl, ⟨_, SqL.of (s5 _ _ hl)⟩, fun D hD => ?_⟩
        have nD : H D = none := s5.free hD
        refine lc_list (K := K) (a := l) (xs := bs.map V.ref) (fun i H' => Same1 H5 H' ∧ H' D = some (.lst (((((G.map (·.1)).take i).filter (aheadF rs r)).map (·.2)).map nI))) ⟨Same.new hD, upd_same⟩ (fun i H' _ ⟨q, _⟩ => SqL.of (q _ _ (s5 _ _ hl))) ?_ ?_
        · rintro i x H6 hi ⟨s6, hd6⟩
          have hic : i < bs.length := by
            have q := (List.getElem?_eq_some_iff.mp hi).1
            rwa [List.length_map] at q
          have ex : x = .ref bs[i] := by
            rw [List.getElem?_map, List.getElem?_eq_getElem hic] at hi
            exact (Option.some.inj hi).symm
          subst ex
          obtain ⟨⟨⟨u, v⟩, n⟩, hq1, hq2⟩ := Paired.get hG (List.getElem?_eq_getElem hic)
          have fs : ((G.map (·.1)).take (i + 1)).filter (aheadF rs r) = ((G.map (·.1)).take i).filter (aheadF rs r) ++ (if aheadF rs r (u, v) = true then [(u, v)] else []) := by
            rw [List.take_add_one, List.getElem?_map, hq1, List.filter_append]
            show _ ++ List.filter (aheadF rs r) [(u, v)] = _
            rw [List.filter_cons, List.filter_nil]
          have no : ¬ (u = r ∧ v ≠ 0 ∧ v ∉ rs) → Same1 H5 H6 ∧ H6 D = some (.lst (((((G.map (·.1)).take (i + 1)).filter (aheadF rs r)).map (·.2)).map nI)) := fun z => by
            rw [fs, if_neg (by unfold aheadF; rw [decide_eq_false z]; decide), List.append_nil]
            exact ⟨s6, hd6⟩
          refine ⟨bs[i], _, rfl, SqT.of ((s5.trans s6) _ _ hq2), rfl, _, _, rfl, _, _, rfl, _, _, rfl, rfl, ?_⟩
          refine ⟨rfl, _, rfl, _, rfl, rfl, _, rfl, ?_⟩
          by_cases c1 : u = r
          · rw [show decide (nI ((u, v), n).fst.fst = nI r) = true from decide_eq_true (by rw [← c1])]
            refine ⟨_, rfl, rfl, _, rfl, ?_⟩
            by_cases c2 : v = 0
            · rw [show (!decide (nI ((u, v), n).fst.snd = V.int 0)) = false by subst c2; rfl]
              exact no fun z => z.2.1 c2
            · rw [show (!decide (nI ((u, v), n).fst.snd = V.int 0)) = true by rw [decide_eq_false (fun z => c2 (by have := V.int.inj z; dsimp only at this; omega))]; rfl]
              refine ⟨_, rfl, _, rfl, rl, rs.map nI, rfl, .inl (SqL.of ((s5.trans s6) _ _ hrl)), rfl, flat_nat rs, _, rfl, ?_⟩
              rw [show (if true = true then !inV (nI ((u, v), n).fst.snd) (rs.map nI) else inV (nI ((u, v), n).fst.snd) (rs.map nI)) = !decide (v ∈ rs) by rw [if_pos rfl, inV_nat]]
              by_cases c3 : v ∈ rs
              · rw [decide_eq_true c3]
                exact no fun z => z.2.2 c3
              · rw [decide_eq_false c3]
                refine ⟨_, rfl, _, hd6, szl ?_, Same.mut s6 hD, ?_⟩
                · rw [List.length_map, List.length_map]
                  have q := List.length_filter_le (aheadF rs r) ((G.map (·.1)).take i)
                  have q2 := List.length_take_le i (G.map (·.1))
                  omega
                · rw [upd_same, fs, if_pos (show aheadF rs r (u, v) = true from decide_eq_true ⟨c1, c2, c3⟩), List.map_append, List.map_append]
                  rfl
          · rw [show decide (nI ((u, v), n).fst.fst = nI r) = false from decide_eq_false fun z => c1 (by have := V.int.inj z; dsimp only at this; omega)]
            exact no fun z => c1 z.1
        rintro H6 ⟨s6, hd6⟩
        rw [List.length_map, hbl, ← List.length_map (as := G) (f := (·.1)), List.take_length] at hd6
        have hd6 : H6 D = some (.lst ((aheadOf G rs r).map nI)) := hd6
        have aL : (aheadOf G rs r).length ≤ 60 := by
          have q := lenLe (List.nodup_append.mp (List.nodup_append.mp lw2.nd).1).2.1 fun x hx => lw2.lt x (List.mem_append_left _ (List.mem_append_right _ hx))
          omega
        have S6 := s5.trans s6
        have h6 := s6 _ _ h5
        have hp6 := PairsL.kp hp5 (Kp.same s6)
        have e6 := s6 _ _ e5
        refine ⟨_, rfl, .inl ⟨rfl, _, SqL.of h6⟩, _, rfl, D, rfl, ⟨_, SqL.of hd6⟩, fun D2 hD2 => ?_⟩
        refine lc_list (K := K) (a := D) (xs := (aheadOf G rs r).map nI) (fun i H' => ∃ ts : List Addr, Same1 H6 H' ∧ H' D2 = some (.lst (ts.map V.ref)) ∧ PairsL H' ts (((aheadOf G rs r).take i).map fun t => (r, t))) ⟨[], Same.new hD2, upd_same, .nil⟩ (fun i H' _ ⟨_, q, _⟩ => SqL.of (q _ _ hd6)) ?_ ?_
        · rintro i x H7 hi ⟨ts, s7, hd7, hp7⟩
          rw [List.getElem?_map] at hi
          cases hz : (aheadOf G rs r)[i]? with
          | none => rw [hz] at hi; cases hi
          | some t =>
            rw [hz] at hi
            have e : nI t = x := Option.some.inj hi
            subst e
            have htl := Paired.length hp7
            rw [List.length_map, List.length_take] at htl
            refine ⟨rfl, _, rfl, _, rfl, (by show 2 ≤ sizeLine; decide), fun tp htp => ?_⟩
            refine alloc htp fun H8 s8 e8 => ?_
            have hd8 := s8 _ _ hd7
            refine ⟨_, hd8, szl (by rw [List.length_map]; omega), ts ++ [tp], Same.mut (s7.trans s8) hD2, by rw [upd_same, List.map_append]; rfl, ?_⟩
            rw [List.take_add_one, hz, List.map_append]
            exact PairsL.kp (Paired.app (PairsL.kp hp7 (Kp.same s8)) (Paired.one (show H8 tp = some (.tup (pairVs (r, t))) from e8))) (Kp.lst hd8)
        rintro H7 ⟨ts, s7, hd7, hp7⟩
        rw [List.length_map, List.take_length] at hp7
        have htl := Paired.length hp7
        rw [List.length_map] at htl
        have hll := Paired.length hp6
        have lwl := lw2.len
        rw [List.length_append, List.length_map, List.length_append, List.length_cons] at lwl
        have h7 := s7 _ _ h6
        have ltW := lenLe (List.nodup_append.mp lw2.nd).1 fun x hx => lw2.lt x (List.mem_append_left _ hx)
        rw [List.length_append] at ltW
        refine ⟨la, D2, _, _, rfl, rfl, h7, hd7, sz (by rw [List.length_map, List.length_map]; omega), ?_⟩
        have nlD : la ≠ D := ne_of_none h5 hD
        have nwl : wa ≠ la := nlw.symm
        have nla : H la = none := hla
        refine change (p := la) (o := .lst (ls.map V.ref ++ ts.map V.ref)) (H := H7) fun H8 b8 e8 => ?_
        have hd8 : H8 D = some (.lst ((aheadOf G rs r).map nI)) := b8 _ _ nlD.symm (s7 _ _ hd6)
        have e88 : H8 wa = some (.lst (W0.map nI)) := b8 _ _ nwl (s7 _ _ e6)
        have s8 : Same1 H H8 := fun x o e => b8 x o (ne_of_none e nla) ((S6.trans s7) _ _ e)
        have K8 : Kp H7 H8 := fun x xs e => b8 x _ (fun q => by subst q; rw [h7] at e; cases e) e
        have hp8 : PairsL H8 (ls ++ ts) (L ++ (aheadOf G rs r).map fun t => (r, t)) := PairsL.kp (Paired.app (PairsL.kp hp6 (Kp.same s7)) hp7) K8
        refine ⟨_, rfl, .inl ⟨rfl, _, SqL.of e88⟩, _, rfl, wa, D, _, _, rfl, rfl, e88, hd8, sz (by rw [List.length_map, List.length_map]; omega), ?_⟩
        refine ⟨N - (Pd.length + 1), by omega, L ++ (aheadOf G rs r).map (fun t => (r, t)), W0 ++ aheadOf G rs r, r :: Pd, ls ++ ts, _, _, _, _, _, rfl, rfl, Same.mut s8 nwa, ?_, ?_, ?_, lw2⟩
        · rw [upd_ne nlw, List.map_append]
          exact e8
        · exact PairsL.kp hp8 (Kp.lst e88)
        · rw [upd_same, List.map_append]
end
end DL
namespace DL
open PySem L2 DLR
structure Bd (mg : Str → Option Value) : Prop where
  dict : mg "dict" = none
abbrev sLaid : Stmt := top 71
abbrev nLaid : List Str := ["program","wide","laid_first","homes","links","places","begin","to","behind","row"]
abbrev FLaid (K : Frg) (mg : Str → Option Value) := Fd K mg "laid" sLaid ["program","wide","laid_first","homes","links"]
def layStep (hs : List (List Nat)) (W : Nat) (rows : List Row) (f : Nat → Option Nat) (q : Nat × Nat) : Nat → Option Nat :=
  put1 f (q.2, (behindF ⟨W, [], hs⟩ (rows.getD q.1 .stop) (((f q.1).getD 0 : Nat) : Int) % (W : Int)).toNat)
def placesF (hs : List (List Nat)) (W : Nat) (rows : List Row) (L : List (Nat × Nat)) (f : Nat → Option Nat) : Nat → Option Nat := L.foldl (layStep hs W rows) f
def layF (hs : List (List Nat)) (W : Nat) (rows : List Row) (L : List (Nat × Nat)) (f : Nat → Option Nat) : Lay := ⟨W, (List.range rows.length).map fun x => ((placesF hs W rows L f) x).getD 0, hs⟩
theorem getD_nI (o : Option Nat) : (Option.map nI o).getD (V.int 0) = nI (o.getD 0) := by cases o <;> rfl
theorem placesF_app (hs : List (List Nat)) (W : Nat) (rows : List Row) (L : List (Nat × Nat)) (q : Nat × Nat) (f : Nat → Option Nat) : placesF hs W rows (L ++ [q]) f = layStep hs W rows (placesF hs W rows L f) q := by
  unfold placesF
  rw [List.foldl_append]
  rfl
theorem placesF_lt {hs : List (List Nat)} {W : Nat} {rows : List Row} (w0 : 0 < W) : ∀ (L : List (Nat × Nat)) (f : Nat → Option Nat), (∀ x y, f x = some y → y < W) → ∀ x y, placesF hs W rows L f x = some y → y < W
  | [], f, h, x, y, e => h x y e
  | q :: L, f, h, x, y, e => by
    refine placesF_lt w0 L (layStep hs W rows f q) (fun a b hab => ?_) x y e
    unfold layStep put1 at hab
    split at hab
    · have q1 := Option.some.inj hab
      rw [← q1]
      have m1 := Int.emod_lt_of_pos (behindF ⟨W, [], hs⟩ (rows.getD q.1 .stop) (((f q.1).getD 0 : Nat) : Int)) (show (0 : Int) < (W : Int) by omega)
      show Int.toNat _ < W
      omega
    · exact h a b hab
theorem placesF_some {hs : List (List Nat)} {W : Nat} {rows : List Row} {f : Nat → Option Nat} {x : Nat} : ∀ (L : List (Nat × Nat)) (f : Nat → Option Nat), ((f x).isSome = true ∨ ∃ q ∈ L, q.2 = x) → (placesF hs W rows L f x).isSome = true
  | [], f, h => by
    rcases h with h | ⟨q, hq, _⟩
    · exact h
    · cases hq
  | q :: L, f, h => by
    refine placesF_some (f := f) L (layStep hs W rows f q) ?_
    rcases h with h | ⟨r, hr, e⟩
    · left
      unfold layStep put1
      split
      · rfl
      · exact h
    · rcases List.mem_cons.mp hr with z | z
      · left
        unfold layStep put1
        rw [if_pos (by rw [← e, z])]
        rfl
      · exact .inr ⟨r, z, e⟩
def spLaid : Sp := fun vs H Q _ => ∃ (a da ha la : Addr) (p : Prog) (W m : Nat) (f : Nat → Option Nat) (cs : List Addr) (hs : List (List Nat)) (ls : List Addr) (L : List (Nat × Nat)), vs = [.ref a, nI W, .ref da, .ref ha, .ref la] ∧ ProgAt H a p ∧ Good p ∧ 2 ≤ W ∧ W ≤ 24 ∧
  PlAt H da f m ∧ m ≤ 100 ∧ (∀ x y, f x = some y → y < W) ∧ H ha = some (.tup (cs.map V.ref)) ∧ HomesAt H cs hs ∧ hs.length = p.ws.length ∧ (∀ h ∈ hs, HomeOk W h) ∧ H la = some (.lst (ls.map V.ref)) ∧ PairsL H ls L ∧ L.length ≤ 60 ∧
  (∀ q ∈ L, q.1 < p.rows.length) ∧ (∀ (i : Nat) (q : Nat × Nat), L[i]? = some q → (f q.1).isSome = true ∨ ∃ (j : Nat) (q' : Nat × Nat), j < i ∧ L[j]? = some q' ∧ q'.2 = q.1) ∧
  ∀ y H', Same1 H H' → LayAt H' y (layF hs W p.rows L f) → Q (.ref y) H'
section
variable {P : Program} {w : World} {K : PySem.W.Frag} {mg : Str → Option Value} {base : Heap}
theorem scLaid : FnScope nLaid ["program","wide","laid_first","homes","links"] (defScope sLaid) := ⟨rfl, rfl, rfl, by decide +kernel, rfl, by decide +kernel, by decide +kernel⟩
theorem ok_laid (c : FLaid K mg) (cBeatBehind : FBeatBehind K mg) (cBeatOfUse : FBeatOfUse K mg) (cBeatsOfUse : FBeatsOfUse K mg) (cFirstBeat : FFirstBeat K mg) (cUsesWorth : FUsesWorth K mg) (T : Bt mg) (TD : Bd mg) (Z : Pt K w mg) (ZW : Pw K w mg) : FnOk P w K mg base CX0 5 c.f c.fd ["program","wide","laid_first","homes","links"] spLaid := by
  have GBeatBehind : FnOk P w K mg base CX0 4 cBeatBehind.f cBeatBehind.fd ["row", "read", "laying"] spBeatBehind := ok_beatBehind cBeatBehind cBeatOfUse cBeatsOfUse cFirstBeat cUsesWorth T Z ZW
  refine c.F.ok scLaid (fun vs H Q E h => ?_) (fun cdv A outer s H vs Q E hr h => ?_)
  · obtain ⟨a, da, ha, la, p, W, m, f, cs, hs, ls, L, rfl, _⟩ := h
    rfl
  · obtain ⟨a, da, ha, la, p, W, m, f, cs, hs, ls, L, rfl, hP, g, w2, w24, ⟨kvs, hk1, hk2, hk3⟩, m100, hfl, hha, hHs, hhl, hok, hla, hL, l60, hLr, hord, k⟩ := h
    obtain ⟨wa, ra, rbs, hpa, hwa, hra, hR⟩ := id hP
    refine ⟨_, (pss_cons (ps_set (i := 5) scLaid.nd rfl (Or.inr rfl) (pe_callTy call_dictD (by rfl) TD.dict (by decide +kernel) (pa_cons (pv 2) pa_nil)))
      (pss_cons (ps_for PassesOwn.never rfl (pi_list (pv 4)) (pg_tup rfl (pgs_cons (pg_name (i := 6) scLaid.nd rfl (Or.inl rfl)) (pgs_cons (pg_name (i := 7) scLaid.nd rfl (Or.inl rfl)) pgs_nil)))
          (pss_cons (ps_set (i := 8) scLaid.nd rfl (Or.inl rfl) (pe_call GBeatBehind (hr.mono (by first | omega | decide)) (by rfl) cBeatBehind.m cBeatBehind.F.kp cBeatBehind.b .nil pass0 (pa_cons (pe_ix ix_tup (pe_ix ix_tup (pv 0) pe_int (fun _ _ => rfl)) (pv 6) (fun _ _ => rfl)) (pa_cons (pe_dget (hu_of hr) (pv 5) (pv 6) (fun _ _ => rfl)) (pa_cons (pe_tup (pa_cons (pv 1) (pa_cons (pe_tup pa_nil) (pa_cons (pv 3) pa_nil)))) pa_nil)))))
          (pss_one (ps_dput (hu_of hr) (pv 5) (pv 7) (pe_op op_mod (pv 8) (pv 1)) rfl))))
      (pss_one (ps_ret (pe_tup (pa_cons (pv 1) (pa_cons (pe_callTy call_tuple_of (by rfl) T.tuple (by decide +kernel) (pa_cons (pe_lc (own := [("row", 9)]) (g := gName 9) (tt := tYes) rfl scLaid.nd (pi_range1 rfl T.range (pa_cons (pe_callB call_len_seq (by rfl) T.len PySem.boot_len (pa_cons (pe_ix ix_tup (pv 0) pe_int (fun _ _ => rfl)) pa_nil)) pa_nil)) (blkOk_by (N := nLaid) (sc := defScope sLaid) (by decide +kernel)) (fun _ _ _ _ _ => (pg_name (i := 9) scLaid.nd rfl (Or.inl rfl))) (fun _ _ _ _ _ => pts_nil) (fun _ _ _ _ _ => (pe_dget2 (hu_of hr) (pv 5) (pv 9) pe_int ⟨rfl, rfl, rfl, rfl⟩))) pa_nil)) (pa_cons (pv 3) pa_nil)))))))), ?_⟩
    refine ⟨_, rfl, da, kvs, rfl, .inl hk1, fun pd hpd => ?_⟩
    refine alloc hpd fun H1 s1 e1 => ?_
    have hbr := Paired.length hR
    have hll := Paired.length hL
    have w0 : 0 < W := by omega
    refine ⟨_, rfl, la, rfl, ⟨_, SqL.of (s1 _ _ hla)⟩, ?_⟩
    refine for_list (K := K) (a := la) (xs := ls.map V.ref) (fun i σ H' => ∃ (x6 x7 x8 x9 : Option V), σ = [some (.ref a), some (nI W), some (.ref da), some (.ref ha), some (.ref la), some (.ref pd), x6, x7, x8, x9] ∧ Same1 H H' ∧ i ≤ L.length ∧ PlAt H' pd (placesF hs W p.rows (L.take i) f) (m + i))
      ⟨none, none, none, none, rfl, s1, Nat.zero_le _, kvs, e1, hk2, hk3⟩ (fun i σ H' _ ⟨_, _, _, _, _, q, _⟩ => SqL.of (q _ _ hla)) ?_ ?_
    · rintro i x σ H2 hi ⟨x6, x7, x8, x9, rfl, s2, hil, kv2, d1, d2, d3⟩
      have hic : i < ls.length := by
        have q := (List.getElem?_eq_some_iff.mp hi).1
        rwa [List.length_map] at q
      have ex : x = .ref ls[i] := by
        rw [List.getElem?_map, List.getElem?_eq_getElem hic] at hi
        exact (Option.some.inj hi).symm
      subst ex
      obtain ⟨⟨u, v⟩, hq1, hq2⟩ := Paired.get hL (List.getElem?_eq_getElem hic)
      have hu : u < p.rows.length := hLr _ (List.mem_of_getElem? hq1)
      have hsome : (placesF hs W p.rows (L.take i) f u).isSome = true := by
        refine placesF_some (f := f) (L.take i) f ?_
        rcases hord i (u, v) hq1 with z | ⟨j, q', jl, hj, z⟩
        · exact .inl z
        · exact .inr ⟨q', List.mem_of_getElem? (i := j) (by rw [List.getElem?_take_of_lt jl]; exact hj), z⟩
      obtain ⟨z, hz⟩ := Option.isSome_iff_exists.mp hsome
      have hget : valV kv2 (kN u) = some (nI z) := by rw [d3, hz]; rfl
      have hcV : (rbs.map V.ref)[u]? = some (V.ref (rbs.getD u 0)) := by
        rw [List.getElem?_map, List.getD_eq_getElem?_getD, List.getElem?_eq_getElem (by omega)]
        rfl
      obtain ⟨cb, hcb1, hcb2⟩ := Paired.getR hR (List.getElem?_eq_getElem hu)
      have ecb : rbs.getD u 0 = cb := by rw [List.getD_eq_getElem?_getD, hcb1]; rfl
      have er : p.rows.getD u .stop = p.rows[u] := by rw [List.getD_eq_getElem?_getD, List.getElem?_eq_getElem hu]; rfl
      rw [ecb] at hcV
      have hrok := g.ok _ (List.getElem_mem hu)
      rw [← hhl] at hrok
      refine ⟨ls[i], _, rfl, SqT.of (s2 _ _ hq2), rfl, _, _, rfl, _, _, rfl, rfl, ?_⟩
      refine ⟨_, rfl, a, _, _, _, rfl, rfl, SqT.of (s2 _ _ hpa), at1, _, rfl, ra, _, _, _, rfl, rfl, SqT.of (s2 _ _ hra), atI_nat hcV, ?_⟩
      refine ⟨_, rfl, _, rfl, pd, nI z, rfl, by have q := DGet.k (k := kN u) d1; rw [hget] at q; exact q, ?_⟩
      refine ⟨_, rfl, Nat.zero_le _, fun t0 ht0 => ?_⟩
      refine alloc ht0 fun H3 s3 e3 => ?_
      refine ⟨_, rfl, (by show 3 ≤ sizeLine; decide), fun lt hlt => ?_⟩
      refine alloc hlt fun H4 s4 e4 => ?_
      have S4 := (s2.trans s3).trans s4
      refine ⟨cb, lt, p.rows[u], (z : Int), ⟨W, [], hs⟩, p.rows.length, rfl, S4 _ _ hcb2, ⟨t0, ha, cs, e4, s4 _ _ e3, S4 _ _ hha, HomesAt.kp hHs (Kp.same S4)⟩, w2, hok, hrok, fun H5 s5 => ?_⟩
      have S5 := S4.trans s5
      have d5 : H5 pd = some (.dK kv2) := ((s3.trans s4).trans s5) _ _ d1
      refine ⟨_, rfl, _, rfl, _, _, rfl, rfl, by omega, _, rfl, _, rfl, pd, _, rfl, DPut.k (k := kN v) d5 (szl (by omega)), ?_⟩
      refine ⟨_, _, _, _, rfl, Same.mut S5 hpd, by omega, ?_⟩
      have tk : L.take (i + 1) = L.take i ++ [(u, v)] := by rw [List.take_add_one, hq1]; rfl
      rw [tk, placesF_app]
      have pos := Int.emod_nonneg (behindF ⟨W, [], hs⟩ p.rows[u] (z : Int)) (show (W : Int) ≠ 0 by omega)
      have ev : (V.int (behindF ⟨W, [], hs⟩ p.rows[u] (z : Int) % (W : Int))) = nI (behindF ⟨W, [], hs⟩ p.rows[u] (z : Int) % (W : Int)).toNat := by
        rw [show nI (behindF ⟨W, [], hs⟩ p.rows[u] (z : Int) % (W : Int)).toNat = V.int (((behindF ⟨W, [], hs⟩ p.rows[u] (z : Int) % (W : Int)).toNat : Nat) : Int) from rfl, Int.toNat_of_nonneg pos]
      dsimp only
      rw [ev]
      have q := PlAt.put (H := H5) (da := pd) d2 d3 (v, (behindF ⟨W, [], hs⟩ p.rows[u] (z : Int) % (W : Int)).toNat)
      unfold layStep
      rw [er, hz]
      exact q
    · rintro σ H2 ⟨x6, x7, x8, x9, rfl, s2, hil, kv2, d1, d2, d3⟩
      rw [List.length_map, hll] at d2
      rw [List.length_map, hll, List.take_length] at d3
      refine ⟨_, rfl, _, rfl, a, _, _, _, rfl, rfl, SqT.of (s2 _ _ hpa), at1, ra, _, rfl, .inr (SqT.of (s2 _ _ hra)), _, rfl, by omega, by rw [List.length_map]; have := g.r40; omega, fun D hD => ?_⟩
      have hn : (((rbs.map V.ref).length : Nat) : Int).toNat = p.rows.length := by rw [Int.toNat_natCast, List.length_map, hbr]
      rw [hn]
      have nD : H D = none := s2.free hD
      refine lc_gen (J := Itr 0 p.rows.length) p.rows.length (fun i H' => Same1 H2 H' ∧ H' D = some (.lst (((List.range i).map fun x => ((placesF hs W p.rows L f) x).getD 0).map nI))) ⟨Same.new hD, upd_same⟩ (fun i H' hi _ => hi) (fun H' _ => Nat.le_refl _) ?_ ?_
      · rintro i x H3 H4 hi ⟨s3, hd3⟩ hy
        obtain ⟨rfl, hx⟩ := hy
        rw [Int.zero_add] at hx
        subst hx
        have d4 := s3 _ _ d1
        refine ⟨rfl, _, rfl, pd, rfl, .inl ⟨_, .inl d4⟩, _, rfl, _, DGet.k (k := kN i) d4, _, hd3, szl (by rw [List.length_map, List.length_map, List.length_range]; have := g.r40; omega), Same.mut s3 hD, ?_⟩
        rw [upd_same, List.range_succ, List.map_append, List.map_append, d3]
        rw [getD_nI]
        rfl
      rintro H3 ⟨s3, hd3⟩
      have S3 := s2.trans s3
      refine ⟨D, _, rfl, .inl ⟨SqL.of hd3, fun tp htp => ?_⟩⟩
      refine alloc htp fun H4 s4 e4 => ?_
      refine ⟨_, rfl, (by show 3 ≤ sizeLine; decide), fun y hy => ?_⟩
      refine alloc hy fun H5 s5 e5 => ?_
      have S5 := (S3.trans s4).trans s5
      exact k y H5 S5 ⟨tp, ha, cs, e5, s5 _ _ e4, S5 _ _ hha, HomesAt.kp hHs (Kp.same S5)⟩
end
end DL
namespace DL
open PySem L2 DLR
abbrev sCheckWG : Stmt := top 44
abbrev sBest : Stmt := top 63
abbrev nCheckWG : List Str := ["program","wide","goes"]
abbrev nBest : List Str := ["program","wide","goes","worths","rows","count","links","told","number","spots","homes","laying"]
abbrev FCheckWG (K : Frg) (mg : Str → Option Value) := Fd K mg "check_wide_and_goes" sCheckWG ["program","wide","goes"]
abbrev FBest (K : Frg) (mg : Str → Option Value) := Fd K mg "best" sBest ["program","wide","goes"]
structure Cb (mg : Str → Option Value) where
  t5 : Tok
  m5 : mg "MOST_CORES" = some (.int 5000 t5)
/-! ### a laying as data -/
def natsD (l : List Nat) : List PyData := l.map fun x : Nat => PyData.int (x : Int)
theorem natsD_at {K : Frg} {H : Hp} : ∀ l : List Nat, DpAll K H (l.map nI) (natsD l)
  | [] => .nil
  | x :: l => .cons (.int (x : Int)) (natsD_at l)
theorem natsD_dep : ∀ l : List Nat, PyData.depthAll (natsD l) ≤ 1
  | [] => by decide
  | x :: l => by
    have h := natsD_dep l
    show max (PyData.int (x : Int)).depth (PyData.depthAll (natsD l)) ≤ 1
    have : (PyData.int (x : Int)).depth ≤ 1 := by simp [PyData.depth]
    omega
theorem natsD_like : ∀ l m : List Nat, l.length = m.length → PySem.W.alikeAll (natsD l) (natsD m) = true
  | [], [], _ => rfl
  | [], _ :: _, h => by cases h
  | _ :: _, [], h => by cases h
  | x :: l, y :: m, h => by
    show (PySem.W.alike (.int x) (.int y) && PySem.W.alikeAll (natsD l) (natsD m)) = true
    rw [natsD_like l m (Nat.succ.inj h)]
    rfl
def homesD (hs : List (List Nat)) : List PyData := hs.map fun h => .tuple (natsD h)
theorem homesD_at {K : Frg} {H : Hp} : ∀ {cs : List Addr} {hs : List (List Nat)}, HomesAt H cs hs → DpAll K H (cs.map V.ref) (homesD hs)
  | _, _, .nil => .nil
  | _, _, .cons h hr => .cons (.tup (SqT.of h) (natsD_at _)) (homesD_at hr)
theorem homesD_dep : ∀ hs : List (List Nat), PyData.depthAll (homesD hs) ≤ 2
  | [] => by decide
  | x :: l => by
    have h := homesD_dep l
    show max (PyData.tuple (natsD x)).depth (PyData.depthAll (homesD l)) ≤ 2
    have : (PyData.tuple (natsD x)).depth ≤ 2 := by
      rw [PyData.depth]
      have := natsD_dep x
      omega
    omega
theorem homesD_like : ∀ hs ks : List (List Nat), hs.length = ks.length → (∀ h ∈ hs, h.length = 1) → (∀ h ∈ ks, h.length = 1) → PySem.W.alikeAll (homesD hs) (homesD ks) = true
  | [], [], _, _, _ => rfl
  | [], _ :: _, h, _, _ => by cases h
  | _ :: _, [], h, _, _ => by cases h
  | x :: l, y :: m, h, h1, h2 => by
    show (PySem.W.alikeAll (natsD x) (natsD y) && PySem.W.alikeAll (homesD l) (homesD m)) = true
    rw [homesD_like l m (Nat.succ.inj h) (fun k hk => h1 k (List.mem_cons_of_mem _ hk)) (fun k hk => h2 k (List.mem_cons_of_mem _ hk)), natsD_like x y (by rw [h1 x List.mem_cons_self, h2 y List.mem_cons_self])]
    rfl
def layD (y : Lay) : PyData := .tuple [.int (y.wide : Int), .tuple (natsD y.places), .tuple (homesD y.homes)]
theorem layD_at {K : Frg} {H : Hp} {a : Addr} {y : Lay} (h : LayAt H a y) : Dp K H (.ref a) (layD y) := by
  obtain ⟨pl, hl, cs, h1, h2, h3, h4⟩ := h
  exact .tup (SqT.of h1) (.cons (.int _) (.cons (.tup (SqT.of h2) (natsD_at _)) (.cons (.tup (SqT.of h3) (homesD_at h4)) .nil)))
def bothD (b : Int) (y : Lay) : PyData := .tuple [.int b, layD y]
theorem bothD_dep (b : Int) (y : Lay) : (bothD b y).depth ≤ 60 := by
  have h1 := natsD_dep y.places
  have h2 := homesD_dep y.homes
  simp only [bothD, layD, PyData.depth, PyData.depthAll]
  omega
theorem bothD_like (b c : Int) (y z : Lay) (h1 : y.places.length = z.places.length) (h2 : y.homes.length = z.homes.length) (h3 : ∀ h ∈ y.homes, h.length = 1) (h4 : ∀ h ∈ z.homes, h.length = 1) : PySem.W.alike (bothD b y) (bothD c z) = true := by
  show (PySem.W.alike (.int b) (.int c) && (PySem.W.alikeAll [.int (y.wide : Int), .tuple (natsD y.places), .tuple (homesD y.homes)] [.int (z.wide : Int), .tuple (natsD z.places), .tuple (homesD z.homes)] && true)) = true
  show (true && ((true && (PySem.W.alikeAll (natsD y.places) (natsD z.places) && (PySem.W.alikeAll (homesD y.homes) (homesD z.homes) && true))) && true)) = true
  rw [natsD_like _ _ h1, homesD_like _ _ h2 h3 h4]
  rfl
/-! ### the layings that are tried -/
def bestL (p : Prog) (W : Nat) (ws rs : List Nat) (L : List (Nat × Nat)) (i : Nat) : Lay :=
  layF (homesZ p.ws.length (ws.zip ((digits W (ws.length + rs.length) i).take ws.length))) W p.rows L (firstF (rs.zip ((digits W (ws.length + rs.length) i).drop ws.length)))
theorem fold_put_lt {W : Nat} : ∀ (z : List (Nat × Nat)) (f : Nat → Option Nat), (∀ q ∈ z, q.2 < W) → (∀ x y, f x = some y → y < W) → ∀ x y, z.foldl put1 f x = some y → y < W
  | [], _, _, h, x, y, e => h x y e
  | q :: z, f, h1, h2, x, y, e => by
    refine fold_put_lt z (put1 f q) (fun r hr => h1 r (List.mem_cons_of_mem _ hr)) (fun a b hab => ?_) x y e
    unfold put1 at hab
    split at hab
    · rw [← Option.some.inj hab]; exact h1 q List.mem_cons_self
    · exact h2 a b hab
theorem firstF_lt {W : Nat} (w0 : 0 < W) (z : List (Nat × Nat)) (h : ∀ q ∈ z, q.2 < W) : ∀ x y, firstF z x = some y → y < W :=
  fold_put_lt z _ h fun x y e => by
    split at e
    · rw [← Option.some.inj e]; exact w0
    · cases e
theorem fold_put_some {x : Nat} : ∀ (z : List (Nat × Nat)) (f : Nat → Option Nat), ((f x).isSome = true ∨ x ∈ z.map (·.1)) → (z.foldl put1 f x).isSome = true
  | [], f, h => by
    rcases h with h | h
    · exact h
    · cases h
  | q :: z, f, h => by
    refine fold_put_some z (put1 f q) ?_
    rcases h with h | h
    · left
      unfold put1
      split
      · rfl
      · exact h
    · rcases List.mem_cons.mp h with e | e
      · left
        unfold put1
        rw [if_pos e]
        rfl
      · exact .inr e
theorem firstF_some {z : List (Nat × Nat)} {x : Nat} (h : x = 0 ∨ x ∈ z.map (·.1)) : (firstF z x).isSome = true :=
  fold_put_some z _ (h.elim (fun e => .inl (by rw [if_pos e]; rfl)) .inr)
theorem bestL_ok {p : Prog} {W : Nat} {ws rs : List Nat} {L : List (Nat × Nat)} {i : Nat} (w2 : 2 ≤ W) (w24 : W ≤ 24) : LayOk p (bestL p W ws rs L i) ∧ ∀ h ∈ (bestL p W ws rs L i).homes, h.length = 1 := by
  have w0 : 0 < W := by omega
  have dl := digits_lt w0 (ws.length + rs.length) i
  have z1 : ∀ q ∈ ws.zip ((digits W (ws.length + rs.length) i).take ws.length), q.2 < W := fun q hq => dl _ (List.mem_of_mem_take (List.of_mem_zip (a := q.1) (b := q.2) hq).2)
  have z2 : ∀ q ∈ rs.zip ((digits W (ws.length + rs.length) i).drop ws.length), q.2 < W := fun q hq => dl _ (List.mem_of_mem_drop (List.of_mem_zip (a := q.1) (b := q.2) hq).2)
  have one := homesZ_one (n := p.ws.length) w0 _ z1
  refine ⟨⟨w2, w24, ?_, fun x hx => ?_, homesZ_len _ _, fun h hh => ?_⟩, fun h hh => ?_⟩
  · show (List.map _ (List.range p.rows.length)).length = _
    rw [List.length_map, List.length_range]
  · obtain ⟨y, _, rfl⟩ := List.mem_map.mp (show x ∈ (List.range p.rows.length).map _ from hx)
    cases e : placesF _ W p.rows L _ y with
    | none => exact w0
    | some v => exact placesF_lt w0 L _ (firstF_lt w0 _ z2) y v e
  · obtain ⟨x, rfl, hx⟩ := one h hh
    exact ⟨Nat.le_refl _, by show 1 ≤ 3; decide, by simp, fun y hy => by rw [List.mem_singleton.mp hy]; exact hx⟩
  · obtain ⟨x, rfl, hx⟩ := one h hh
    rfl
theorem taken (n : Nat) (xs : List V) : cutV xs none (some (n : Int)) = xs.take n := by
  unfold cutV
  have e : HT.sIx xs.length xs.length (some (n : Int)) = min n xs.length := HT.sIx_nat _ _ n
  rw [e, HT.sIx_none, List.drop_zero, Nat.sub_zero]
  rcases Nat.le_total n xs.length with h | h
  · rw [Nat.min_eq_left h]
  · rw [Nat.min_eq_right h, List.take_length, List.take_of_length_le h]
theorem uses_lt {nw nr x : Nat} (r : Row) (ok : r.ok nw nr) (u : r.uses = true) (h : (rowVs r)[1]? = some (nI x)) : x < nw := by
  have q : ∀ y : Nat, (some (nI y) : Option V) = some (nI x) → y = x := fun y e => by have := V.int.inj (Option.some.inj e); omega
  cases r with
  | load y n => exact q y h ▸ ok.1
  | add y n => exact q y h ▸ ok.1
  | take y n => exact q y h ▸ ok.1
  | store y n => exact q y h ▸ ok.1
  | say n => cases u
  | test a b => cases u
  | stop => cases u
theorem worths_lt {p : Prog} {G : GoL} {ws : List Nat} (g : Good p) (gk : Goes p G) (h : WorthsOf p G ws) : ∀ x ∈ ws, x < p.ws.length := fun x hx => by
  obtain ⟨r, d, u, e⟩ := (h.2 x).mp hx
  have lt := doneBy_lt g gk d
  have er : p.rows.getD r .stop = p.rows[r] := by rw [List.getD_eq_getElem?_getD, List.getElem?_eq_getElem lt]; rfl
  rw [er] at u e
  exact uses_lt _ (g.ok _ (List.getElem_mem lt)) u e
theorem rows_lt {p : Prog} {G : GoL} {rs : List Nat} (g : Good p) (gk : Goes p G) (h : RowsOf G rs) : ∀ x ∈ rs, x < p.rows.length := fun x hx => by
  have q := ((h.2 x).mp hx).2
  obtain ⟨e, he, rfl⟩ := List.mem_map.mp (List.count_pos_iff.mp (show 0 < (G.map (·.1.2)).count x by omega))
  exact (goes_lt g gk e he).2
abbrev ToldAt (p : Prog) (W : Nat) (ws rs : List Nat) (L : List (Nat × Nat)) (G : GoL) (H : Hp) (ts : List Addr) (js : List Nat) : Prop :=
  Paired (fun t j => ∃ y, H t = some (.tup [.int (beatsF (bestL p W ws rs L j) p.rows G), .ref y]) ∧ LayAt H y (bestL p W ws rs L j)) ts js
theorem told_dp {K : Frg} {p : Prog} {W : Nat} {ws rs : List Nat} {L : List (Nat × Nat)} {G : GoL} {H : Hp} : ∀ {ts : List Addr} {js : List Nat}, ToldAt p W ws rs L G H ts js →
    DpAll K H (ts.map V.ref) (js.map fun j => bothD (beatsF (bestL p W ws rs L j) p.rows G) (bestL p W ws rs L j))
  | _, _, .nil => .nil
  | _, _, .cons ⟨_, h1, h2⟩ hr => .cons (.tup (SqT.of h1) (.cons (.int _) (.cons (layD_at h2) .nil))) (told_dp hr)
def spCheckWG : Sp := fun vs H Q _ => ∃ (a l : Addr) (bs : List Addr) (p : Prog) (W : Nat) (G : GoL), vs = [.ref a, nI W, .ref l] ∧ ProgAt H a p ∧ Good p ∧ 2 ≤ W ∧ W ≤ 24 ∧ H l = some (.lst (bs.map V.ref)) ∧ GoesAt H bs G ∧ Goes p G ∧ G.length < 60 ∧ ∀ H', Same1 H H' → Q .non H'
def spBest : Sp := fun vs H Q _ => ∃ (a l : Addr) (bs : List Addr) (p : Prog) (W : Nat) (G : GoL), vs = [.ref a, nI W, .ref l] ∧ ProgAt H a p ∧ Good p ∧ 2 ≤ W ∧ W ≤ 24 ∧ H l = some (.lst (bs.map V.ref)) ∧ GoesAt H bs G ∧ Goes p G ∧ G.length < 60 ∧
  ∀ ws rs, WorthsOf p G ws → RowsOf G rs → W ^ (ws.length + rs.length) ≤ 5000 ∧ ∀ L, Links G rs L → ∀ t y i H', Same1 H H' → H' t = some (.tup [.int (beatsF (bestL p W ws rs L i) p.rows G), .ref y]) → LayAt H' y (bestL p W ws rs L i) →
    i < W ^ (ws.length + rs.length) → (∀ j, j < W ^ (ws.length + rs.length) → beatsF (bestL p W ws rs L i) p.rows G ≤ beatsF (bestL p W ws rs L j) p.rows G) → Q (.ref t) H'
section
variable {P : Program} {w : World} {K : PySem.W.Frag} {mg : Str → Option Value} {base : Heap}
theorem scCheckWG : FnScope nCheckWG ["program","wide","goes"] (defScope sCheckWG) := ⟨rfl, rfl, rfl, by decide +kernel, rfl, by decide +kernel, by decide +kernel⟩
theorem scBest : FnScope nBest ["program","wide","goes"] (defScope sBest) := ⟨rfl, rfl, rfl, by decide +kernel, rfl, by decide +kernel, by decide +kernel⟩
theorem ok_checkWG (c : FCheckWG K mg) (cCheckProgram : FCheckProgram K mg) (cCheckWide : FCheckWide K mg) (cCheckGoes : FCheckGoes K mg)
    (GCheckProgram : FnOk P w K mg base CX0 4 cCheckProgram.f cCheckProgram.fd ["program"] spCheckProgram) (GCheckWide : FnOk P w K mg base CX0 3 cCheckWide.f cCheckWide.fd ["wide"] spCheckWide)
    (GCheckGoes : FnOk P w K mg base CX0 5 cCheckGoes.f cCheckGoes.fd ["program", "goes"] spCheckGoes) : FnOk P w K mg base CX0 6 c.f c.fd ["program","wide","goes"] spCheckWG := by
  refine c.F.ok scCheckWG (fun vs H Q E h => ?_) (fun cdv A outer s H vs Q E hr h => ?_)
  · obtain ⟨a, l, bs, p, W, G, rfl, _⟩ := h
    rfl
  · obtain ⟨a, l, bs, p, W, G, rfl, hP, g, w2, w24, hl, hG, gk, g60, k⟩ := h
    refine ⟨_, (pss_cons (ps_expr (pe_call GCheckProgram (hr.mono (by first | omega | decide)) (by rfl) cCheckProgram.m cCheckProgram.F.kp cCheckProgram.b .nil pass0 (pa_cons (pv 0) pa_nil)))
      (pss_cons (ps_expr (pe_call GCheckWide (hr.mono (by first | omega | decide)) (by rfl) cCheckWide.m cCheckWide.F.kp cCheckWide.b .nil pass0 (pa_cons (pv 1) pa_nil)))
      (pss_one (ps_expr (pe_call GCheckGoes (hr.mono (by first | omega | decide)) (by rfl) cCheckGoes.m cCheckGoes.F.kp cCheckGoes.b .nil pass0 (pa_cons (pv 0) (pa_cons (pv 2) pa_nil))))))), ?_⟩
    refine ⟨_, rfl, a, p, rfl, hP, g, fun H1 s1 => ?_⟩
    refine ⟨_, rfl, (W : Int), rfl, by omega, by omega, ?_⟩
    exact ⟨_, rfl, _, rfl, a, l, bs, p, G, rfl, hP.kp (Kp.same s1), g, s1 _ _ hl, hG.kp (Kp.same s1), gk, g60, fun H2 s2 => k H2 (s1.trans s2)⟩
theorem ok_best (c : FBest K mg) (cCheckWG : FCheckWG K mg) (cCoreW : FCoreW K mg) (cCoreR : FCoreR K mg) (cCores : FCores K mg) (cCoreP : FCoreP K mg) (cHomesOf : FHomesOf K mg) (cRowsAt : FRowsAt K mg) (cLinks : FLinks K mg) (cLaid : FLaid K mg) (cBeatsBy : FBeatsBy K mg) (T : Bt mg) (TM : Bm mg) (CB : Cb mg)
    (GCheckWG : FnOk P w K mg base CX0 6 cCheckWG.f cCheckWG.fd ["program","wide","goes"] spCheckWG) (GCoreW : FnOk P w K mg base CX0 2 cCoreW.f cCoreW.fd ["program","goes"] spCoreW)
    (GLaid : FnOk P w K mg base CX0 5 cLaid.f cLaid.fd ["program","wide","laid_first","homes","links"] spLaid) (GBeatsBy : FnOk P w K mg base CX0 6 cBeatsBy.f cBeatsBy.fd ["program", "laying", "goes"] spBeats) : FnOk P w K mg base CX0 7 c.f c.fd ["program","wide","goes"] spBest := by
  have GCoreR : FnOk P w K mg base CX0 1 cCoreR.f cCoreR.fd ["goes"] spCoreR := ok_coreR cCoreR T
  have GCores : FnOk P w K mg base CX0 1 cCores.f cCores.fd ["wide","things"] spCores := ok_cores cCores T
  have GCoreP : FnOk P w K mg base CX0 1 cCoreP.f cCoreP.fd ["number","wide","things"] spCoreP := ok_coreP cCoreP T
  have GHomesOf : FnOk P w K mg base CX0 1 cHomesOf.f cHomesOf.fd ["program","worths","places"] spHomesOf := ok_homesOf cHomesOf T
  have GRowsAt : FnOk P w K mg base CX0 1 cRowsAt.f cRowsAt.fd ["rows","places"] spRowsAt := ok_rowsAt cRowsAt T
  have GLinks : FnOk P w K mg base CX0 1 cLinks.f cLinks.fd ["goes","rows"] spLinks := ok_links cLinks
  refine c.F.ok scBest (fun vs H Q E h => ?_) (fun cdv A outer s H vs Q E hr h => ?_)
  · obtain ⟨a, l, bs, p, W, G, rfl, _⟩ := h
    rfl
  · obtain ⟨a, l, bs, p, W, G, rfl, hP, g, w2, w24, hl, hG, gk, g60, k⟩ := h
    have r40 := g.r40
    have w8 := g.w8
    refine ⟨_, (pss_cons (ps_expr (pe_call GCheckWG (hr.mono (by first | omega | decide)) (by rfl) cCheckWG.m cCheckWG.F.kp cCheckWG.b .nil pass0 (pa_cons (pv 0) (pa_cons (pv 1) (pa_cons (pv 2) pa_nil)))))
      (pss_cons (ps_set (i := 3) scBest.nd rfl (Or.inl rfl) (pe_call GCoreW (hr.mono (by first | omega | decide)) (by rfl) cCoreW.m cCoreW.F.kp cCoreW.b .nil pass0 (pa_cons (pv 0) (pa_cons (pv 2) pa_nil))))
      (pss_cons (ps_set (i := 4) scBest.nd rfl (Or.inl rfl) (pe_call GCoreR (hr.mono (by first | omega | decide)) (by rfl) cCoreR.m cCoreR.F.kp cCoreR.b .nil pass0 (pa_cons (pv 2) pa_nil)))
      (pss_cons (ps_set (i := 5) scBest.nd rfl (Or.inl rfl) (pe_call GCores (hr.mono (by first | omega | decide)) (by rfl) cCores.m cCores.F.kp cCores.b .nil pass0 (pa_cons (pv 1) (pa_cons (pe_op op_add (pe_callB call_len_seq (by rfl) T.len PySem.boot_len (pa_cons (pv 3) pa_nil)) (pe_callB call_len_seq (by rfl) T.len PySem.boot_len (pa_cons (pv 4) pa_nil))) pa_nil))))
      (pss_cons (ps_if (pt_cmpR op_gt (pv 5) (pe_glob rfl CB.m5 relI) (nomark _))
          (pss_one ps_never)
          pss_nil)
      (pss_cons (ps_set (i := 6) scBest.nd rfl (Or.inl rfl) (pe_call GLinks (hr.mono (by first | omega | decide)) (by rfl) cLinks.m cLinks.F.kp cLinks.b .nil pass0 (pa_cons (pv 2) (pa_cons (pv 4) pa_nil))))
      (pss_cons (ps_set (i := 7) scBest.nd rfl (Or.inl rfl) (pe_lst pa_nil))
      (pss_cons (ps_for PassesOwn.never rfl (pi_range1 rfl T.range (pa_cons (pv 5) pa_nil)) (pg_name (i := 8) scBest.nd rfl (Or.inl rfl))
          (pss_cons (ps_set (i := 9) scBest.nd rfl (Or.inl rfl) (pe_call GCoreP (hr.mono (by first | omega | decide)) (by rfl) cCoreP.m cCoreP.F.kp cCoreP.b .nil pass0 (pa_cons (pv 8) (pa_cons (pv 1) (pa_cons (pe_op op_add (pe_callB call_len_seq (by rfl) T.len PySem.boot_len (pa_cons (pv 3) pa_nil)) (pe_callB call_len_seq (by rfl) T.len PySem.boot_len (pa_cons (pv 4) pa_nil))) pa_nil)))))
          (pss_cons (ps_set (i := 10) scBest.nd rfl (Or.inl rfl) (pe_call GHomesOf (hr.mono (by first | omega | decide)) (by rfl) cHomesOf.m cHomesOf.F.kp cHomesOf.b .nil pass0 (pa_cons (pv 0) (pa_cons (pv 3) (pa_cons (pe_slice sl_list (pv 9) po_none (po_some (pe_callB call_len_seq (by rfl) T.len PySem.boot_len (pa_cons (pv 3) pa_nil)))) pa_nil)))))
          (pss_cons (ps_set (i := 11) scBest.nd rfl (Or.inl rfl) (pe_call GLaid (hr.mono (by first | omega | decide)) (by rfl) cLaid.m cLaid.F.kp cLaid.b .nil pass0 (pa_cons (pv 0) (pa_cons (pv 1) (pa_cons (pe_call GRowsAt (hr.mono (by first | omega | decide)) (by rfl) cRowsAt.m cRowsAt.F.kp cRowsAt.b .nil pass0 (pa_cons (pv 4) (pa_cons (pe_slice sl_list (pv 9) (po_some (pe_callB call_len_seq (by rfl) T.len PySem.boot_len (pa_cons (pv 3) pa_nil))) po_none) pa_nil))) (pa_cons (pv 10) (pa_cons (pv 6) pa_nil)))))))
          (pss_one (ps_expr (pe_bm PySem.F.plainAttrs_list PySem.F.slot_list_append PySem.F.type_list_append mt_append (pv 7) (pa_cons (pe_tup (pa_cons (pe_call GBeatsBy (hr.mono (by first | omega | decide)) (by rfl) cBeatsBy.m cBeatsBy.F.kp cBeatsBy.b .nil pass0 (pa_cons (pv 0) (pa_cons (pv 11) (pa_cons (pv 2) pa_nil)))) (pa_cons (pv 11) pa_nil))) pa_nil))))))))
      (pss_one (ps_ret (pe_callB (DLR.cr_minD rfl (in64 hr)) (by rfl) TM.min (by decide +kernel) (pa_cons (pv 7) pa_nil)))))))))))), ?_⟩
    refine ⟨_, rfl, _, rfl, _, rfl, a, l, bs, p, W, G, rfl, hP, g, w2, w24, hl, hG, gk, g60, fun H1 s1 => ?_⟩
    refine ⟨_, rfl, _, rfl, a, l, bs, p, G, rfl, hP.kp (Kp.same s1), g, s1 _ _ hl, hG.kp (Kp.same s1), gk, g60, fun wl ws H2 s2 _ e2 hws => ?_⟩
    have S2 := s1.trans s2
    refine ⟨_, rfl, l, bs, G, rfl, S2 _ _ hl, hG.kp (Kp.same S2), g60, fun rl rs H3 s3 _ e3 hrs => ?_⟩
    have S3 := S2.trans s3
    have f2 := s3 _ _ e2
    obtain ⟨c5, k⟩ := k ws rs hws hrs
    have wlt := worths_lt g gk hws
    have rlt := rows_lt g gk hrs
    have wsl := lenLe (hws.1.imp fun {a b} h => Nat.ne_of_lt h) wlt
    have rsl := lenLe (hrs.1.imp fun {a b} h => Nat.ne_of_lt h) rlt
    refine ⟨_, rfl, _, rfl, wl, _, rfl, .inl (SqL.of f2), _, rfl, rl, _, rfl, .inl (SqL.of e3), _, _, rfl, rfl, W, ws.length + rs.length, by rw [List.length_map, List.length_map]; rfl, by omega, by omega, ?_⟩
    refine ⟨_, rfl, _, _, rfl, rfl, _, rfl, ?_⟩
    rw [show decide ((5000 : Int) < ((W ^ (ws.length + rs.length) : Nat) : Int)) = false from decide_eq_false (by omega)]
    refine iteF ?_
    refine ⟨_, rfl, _, rfl, l, rl, bs, G, rs, p.rows.length, rfl, S3 _ _ hl, hG.kp (Kp.same S3), e3, hrs, gk.nd, g60, g.r1, by omega, fun e he => (goes_lt g gk e he).2, fun la ls L H4 s4 e4 p4 lk => ?_⟩
    have S4 := S3.trans s4
    have k := k L lk
    refine ⟨Nat.zero_le _, fun td htd => ?_⟩
    refine alloc htd fun H5 s5 e5 => ?_
    have S5 := S4.trans s5
    have ntd : H td = none := S4.free htd
    have cpos : 0 < W ^ (ws.length + rs.length) := Nat.pow_pos (by omega)
    refine ⟨_, rfl, ((W ^ (ws.length + rs.length) : Nat) : Int), rfl, by omega, by omega, ?_⟩
    refine for_range (lo := 0) (n := ((W ^ (ws.length + rs.length) : Nat) : Int).toNat) (fun i σ H' => ∃ (x8 x9 x10 x11 : Option V) (ts : List Addr), σ = [some (.ref a), some (nI W), some (.ref l), some (.ref wl), some (.ref rl), some (nI (W ^ (ws.length + rs.length))), some (.ref la), some (.ref td), x8, x9, x10, x11] ∧ Same1 H4 H' ∧ H' td = some (.lst (ts.map V.ref)) ∧ ToldAt p W ws rs L G H' ts (List.range i))
      ⟨none, none, none, none, [], rfl, s5, e5, .nil⟩ ?_ ?_
    · rintro i σ H6 hi ⟨x8, x9, x10, x11, ts, rfl, s6, e6, t6⟩
      have hi : i < W ^ (ws.length + rs.length) := by rwa [Int.toNat_natCast] at hi
      have htl := Paired.length t6
      rw [List.length_range] at htl
      have g2 := (s4.trans s6) _ _ f2
      have g3 := (s4.trans s6) _ _ e3
      refine ⟨_, rfl, _, rfl, _, rfl, wl, _, rfl, .inl (SqL.of g2), _, rfl, rl, _, rfl, .inl (SqL.of g3), _, _, rfl, rfl, i, W, ws.length + rs.length, by rw [Int.zero_add, List.length_map, List.length_map]; rfl, w2, w24, by omega, fun sp H7 s7 nsp e7 => ?_⟩
      have h2 := s7 _ _ g2
      have h3 := s7 _ _ g3
      have S7 := (S4.trans s6).trans s7
      refine ⟨_, rfl, _, rfl, _, rfl, _, rfl, wl, _, rfl, .inl (SqL.of h2), _, rfl, sp, _, rfl, SqL.of e7, fun q nq => ?_⟩
      refine alloc nq fun H8 s8 e8 => ?_
      rw [List.length_map, taken, ← List.map_take] at e8
      have S8 := S7.trans s8
      refine ⟨a, wl, q, p, ws, (digits W (ws.length + rs.length) i).take ws.length, rfl, hP.kp (Kp.same S8), g, s8 _ _ h2, e8, by rw [List.length_take, digits_len]; omega, wlt, fun ha cs H9 s9 e9 hs9 => ?_⟩
      have S9 := S8.trans s9
      have s69 := (s7.trans s8).trans s9
      have k2 := s69 _ _ g2
      have k3 := s69 _ _ g3
      have k7 := (s8.trans s9) _ _ e7
      refine ⟨_, rfl, _, rfl, _, rfl, _, rfl, _, rfl, wl, _, rfl, .inl (SqL.of k2), _, rfl, sp, _, rfl, SqL.of k7, fun q2 nq2 => ?_⟩
      refine alloc nq2 fun H10 s10 e10 => ?_
      rw [List.length_map, dropn, ← List.map_drop] at e10
      refine ⟨rl, q2, rs, (digits W (ws.length + rs.length) i).drop ws.length, rfl, s10 _ _ k3, e10, by rw [List.length_drop, digits_len]; omega, by omega, fun da H11 s11 _ pl11 => ?_⟩
      have S11 := (S9.trans s10).trans s11
      have s611 := (s69.trans s10).trans s11
      have w0 : 0 < W := by omega
      have dl := digits_lt w0 (ws.length + rs.length) i
      have z1 : ∀ q ∈ ws.zip ((digits W (ws.length + rs.length) i).take ws.length), q.2 < W := fun q hq => dl _ (List.mem_of_mem_take (List.of_mem_zip (a := q.1) (b := q.2) hq).2)
      have z2 : ∀ q ∈ rs.zip ((digits W (ws.length + rs.length) i).drop ws.length), q.2 < W := fun q hq => dl _ (List.mem_of_mem_drop (List.of_mem_zip (a := q.1) (b := q.2) hq).2)
      have one := homesZ_one (n := p.ws.length) w0 _ z1
      have zr : (rs.zip ((digits W (ws.length + rs.length) i).drop ws.length)).map (·.1) = rs := by
        rw [List.map_fst_zip]
        rw [List.length_drop, digits_len]
        omega
      refine ⟨_, rfl, _, rfl, a, da, ha, la, p, W, rs.length + 1, firstF (rs.zip ((digits W (ws.length + rs.length) i).drop ws.length)), cs, homesZ p.ws.length (ws.zip ((digits W (ws.length + rs.length) i).take ws.length)), ls, L, rfl, hP.kp (Kp.same S11), g, w2, w24, pl11, by omega, firstF_lt w0 _ z2,
        (s10.trans s11) _ _ e9, HomesAt.kp hs9 (Kp.same (s10.trans s11)), homesZ_len _ _, fun h hh => ?_, (s6.trans s611) _ _ e4, PairsL.kp p4 (Kp.same (s6.trans s611)), lk.len, fun q hq => ?_, fun j q hq => ?_, fun y H12 s12 hy => ?_⟩
      · obtain ⟨x, rfl, hx⟩ := one h hh
        exact ⟨Nat.le_refl _, by show 1 ≤ 3; decide, by simp, fun y hy => by rw [List.mem_singleton.mp hy]; exact hx⟩
      · obtain ⟨e, he, ee⟩ := List.mem_map.mp (lk.go q hq).1
        have q1 := (goes_lt g gk e he).1
        rw [ee] at q1
        exact q1
      · rcases lk.ord j q hq with z | z | z
        · exact .inl (firstF_some (.inl z))
        · exact .inl (firstF_some (.inr (by rw [zr]; exact z)))
        · exact .inr z
      have hy : LayAt H12 y (bestL p W ws rs L i) := hy
      have S12 := S11.trans s12
      have yk := bestL_ok (p := p) (ws := ws) (rs := rs) (L := L) (i := i) w2 w24
      have e12 := (s611.trans s12) _ _ e6
      refine ⟨_, rfl, .inl ⟨rfl, _, SqL.of e12⟩, _, rfl, _, rfl, _, rfl, a, y, l, bs, p, bestL p W ws rs L i, G, rfl, hP.kp (Kp.same S12), g, hy, yk.1, S12 _ _ hl, hG.kp (Kp.same S12), gk, g60, fun H13 s13 => ?_⟩
      refine ⟨_, rfl, (by show 2 ≤ sizeLine; decide), fun tp ntp => ?_⟩
      refine alloc ntp fun H14 s14 e14 => ?_
      have s614 := ((s611.trans s12).trans s13).trans s14
      have e64 := s614 _ _ e6
      refine ⟨td, _, _, rfl, rfl, e64, szl (by rw [List.length_map]; omega), ?_⟩
      have kp := Kp.lst (o := HO.lst (ts.map V.ref ++ [V.ref tp])) e64
      refine ⟨_, _, _, _, ts ++ [tp], rfl, Same.mut (s6.trans s614) htd, by rw [upd_same, List.map_append]; rfl, ?_⟩
      rw [List.range_succ]
      have one14 : ToldAt p W ws rs L G H14 [tp] [i] := Paired.one ⟨y, e14, hy.kp (Kp.same (s13.trans s14))⟩
      have old14 : ToldAt p W ws rs L G H14 ts (List.range i) := Paired.mapP t6 fun t j ⟨y, h1, h2⟩ => ⟨y, s614 _ _ h1, h2.kp (Kp.same s614)⟩
      exact Paired.mapP (Paired.app old14 one14) fun t j ⟨y, h1, h2⟩ => ⟨y, kp _ _ h1, h2.kp kp⟩
    · rintro σ H6 ⟨x8, x9, x10, x11, ts, rfl, s6, e6, t6⟩
      rw [Int.toNat_natCast] at t6
      have S6 := S4.trans s6
      have htl := Paired.length t6
      rw [List.length_range] at htl
      have hds : DpAll K H6 (ts.map V.ref) ((List.range (W ^ (ws.length + rs.length))).map fun j => bothD (beatsF (bestL p W ws rs L j) p.rows G) (bestL p W ws rs L j)) := told_dp t6
      refine ⟨_, rfl, td, ts.map V.ref, _, rfl, SqL.of e6, hds, by rw [List.length_map]; omega, fun d hd => ?_, fun d hd e he => ?_, fun x hx => ?_⟩
      · obtain ⟨j, _, rfl⟩ := List.mem_map.mp hd
        exact ⟨(by intro z; cases z), bothD_dep _ _⟩
      · obtain ⟨j, _, rfl⟩ := List.mem_map.mp hd
        obtain ⟨j', _, rfl⟩ := List.mem_map.mp he
        have y1 := bestL_ok (p := p) (ws := ws) (rs := rs) (L := L) (i := j) w2 w24
        have y2 := bestL_ok (p := p) (ws := ws) (rs := rs) (L := L) (i := j') w2 w24
        exact bothD_like _ _ _ _ (by rw [y1.1.pl, y2.1.pl]) (by rw [y1.1.hl, y2.1.hl]) y1.2 y2.2
      · have ld := leastD_first ((List.range (W ^ (ws.length + rs.length))).map fun j => bothD (beatsF (bestL p W ws rs L j) p.rows G) (bestL p W ws rs L j)) (fun j => beatsF (bestL p W ws rs L j) p.rows G)
          (fun j hj => by
            rw [List.length_map, List.length_range] at hj
            exact ⟨_, by rw [List.getElem?_map, List.getElem?_range hj]; rfl⟩) (by rw [List.length_map, List.length_range]; exact cpos)
        generalize leastD ((List.range (W ^ (ws.length + rs.length))).map fun j => bothD (beatsF (bestL p W ws rs L j) p.rows G) (bestL p W ws rs L j)) = i at ld hx
        rw [List.length_map, List.length_range] at ld
        rw [List.getElem?_map] at hx
        obtain ⟨t, ht1, ht2⟩ := Option.map_eq_some_iff.mp hx
        subst ht2
        obtain ⟨j, hj, y, hy1, hy2⟩ := Paired.get t6 ht1
        rw [List.getElem?_range ld.1] at hj
        have hj : i = j := Option.some.inj hj
        subst hj
        exact k t y i H6 S6 hy1 hy2 ld.1 ld.2
end
end DL
namespace DL
open PySem L2 DLR
/-! ### that none takes fewer: layings with one home each, as functions -/
theorem fbM {a b : Int} {p W : Nat} (h0 : 0 < W) (hp : p < W) (h : a ≤ b) : fb a p W ≤ fb b p W := by
  by_cases ge : fb a p W ≤ fb b p W
  · exact ge
  · have e : fb b p W = fb a p W := fb_uniq hp (by have := (fb_ge (now := b) (place := p) h0).1; omega) (by omega) (fb_mod hp)
    omega
theorem fb_shift {now c : Int} {p q W : Nat} {k : Int} (e : (q : Int) = (p : Int) + c + k * (W : Int)) : fb (now + c) q W = fb now p W + c := by
  unfold fb
  have e2 : (q : Int) - (now + c) = ((p : Int) - now) + k * (W : Int) := by rw [e]; omega
  rw [e2, Int.add_mul_emod_self_right]
  omega
theorem fb_at {b : Int} {W : Nat} (h0 : 0 < W) : fb b (b % (W : Int)).toNat W = b := by
  have h := Int.emod_nonneg b (show (W : Int) ≠ 0 by omega)
  unfold fb
  rw [Int.toNat_of_nonneg h, Int.emod_sub_emod, Int.sub_self, Int.zero_emod, Int.add_zero]
def bh (W : Nat) (hm : Nat → Nat) (r : Row) (t : Int) : Int :=
  (match r with
  | .load w _ => fb (t + 1) (hm w) W
  | .add w _ => fb (t + 1) (hm w) W
  | .take w _ => fb (t + 1) (hm w) W
  | .store w _ => fb (t + 1) (hm w) W
  | _ => t) + work r + 1
def usesW : Row → Option Nat
  | .load w _ => some w
  | .add w _ => some w
  | .take w _ => some w
  | .store w _ => some w
  | _ => none
theorem bh_mono {W : Nat} {hm : Nat → Nat} (h0 : 0 < W) (r : Row) (hl : ∀ w, usesW r = some w → hm w < W) {a b : Int} (h : a ≤ b) : bh W hm r a ≤ bh W hm r b := by
  have q : ∀ w, hm w < W → fb (a + 1) (hm w) W ≤ fb (b + 1) (hm w) W := fun w hw => fbM h0 hw (by omega)
  cases r with
  | load w n => have := q w (hl w rfl); simp only [bh]; omega
  | add w n => have := q w (hl w rfl); simp only [bh]; omega
  | take w n => have := q w (hl w rfl); simp only [bh]; omega
  | store w n => have := q w (hl w rfl); simp only [bh]; omega
  | say n => simp only [bh]; omega
  | test x y => simp only [bh]; omega
  | stop => simp only [bh]; omega
theorem bh_shift {W : Nat} {hm hn : Nat → Nat} (r : Row) {t c : Int} (e : ∀ w, usesW r = some w → ∃ k : Int, (hn w : Int) = (hm w : Int) + c + k * (W : Int)) : bh W hn r (t + c) = bh W hm r t + c := by
  have q : ∀ w, usesW r = some w → fb (t + c + 1) (hn w) W = fb (t + 1) (hm w) W + c := fun w hw => by
    obtain ⟨k, hk⟩ := e w hw
    rw [show t + c + 1 = t + 1 + c by omega]
    exact fb_shift hk
  cases r with
  | load w n => have := q w rfl; simp only [bh]; omega
  | add w n => have := q w rfl; simp only [bh]; omega
  | take w n => have := q w rfl; simp only [bh]; omega
  | store w n => have := q w rfl; simp only [bh]; omega
  | say n => simp only [bh]; omega
  | test x y => simp only [bh]; omega
  | stop => simp only [bh]; omega
def cF (W : Nat) (hm pl : Nat → Nat) (rows : List Row) (u v : Nat) : Int := fb (bh W hm (rows.getD u .stop) ((pl u : Nat) : Int)) (pl v) W - ((pl u : Nat) : Int)
def tot (W : Nat) (hm pl : Nat → Nat) (rows : List Row) (G : GoL) : Int := ((pl 0 : Nat) : Int) + 1 + (G.map fun e => e.2 * cF W hm pl rows e.1.1 e.1.2).sum
theorem cF_shift {W : Nat} {hm hn pl pn : Nat → Nat} {rows : List Row} {u v : Nat} {c : Int} (eh : ∀ w, usesW (rows.getD u .stop) = some w → ∃ k : Int, (hn w : Int) = (hm w : Int) + c + k * (W : Int))
    (eu : ∃ k : Int, (pn u : Int) = (pl u : Int) + c + k * (W : Int)) (ev : ∃ k : Int, (pn v : Int) = (pl v : Int) + c + k * (W : Int)) : cF W hn pn rows u v = cF W hm pl rows u v := by
  obtain ⟨k, hk⟩ := eu
  obtain ⟨j, hj⟩ := ev
  unfold cF
  have e1 : ((pn u : Nat) : Int) = ((pl u : Nat) : Int) + (c + k * (W : Int)) := by rw [hk]; omega
  have b : bh W hn (rows.getD u .stop) ((pn u : Nat) : Int) = bh W hm (rows.getD u .stop) ((pl u : Nat) : Int) + (c + k * (W : Int)) := by
    rw [e1]
    refine bh_shift _ fun w hw => ?_
    obtain ⟨i, hi⟩ := eh w hw
    exact ⟨i - k, by rw [hi, Int.sub_mul]; omega⟩
  rw [b, fb_shift (p := pl v) (k := j - k) (by rw [hj, Int.sub_mul]; omega), e1]
  omega
theorem sum_le {α : Type} {f g : α → Int} : ∀ l : List α, (∀ x ∈ l, f x ≤ g x) → (l.map f).sum ≤ (l.map g).sum
  | [], _ => Int.le_refl _
  | x :: l, h => by
    rw [List.map_cons, List.map_cons, List.sum_cons, List.sum_cons]
    have := h x List.mem_cons_self
    have := sum_le l fun y hy => h y (List.mem_cons_of_mem _ hy)
    omega
theorem sum_split {d : Int} (f : Nat × Nat → Int) (a b : Nat × Nat → Bool) : ∀ G : GoL, (G.map fun e => e.2 * (f e.1 + (if a e.1 = true then d else 0) - (if b e.1 = true then d else 0))).sum = (G.map fun e => e.2 * f e.1).sum + d * sumG a G - d * sumG b G
  | [] => by simp [sumG]
  | e :: G => by
    have ih := sum_split (d := d) f a b G
    unfold sumG at ih ⊢
    simp only [List.map_cons, List.sum_cons]
    rw [ih]
    have m1 : ∀ x : Bool, e.2 * (if x = true then d else 0) = d * (if x = true then e.2 else 0) := fun x => by
      cases x
      · simp
      · simp [Int.mul_comm]
    rw [Int.mul_sub, Int.mul_add, m1, m1, Int.mul_add, Int.mul_add]
    omega
theorem relax {W : Nat} {hm pl : Nat → Nat} {rows : List Row} {G : GoL} {u v : Nat} (h0 : 0 < W) (hp : ∀ x, pl x < W) (hh : ∀ e ∈ G, ∀ w, usesW (rows.getD e.1.1 .stop) = some w → hm w < W) (v0 : v ≠ 0) (uv : u ≠ v) (one : ∀ e ∈ G, e.1.2 = v → e.1.1 = u)
    (pos : ∀ e ∈ G, 1 ≤ e.2) (flow : sumG (fun q => decide (q.1 = v)) G ≤ sumG (fun q => decide (q.2 = v)) G) :
    tot W hm (fun x => if x = v then (bh W hm (rows.getD u .stop) ((pl u : Nat) : Int) % (W : Int)).toNat else pl x) rows G ≤ tot W hm pl rows G := by
  generalize hb : bh W hm (rows.getD u .stop) ((pl u : Nat) : Int) = b
  have hd : b ≤ fb b (pl v) W := (fb_ge h0).1
  generalize hdd : fb b (pl v) W - b = d
  have d0 : 0 ≤ d := by omega
  have key : ∀ e ∈ G, e.2 * cF W hm (fun x => if x = v then (b % (W : Int)).toNat else pl x) rows e.1.1 e.1.2 ≤ e.2 * (cF W hm pl rows e.1.1 e.1.2 + (if decide (e.1.1 = v) = true then d else 0) - (if decide (e.1.2 = v) = true then d else 0)) := by
    intro e he
    refine Int.mul_le_mul_of_nonneg_left ?_ (by have := pos e he; omega)
    by_cases c2 : e.1.2 = v
    · have c1 := one e he c2
      have n1 : e.1.1 ≠ v := by rw [c1]; exact uv
      rw [decide_eq_true c2, decide_eq_false n1, if_pos rfl, if_neg (by decide), c1, c2]
      unfold cF
      simp only [if_neg uv, if_true]
      rw [hb, fb_at h0]
      omega
    · rw [decide_eq_false c2, if_neg (show ¬ (false = true) by decide)]
      by_cases c1 : e.1.1 = v
      · rw [decide_eq_true c1, if_pos rfl, c1]
        unfold cF
        simp only [if_true, if_neg c2]
        have hbn := Int.emod_nonneg b (show (W : Int) ≠ 0 by omega)
        have e1 : (((b % (W : Int)).toNat : Nat) : Int) = b + -(b / (W : Int)) * (W : Int) := by
          rw [Int.toNat_of_nonneg hbn, Int.emod_def, Int.neg_mul, Int.mul_comm (W : Int)]
          omega
        have e2 : ((pl v : Nat) : Int) = (b + d) + -(fb b (pl v) W / (W : Int)) * (W : Int) := by
          have q := fb_mod (now := b) (hp v)
          rw [Int.emod_def] at q
          rw [Int.neg_mul, Int.mul_comm _ (W : Int)]
          omega
        have s1 : bh W hm (rows.getD v .stop) (b + -(b / (W : Int)) * (W : Int)) = bh W hm (rows.getD v .stop) b + -(b / (W : Int)) * (W : Int) := bh_shift _ fun w _ => ⟨b / (W : Int), by rw [Int.neg_mul]; omega⟩
        have s2 : bh W hm (rows.getD v .stop) ((b + d) + -(fb b (pl v) W / (W : Int)) * (W : Int)) = bh W hm (rows.getD v .stop) (b + d) + -(fb b (pl v) W / (W : Int)) * (W : Int) := bh_shift _ fun w _ => ⟨fb b (pl v) W / (W : Int), by rw [Int.neg_mul]; omega⟩
        have t1 : fb (bh W hm (rows.getD v .stop) b + -(b / (W : Int)) * (W : Int)) (pl e.1.2) W = fb (bh W hm (rows.getD v .stop) b) (pl e.1.2) W + -(b / (W : Int)) * (W : Int) := fb_shift (k := b / (W : Int)) (by rw [Int.neg_mul]; omega)
        have t2 : fb (bh W hm (rows.getD v .stop) (b + d) + -(fb b (pl v) W / (W : Int)) * (W : Int)) (pl e.1.2) W = fb (bh W hm (rows.getD v .stop) (b + d)) (pl e.1.2) W + -(fb b (pl v) W / (W : Int)) * (W : Int) := fb_shift (k := fb b (pl v) W / (W : Int)) (by rw [Int.neg_mul]; omega)
        have m : fb (bh W hm (rows.getD v .stop) b) (pl e.1.2) W ≤ fb (bh W hm (rows.getD v .stop) (b + d)) (pl e.1.2) W := fbM h0 (hp _) (bh_mono h0 _ (fun w hw => hh e he w (by rw [c1]; exact hw)) (by omega))
        rw [e1, s1, t1, e2, s2, t2]
        omega
      · rw [decide_eq_false c1, if_neg (show ¬ (false = true) by decide)]
        unfold cF
        simp only [if_neg c1, if_neg c2]
        omega
  have s := sum_le G key
  have s := Int.le_trans s (Int.le_of_eq (sum_split (d := d) (fun q => cF W hm pl rows q.1 q.2) (fun q => decide (q.1 = v)) (fun q => decide (q.2 = v)) G))
  have fl : d * sumG (fun q => decide (q.1 = v)) G ≤ d * sumG (fun q => decide (q.2 = v)) G := Int.mul_le_mul_of_nonneg_left flow d0
  unfold tot
  simp only [if_neg (show ¬ (0 = v) from fun z => v0 z.symm)]
  omega
def stepP (W : Nat) (hm : Nat → Nat) (rows : List Row) (pl : Nat → Nat) (q : Nat × Nat) : Nat → Nat := fun x => if x = q.2 then (bh W hm (rows.getD q.1 .stop) ((pl q.1 : Nat) : Int) % (W : Int)).toNat else pl x
def foldP (W : Nat) (hm : Nat → Nat) (rows : List Row) (L : List (Nat × Nat)) (pl : Nat → Nat) : Nat → Nat := L.foldl (stepP W hm rows) pl
theorem relax_all {W : Nat} {hm : Nat → Nat} {rows : List Row} {G : GoL} (h0 : 0 < W) (hh : ∀ e ∈ G, ∀ w, usesW (rows.getD e.1.1 .stop) = some w → hm w < W) (pos : ∀ e ∈ G, 1 ≤ e.2) :
    ∀ (L : List (Nat × Nat)) (pl : Nat → Nat), (∀ x, pl x < W) → (∀ q ∈ L, q.2 ≠ 0 ∧ q.1 ≠ q.2 ∧ (∀ e ∈ G, e.1.2 = q.2 → e.1.1 = q.1) ∧ sumG (fun r => decide (r.1 = q.2)) G ≤ sumG (fun r => decide (r.2 = q.2)) G) → tot W hm (foldP W hm rows L pl) rows G ≤ tot W hm pl rows G
  | [], _, _, _ => Int.le_refl _
  | q :: L, pl, hp, h => by
    obtain ⟨a, b, c, d⟩ := h q List.mem_cons_self
    refine Int.le_trans (relax_all h0 hh pos L (stepP W hm rows pl q) (fun x => ?_) fun r hr => h r (List.mem_cons_of_mem _ hr)) (relax h0 hp hh a b c pos d)
    unfold stepP
    split
    · have := Int.emod_lt_of_pos (bh W hm (rows.getD q.1 .stop) ((pl q.1 : Nat) : Int)) (show (0 : Int) < (W : Int) by omega)
      have := Int.emod_nonneg (bh W hm (rows.getD q.1 .stop) ((pl q.1 : Nat) : Int)) (show (W : Int) ≠ 0 by omega)
      omega
    · exact hp x
theorem tot_congr {W : Nat} {hm hn pl pn : Nat → Nat} {rows : List Row} {G : GoL} (p0 : pl 0 = pn 0) (hp : ∀ e ∈ G, pl e.1.1 = pn e.1.1 ∧ pl e.1.2 = pn e.1.2) (hh : ∀ e ∈ G, ∀ w, usesW (rows.getD e.1.1 .stop) = some w → hm w = hn w) : tot W hm pl rows G = tot W hn pn rows G := by
  unfold tot
  rw [p0]
  have e : (G.map fun e => e.2 * cF W hm pl rows e.1.1 e.1.2) = G.map fun e => e.2 * cF W hn pn rows e.1.1 e.1.2 := by
    refine List.map_congr_left fun e he => ?_
    obtain ⟨a, b⟩ := hp e he
    have q := hh e he
    unfold cF
    rw [a, b]
    congr 3
    cases hr : rows.getD e.1.1 .stop with
    | load w n => simp only [bh]; rw [q w (by rw [hr]; rfl)]
    | add w n => simp only [bh]; rw [q w (by rw [hr]; rfl)]
    | take w n => simp only [bh]; rw [q w (by rw [hr]; rfl)]
    | store w n => simp only [bh]; rw [q w (by rw [hr]; rfl)]
    | say n => rfl
    | test x y => rfl
    | stop => rfl
  rw [e]
def hmY (y : Lay) (w : Nat) : Nat := (y.homes.getD w []).headD 0
def plY (y : Lay) (x : Nat) : Nat := y.places.getD x 0
theorem one_home {y : Lay} (one : ∀ h ∈ y.homes, h.length = 1) {w : Nat} (hw : w < y.homes.length) : y.homes.getD w [] = [hmY y w] := by
  unfold hmY
  rw [List.getD_eq_getElem?_getD, List.getElem?_eq_getElem hw]
  have q := one _ (List.getElem_mem hw)
  show y.homes[w] = [y.homes[w].headD 0]
  match h : y.homes[w], q with
  | [x], _ => rfl
theorem behind_bh {y : Lay} {r : Row} {t : Int} (h : ∀ w, usesW r = some w → y.homes.getD w [] = [hmY y w]) : behindF y r t = bh y.wide (hmY y) r t := by
  have mn : ∀ w, usesW r = some w → comes y w t = [fb (t + 1) (hmY y w) y.wide] := fun w hw => by
    unfold comes comesL
    rw [h w hw]
    rfl
  unfold behindF
  cases r with
  | load w n => simp only [useF, bh, mn w rfl, minL]
  | add w n => simp only [useF, bh, mn w rfl, minL]
  | take w n => simp only [useF, bh, mn w rfl, minL]
  | store w n => simp only [useF, bh, mn w rfl, maxL]
  | say n => rfl
  | test x y => rfl
  | stop => rfl
theorem usesW_lt {r : Row} {w nw nr : Nat} (ok : r.ok nw nr) (h : usesW r = some w) : w < nw := by
  cases r with
  | load x n => exact Option.some.inj h ▸ ok.1
  | add x n => exact Option.some.inj h ▸ ok.1
  | take x n => exact Option.some.inj h ▸ ok.1
  | store x n => exact Option.some.inj h ▸ ok.1
  | say n => cases h
  | test x y => cases h
  | stop => cases h
theorem usesW_at {r : Row} {w : Nat} (h : usesW r = some w) : r.uses = true ∧ (rowVs r)[1]? = some (nI w) := by
  cases r with
  | load x n => exact Option.some.inj h ▸ ⟨rfl, rfl⟩
  | add x n => exact Option.some.inj h ▸ ⟨rfl, rfl⟩
  | take x n => exact Option.some.inj h ▸ ⟨rfl, rfl⟩
  | store x n => exact Option.some.inj h ▸ ⟨rfl, rfl⟩
  | say n => cases h
  | test x y => cases h
  | stop => cases h
theorem row_ok {p : Prog} (g : Good p) (u : Nat) : (p.rows.getD u .stop).ok p.ws.length p.rows.length := by
  rcases Nat.lt_or_ge u p.rows.length with h | h
  · rw [List.getD_eq_getElem?_getD, List.getElem?_eq_getElem h]
    exact g.ok _ (List.getElem_mem h)
  · rw [List.getD_eq_getElem?_getD, List.getElem?_eq_none h]
    trivial
theorem beats_tot {p : Prog} {y : Lay} {G : GoL} (g : Good p) (one : ∀ h ∈ y.homes, h.length = 1) (hl : y.homes.length = p.ws.length) : beatsF y p.rows G = tot y.wide (hmY y) (plY y) p.rows G := by
  unfold beatsF tot
  have e : (G.map fun e => e.2 * costF y p.rows e.1.1 e.1.2) = G.map fun e => e.2 * cF y.wide (hmY y) (plY y) p.rows e.1.1 e.1.2 := by
    refine List.map_congr_left fun e he => ?_
    unfold costF cF
    rw [behind_bh fun w hw => one_home one (by rw [hl]; exact usesW_lt (row_ok g _) hw)]
    rfl
  rw [e]
  rfl
theorem digits_onto {W : Nat} : ∀ (n : Nat) (ps : List Nat), ps.length = n → (∀ d ∈ ps, d < W) → ∃ j, j < W ^ n ∧ digits W n j = ps
  | 0, [], _, _ => ⟨0, by simp, rfl⟩
  | 0, _ :: _, h, _ => by cases h
  | n + 1, [], h, _ => by cases h
  | n + 1, d :: ps, h, hd => by
    obtain ⟨j, hj, e⟩ := digits_onto n ps (Nat.succ.inj h) fun x hx => hd x (List.mem_cons_of_mem _ hx)
    have dW := hd d List.mem_cons_self
    have W0 : 0 < W := by omega
    refine ⟨d + W * j, ?_, ?_⟩
    · rw [Nat.pow_succ, Nat.mul_comm (W ^ n) W]
      have : W * (j + 1) ≤ W * W ^ n := Nat.mul_le_mul_left W hj
      rw [Nat.mul_succ] at this
      omega
    · show (d + W * j) % W :: digits W n ((d + W * j) / W) = _
      rw [Nat.add_mul_mod_self_left, Nat.mod_eq_of_lt dW, Nat.add_mul_div_left _ _ W0, Nat.div_eq_of_lt dW, Nat.zero_add, e]
theorem fold_put_is {pl : Nat → Nat} : ∀ (z : List (Nat × Nat)) (f : Nat → Option Nat), (∀ q ∈ z, pl q.1 = q.2) → (∀ x y, f x = some y → pl x = y) → ∀ x y, z.foldl put1 f x = some y → pl x = y
  | [], _, _, h, x, y, e => h x y e
  | q :: z, f, hz, h, x, y, e => by
    refine fold_put_is z (put1 f q) (fun r hr => hz r (List.mem_cons_of_mem _ hr)) (fun a b hab => ?_) x y e
    unfold put1 at hab
    split at hab
    · rename_i c
      rw [c, hz q List.mem_cons_self]
      exact Option.some.inj hab
    · exact h a b hab
theorem fold_set_is {hm : Nat → Nat} {w : Nat} : ∀ (z : List (Nat × Nat)) (hs : List (List Nat)), (∀ q ∈ z, hm q.1 = q.2) → w < hs.length → (hs.getD w [] = [hm w] ∨ w ∈ z.map (·.1)) → (z.foldl (fun hs q => hs.set q.1 [q.2]) hs).getD w [] = [hm w]
  | [], hs, _, _, h => h.elim id fun c => by cases c
  | q :: z, hs, hz, hw, h => by
    refine fold_set_is z (hs.set q.1 [q.2]) (fun r hr => hz r (List.mem_cons_of_mem _ hr)) (by rw [List.length_set]; exact hw) ?_
    have e : (hs.set q.1 [q.2]).getD w [] = if w = q.1 then [q.2] else hs.getD w [] := by
      rw [List.getD_eq_getElem?_getD, List.getElem?_set]
      by_cases c : q.1 = w
      · rw [if_pos c, if_pos (by rw [c]; exact hw), if_pos c.symm]
        rfl
      · rw [if_neg c, if_neg (fun z => c z.symm), List.getD_eq_getElem?_getD]
    rw [e]
    by_cases c : w = q.1
    · left
      rw [if_pos c, c, hz q List.mem_cons_self]
    · rw [if_neg c]
      refine h.imp id fun m => ?_
      rcases List.mem_cons.mp m with x | x
      · exact absurd x c
      · exact x
theorem placesF_is {hs : List (List Nat)} {W : Nat} {rows : List Row} {hm : Nat → Nat} : ∀ (L : List (Nat × Nat)) (f : Nat → Option Nat) (pl : Nat → Nat), (∀ q ∈ L, ∀ t, behindF ⟨W, [], hs⟩ (rows.getD q.1 .stop) t = bh W hm (rows.getD q.1 .stop) t) → (∀ x y, f x = some y → pl x = y) →
    (∀ (i : Nat) (q : Nat × Nat), L[i]? = some q → (f q.1).isSome = true ∨ ∃ (j : Nat) (q' : Nat × Nat), j < i ∧ L[j]? = some q' ∧ q'.2 = q.1) → ∀ x y, placesF hs W rows L f x = some y → foldP W hm rows L pl x = y
  | [], _, _, _, h, _, x, y, e => h x y e
  | q :: L, f, pl, hb, h, ord, x, y, e => by
    have s0 : ∃ v, f q.1 = some v := by
      rcases ord 0 q rfl with c | ⟨j, _, lt, _⟩
      · exact Option.isSome_iff_exists.mp c
      · omega
    obtain ⟨v, hv⟩ := s0
    refine placesF_is L (layStep hs W rows f q) (stepP W hm rows pl q) (fun r hr => hb r (List.mem_cons_of_mem _ hr)) (fun a b hab => ?_) (fun i r hr => ?_) x y e
    · unfold layStep put1 at hab
      unfold stepP
      split at hab
      · rename_i c
        rw [if_pos c, h _ _ hv, ← hb q List.mem_cons_self]
        rw [hv] at hab
        exact Option.some.inj hab
      · rename_i c
        rw [if_neg c]
        exact h a b hab
    · have keep : ∀ a, (f a).isSome = true → (layStep hs W rows f q a).isSome = true := fun a ha => by
        unfold layStep put1
        split
        · rfl
        · exact ha
      rcases ord (i + 1) r hr with c | ⟨j, q', lt, hj, e'⟩
      · exact .inl (keep _ c)
      · cases j with
        | zero =>
          have e0 : q = q' := Option.some.inj hj
          left
          unfold layStep put1
          rw [if_pos (by rw [← e', e0])]
          rfl
        | succ j => exact .inr ⟨j, q', by omega, hj, e'⟩
theorem sumG_one {f g : Nat × Nat → Bool} : ∀ G : GoL, (∀ e ∈ G, f e.1 = g e.1) → sumG f G = sumG g G
  | [], _ => rfl
  | e :: G, h => by
    have ih := sumG_one G fun x hx => h x (List.mem_cons_of_mem _ hx)
    unfold sumG at ih ⊢
    rw [List.map_cons, List.map_cons, List.sum_cons, List.sum_cons, ih, h e List.mem_cons_self]
theorem sumG_none : ∀ G : GoL, sumG (fun _ => false) G = 0
  | [] => rfl
  | e :: G => by
    have ih := sumG_none G
    unfold sumG at ih ⊢
    rw [List.map_cons, List.sum_cons, ih]
    rfl
theorem done_src {p : Prog} {G : GoL} (gk : Goes p G) : ∀ e ∈ G, doneBy G e.1.1 := gk.reach (doneBy G) (.inl rfl) fun e he _ => .inr ⟨e, he, rfl⟩
theorem best_least {p : Prog} {W : Nat} {G : GoL} {ws rs : List Nat} {L : List (Nat × Nat)} {y : Lay} (g : Good p) (gk : Goes p G) (hws : WorthsOf p G ws) (hrs : RowsOf G rs) (lk : Links G rs L) (yk : LayOk p y) (one : ∀ h ∈ y.homes, h.length = 1) (hW : y.wide = W) :
    ∃ j, j < W ^ (ws.length + rs.length) ∧ beatsF (bestL p W ws rs L j) p.rows G ≤ beatsF y p.rows G := by
  have w2 : 2 ≤ W := by rw [← hW]; exact yk.w2
  have w24 : W ≤ 24 := by rw [← hW]; exact yk.w24
  have h0 : 0 < W := by omega
  have hmlt : ∀ w, w < p.ws.length → hmY y w < W := fun w hw => by
    have hw : w < y.homes.length := by rw [yk.hl]; exact hw
    have e := one_home one hw
    rw [List.getD_eq_getElem?_getD, List.getElem?_eq_getElem hw] at e
    have q := (yk.hok _ (List.getElem_mem hw)).lt (hmY y w) (by rw [show y.homes[w] = [hmY y w] from e]; exact List.mem_singleton.mpr rfl)
    rw [hW] at q
    exact q
  have pllt : ∀ x, plY y x < W := fun x => by
    unfold plY
    rcases Nat.lt_or_ge x y.places.length with h | h
    · rw [List.getD_eq_getElem?_getD, List.getElem?_eq_getElem h, ← hW]
      exact yk.pok _ (List.getElem_mem h)
    · rw [List.getD_eq_getElem?_getD, List.getElem?_eq_none h]
      exact h0
  generalize hs_ : plY y 0 = s
  have slt : s < W := by rw [← hs_]; exact pllt 0
  let sh : Nat → Nat := fun x => (x + (W - s)) % W
  have shlt : ∀ x, sh x < W := fun x => Nat.mod_lt _ h0
  have shk : ∀ x, ∃ k : Int, ((sh x : Nat) : Int) = (x : Int) + -(s : Int) + k * (W : Int) := fun x => by
    refine ⟨1 - (((x + (W - s)) / W : Nat) : Int), ?_⟩
    have q := Nat.div_add_mod (x + (W - s)) W
    have q2 : ((x + (W - s) : Nat) : Int) = (W : Int) * (((x + (W - s)) / W : Nat) : Int) + ((sh x : Nat) : Int) := by
      rw [← Int.natCast_mul, ← Int.natCast_add]
      exact congrArg Int.ofNat q.symm
    rw [Int.sub_mul, Int.one_mul, Int.mul_comm _ (W : Int)]
    omega
  have sh0 : sh (plY y 0) = 0 := by
    show (plY y 0 + (W - s)) % W = 0
    rw [hs_, show s + (W - s) = W by omega, Nat.mod_self]
  -- the places of the core
  have nd0 : 0 ∉ rs := fun m => ((hrs.2 0).mp m).1 rfl
  obtain ⟨j, hj, ej⟩ := digits_onto (W := W) (ws.length + rs.length) (ws.map (fun w => sh (hmY y w)) ++ rs.map fun r => sh (plY y r)) (by rw [List.length_append, List.length_map, List.length_map]) (fun d hd => by
    rcases List.mem_append.mp hd with m | m
    · obtain ⟨w, _, rfl⟩ := List.mem_map.mp m
      exact shlt _
    · obtain ⟨w, _, rfl⟩ := List.mem_map.mp m
      exact shlt _)
  refine ⟨j, hj, ?_⟩
  have et : (digits W (ws.length + rs.length) j).take ws.length = ws.map fun w => sh (hmY y w) := by
    rw [ej, List.take_append_of_le_length (by rw [List.length_map]; exact Nat.le_refl _), List.take_of_length_le (by rw [List.length_map]; exact Nat.le_refl _)]
  have ed : (digits W (ws.length + rs.length) j).drop ws.length = rs.map fun r => sh (plY y r) := by
    rw [ej, List.drop_append_of_le_length (by rw [List.length_map]; exact Nat.le_refl _), List.drop_of_length_le (by rw [List.length_map]; exact Nat.le_refl _), List.nil_append]
  obtain ⟨zk, zone⟩ := bestL_ok (p := p) (W := W) (ws := ws) (rs := rs) (L := L) (i := j) w2 w24
  have ehs : (bestL p W ws rs L j).homes = homesZ p.ws.length (ws.zip (ws.map fun w => sh (hmY y w))) := by
    show homesZ p.ws.length (ws.zip ((digits W (ws.length + rs.length) j).take ws.length)) = _
    rw [et]
  have zipat : ∀ (l : List Nat) (f : Nat → Nat), ∀ q ∈ l.zip (l.map f), f q.1 = q.2 := fun l f q hq => by
    obtain ⟨i, hi, e⟩ := List.mem_iff_getElem.mp hq
    rw [List.getElem_zip, List.getElem_map] at e
    rw [← e]
  have hz : ∀ w ∈ ws, hmY (bestL p W ws rs L j) w = sh (hmY y w) := fun w hw => by
    have wl := worths_lt g gk hws w hw
    have q := fold_set_is (hm := fun w => sh (hmY y w)) (w := w) (ws.zip (ws.map fun w => sh (hmY y w))) (List.replicate p.ws.length [0]) (zipat ws _) (by rw [List.length_replicate]; exact wl) (.inr (by rw [List.map_fst_zip (by rw [List.length_map]; exact Nat.le_refl _)]; exact hw))
    unfold hmY
    rw [ehs]
    show (((ws.zip (ws.map fun w => sh (hmY y w))).foldl (fun hs q => hs.set q.1 [q.2]) (List.replicate p.ws.length [0])).getD w []).headD 0 = _
    rw [q]
    rfl
  have used : ∀ e ∈ G, ∀ w, usesW (p.rows.getD e.1.1 .stop) = some w → w ∈ ws := fun e he w hw => (hws.2 w).mpr ⟨e.1.1, done_src gk e he, (usesW_at hw).1, (usesW_at hw).2⟩
  have zW : (bestL p W ws rs L j).wide = W := rfl
  -- the rows that are come to
  have srcs : ∀ e ∈ G, e.1.1 = 0 ∨ e.1.1 ∈ rs ∨ ∃ q ∈ L, q.2 = e.1.1 := gk.reach (fun x => x = 0 ∨ x ∈ rs ∨ ∃ q ∈ L, q.2 = x) (.inl rfl) fun e he h => by
    by_cases c0 : e.1.2 = 0
    · exact .inl c0
    · by_cases c1 : e.1.2 ∈ rs
      · exact .inr (.inl c1)
      · exact .inr (.inr ⟨e.1, lk.all e he h c0 c1, rfl⟩)
  have dsts : ∀ e ∈ G, e.1.2 = 0 ∨ e.1.2 ∈ rs ∨ ∃ q ∈ L, q.2 = e.1.2 := fun e he => by
    by_cases c0 : e.1.2 = 0
    · exact .inl c0
    · by_cases c1 : e.1.2 ∈ rs
      · exact .inr (.inl c1)
      · exact .inr (.inr ⟨e.1, lk.all e he (srcs e he) c0 c1, rfl⟩)
  have single : ∀ q ∈ L, ∀ e ∈ G, e.1.2 = q.2 → e.1.1 = q.1 := fun q hq e he c => by
    obtain ⟨m, n0, nr⟩ := lk.go q hq
    by_cases ne : e.1.1 = q.1
    · exact ne
    · refine absurd ((hrs.2 q.2).mpr ⟨n0, two_come (u := e.1.1) (r := q.1) gk.nd ?_ ?_ ne⟩) nr
      · exact List.mem_map.mpr ⟨e, he, Prod.ext rfl c⟩
      · exact m
  -- the places that it gives
  have first : ∀ x v, firstF (rs.zip (rs.map fun r => sh (plY y r))) x = some v → sh (plY y x) = v := fun x v e => by
    refine fold_put_is (pl := fun x => sh (plY y x)) _ _ (zipat rs _) (fun a b hab => ?_) x v e
    split at hab
    · rename_i c
      rw [c, sh0]
      exact Option.some.inj hab
    · cases hab
  have firstS : ∀ x, (x = 0 ∨ x ∈ rs) → (firstF (rs.zip (rs.map fun r => sh (plY y r))) x).isSome = true := fun x h => firstF_some (h.imp id fun m => by rw [List.map_fst_zip (by rw [List.length_map]; exact Nat.le_refl _)]; exact m)
  have ords : ∀ (i : Nat) (q : Nat × Nat), L[i]? = some q → (firstF (rs.zip (rs.map fun r => sh (plY y r))) q.1).isSome = true ∨ ∃ (j : Nat) (q' : Nat × Nat), j < i ∧ L[j]? = some q' ∧ q'.2 = q.1 := fun i q hq => by
    rcases lk.ord i q hq with h | h | h
    · exact .inl (firstS _ (.inl h))
    · exact .inl (firstS _ (.inr h))
    · exact .inr h
  have at_ : ∀ x, x < p.rows.length → (x = 0 ∨ x ∈ rs ∨ ∃ q ∈ L, q.2 = x) → plY (bestL p W ws rs L j) x = foldP W (hmY (bestL p W ws rs L j)) p.rows L (fun x => sh (plY y x)) x := fun x hx h => by
    have some_ : ∃ v, placesF (bestL p W ws rs L j).homes W p.rows L (firstF (rs.zip (rs.map fun r => sh (plY y r)))) x = some v := by
      refine Option.isSome_iff_exists.mp (placesF_some (f := fun _ => none) L _ ?_)
      rcases h with h | h | h
      · exact .inl (firstS _ (.inl h))
      · exact .inl (firstS _ (.inr h))
      · exact .inr h
    obtain ⟨v, hv⟩ := some_
    have q := placesF_is (hm := hmY (bestL p W ws rs L j)) L _ (fun x => sh (plY y x)) (fun q hq t => ?_) first ords x v hv
    · rw [q]
      show ((List.range p.rows.length).map fun x => ((placesF (homesZ p.ws.length (ws.zip ((digits W (ws.length + rs.length) j).take ws.length))) W p.rows L (firstF (rs.zip ((digits W (ws.length + rs.length) j).drop ws.length)))) x).getD 0).getD x 0 = v
      rw [List.getD_eq_getElem?_getD, List.getElem?_map, List.getElem?_range hx]
      show ((placesF (bestL p W ws rs L j).homes W p.rows L (firstF (rs.zip ((digits W (ws.length + rs.length) j).drop ws.length)))) x).getD 0 = v
      rw [ed, hv]
      rfl
    · have e := behind_bh (y := (⟨W, [], (bestL p W ws rs L j).homes⟩ : Lay)) (r := p.rows.getD q.1 .stop) (t := t) fun w hw => one_home (y := (⟨W, [], (bestL p W ws rs L j).homes⟩ : Lay)) zone (by show w < (bestL p W ws rs L j).homes.length; rw [zk.hl]; exact usesW_lt (row_ok g _) hw)
      exact e
  have eL : ∀ q ∈ L, ∃ e ∈ G, e.1 = q := fun q hq => by
    obtain ⟨e, he, e1⟩ := List.mem_map.mp (lk.go q hq).1
    exact ⟨e, he, e1⟩
  rw [beats_tot g zone zk.hl, beats_tot g one yk.hl, zW, hW]
  -- as many as the links make
  have z1 : tot W (hmY (bestL p W ws rs L j)) (plY (bestL p W ws rs L j)) p.rows G = tot W (hmY (bestL p W ws rs L j)) (foldP W (hmY (bestL p W ws rs L j)) p.rows L (fun x => sh (plY y x))) p.rows G := by
    refine tot_congr (at_ 0 (by have := g.r1; omega) (.inl rfl)) (fun e he => ⟨?_, ?_⟩) fun e he w hw => rfl
    · exact at_ _ (goes_lt g gk e he).1 (srcs e he)
    · exact at_ _ (goes_lt g gk e he).2 (dsts e he)
  have z2 : tot W (hmY (bestL p W ws rs L j)) (foldP W (hmY (bestL p W ws rs L j)) p.rows L (fun x => sh (plY y x))) p.rows G ≤ tot W (hmY (bestL p W ws rs L j)) (fun x => sh (plY y x)) p.rows G := by
    refine relax_all h0 (fun e he w hw => ?_) (fun e he => (gk.key e he).2.2.1) L _ (fun x => shlt _) fun q hq => ⟨(lk.go q hq).2.1, ?_, single q hq, ?_⟩
    · rw [hz w (used e he w hw)]
      exact shlt _
    · intro c
      have hq2 : ∀ e ∈ G, e.1.1 ≠ q.2 := gk.reach (fun x => x ≠ q.2) (fun z => (lk.go q hq).2.1 z.symm) fun e he ne z => ne (by rw [single q hq e he z]; exact c)
      obtain ⟨e, he, e1⟩ := eL q hq
      exact hq2 e he (by rw [e1]; exact c)
    · by_cases st : p.rows.getD q.2 .stop = .stop
      · have z : sumG (fun r => decide (r.1 = q.2)) G = 0 := by
          rw [sumG_one (g := fun _ => false) G fun e he => decide_eq_false fun c => by
            have t := (gk.key e he).2.1
            rw [c, st] at t
            cases t]
          exact sumG_none G
        rw [z]
        unfold sumG
        have nn : ∀ l : GoL, (∀ e ∈ l, 1 ≤ e.2) → 0 ≤ (l.map fun e => if decide (e.1.2 = q.2) = true then e.2 else 0).sum := by
          intro l
          induction l with
          | nil => intro _; exact Int.le_refl _
          | cons e l ih =>
            intro h
            rw [List.map_cons, List.sum_cons]
            have h1 := h e List.mem_cons_self
            have h2 := ih fun x hx => h x (List.mem_cons_of_mem _ hx)
            split <;> omega
        exact nn G fun e he => (gk.key e he).2.2.1
      · have f := gk.flow q.2 st
        rw [if_neg (lk.go q hq).2.1] at f
        omega
  have z3 : tot W (hmY (bestL p W ws rs L j)) (fun x => sh (plY y x)) p.rows G = tot W (fun w => sh (hmY y w)) (fun x => sh (plY y x)) p.rows G := tot_congr rfl (fun e he => ⟨rfl, rfl⟩) fun e he w hw => hz w (used e he w hw)
  have z4 : tot W (fun w => sh (hmY y w)) (fun x => sh (plY y x)) p.rows G ≤ tot W (hmY y) (plY y) p.rows G := by
    unfold tot
    dsimp only
    rw [sh0]
    have e : (G.map fun e => e.2 * cF W (fun w => sh (hmY y w)) (fun x => sh (plY y x)) p.rows e.1.1 e.1.2) = G.map fun e => e.2 * cF W (hmY y) (plY y) p.rows e.1.1 e.1.2 :=
      List.map_congr_left fun e he => by rw [cF_shift (c := -(s : Int)) (fun w _ => shk _) (shk _) (shk _)]
    rw [e]
    omega
  rw [z1]
  exact Int.le_trans z2 (Int.le_trans (Int.le_of_eq z3) z4)
end DL
namespace DL
open PySem L2 DLR
def spIsGoF : Sp := fun vs H Q _ => ∃ (a l : Addr) (bs : List Addr) (L : List (Nat × Nat)) (e : (Nat × Nat) × Int), vs = [.ref a, .ref l] ∧ H a = some (.tup (goVs e)) ∧ H l = some (.lst (bs.map V.ref)) ∧ PairsL H bs L ∧ e.2 < 1 ∧ ∀ H', Same1 H H' → Q (.bl false) H'
section
variable {P : Program} {w : World} {K : PySem.W.Frag} {mg : Str → Option Value} {base : Heap}
theorem ok_isGoF (c : FIsGo K mg) (cIsNumber : FIsNumber K mg) (T : Bt mg) : FnOk P w K mg base CX0 2 c.f c.fd ["go", "may_be"] spIsGoF := by
  have GIsNumber : FnOk P w K mg base CX0 1 cIsNumber.f cIsNumber.fd ["thing"] spNum := ok_isNumber cIsNumber T
  refine c.F.ok scIsGo (fun vs H Q E h => ?_) (fun cdv A outer s H vs Q E hr h => ?_)
  · obtain ⟨a, l, bs, L, e, rfl, _⟩ := h
    rfl
  · obtain ⟨a, l, bs, L, e, rfl, ha, hl, hL, h1, k⟩ := h
    refine ⟨_, (pss_cons (ps_if (PW.pt (pw_or (pt_not (pt_val (pe_callB call_isi (by rfl) T.isinstance (by decide +kernel) (pa_cons (pv 0) (pa_cons (pe_bltn (v := .ty "tuple") (by rfl) T.tuple (by decide +kernel) rfl) pa_nil))))) (pw_or (pt_cmpR op_ne (pe_callB call_len_seq (by rfl) T.len PySem.boot_len (pa_cons (pv 0) pa_nil)) pe_int (nomark _)) (pw_or1 (pt_not (pt_val (pe_callB (cr_all rfl) (by rfl) T.all (by decide +kernel) (pa_cons (pe_lc (own := [("thing", 2)]) (g := gName 2) (tt := tYes) rfl scIsGo.nd (pi_tup (pv 0)) (blkOk_by (N := nIsGo) (sc := defScope sIsGo) (by decide +kernel)) (fun _ _ _ _ _ => (pg_name (i := 2) scIsGo.nd rfl (Or.inl rfl))) (fun _ _ _ _ _ => pts_nil) (fun _ _ _ _ _ => (pe_call GIsNumber (hr.mono (by first | omega | decide)) (by rfl) cIsNumber.m cIsNumber.F.kp cIsNumber.b .nil pass0 (pa_cons (pv 2) pa_nil)))) pa_nil))))))))
          (pss_one (ps_ret pe_bl))
          pss_nil)
      (pss_one (ps_ret (pe_and (pe_cmpR (op_inD (in65 hr)) (pe_slice sl_tupS (pv 0) po_none (po_some pe_int)) (pv 1) rfl) (pe_one (pe_cmpR op_ge (pe_ix ix_tup (pv 0) pe_int (fun _ _ => rfl)) pe_int (nomark _))))))), ?_⟩
    refine ⟨_, rfl, _, _, _, _, true, rfl, .ty _, .base (.tup ha), kit_ty (by decide +kernel), _, rfl, ?_⟩
    refine iteF ⟨_, rfl, a, _, rfl, .inr (SqT.of ha), rfl, _, rfl, ?_⟩
    rw [show (!decide (V.int (((goVs e).length : Nat) : Int) = V.int 3)) = false from rfl]
    refine iteF ⟨_, rfl, a, rfl, ⟨_, SqT.of ha⟩, fun D hD => ?_⟩
    refine lc_tup (K := K) (a := a) (xs := goVs e) (fun i H' => H' D = some (.lst ((List.replicate i true).map V.bl)) ∧ Same1 H H') ⟨upd_same, Same.new hD⟩ (fun i H' _ ⟨_, q⟩ => SqT.of (q _ _ ha)) ?_ ?_
    · rintro i x H3 hi ⟨hd, s3⟩
      have hin : i < 3 := (List.getElem?_eq_some_iff.mp hi).1
      obtain ⟨z, rfl⟩ : ∃ z, x = V.int z := by
        match i, hin with
        | 0, _ => exact ⟨_, (Option.some.inj hi).symm⟩
        | 1, _ => exact ⟨_, (Option.some.inj hi).symm⟩
        | 2, _ => exact ⟨_, (Option.some.inj hi).symm⟩
      refine ⟨rfl, _, rfl, z, rfl, _, hd, szl (by rw [List.length_map, List.length_replicate]; omega), ?_, Same.mut s3 hD⟩
      rw [upd_same, List.replicate_succ', List.map_append]
      rfl
    · rintro H3 ⟨hd, s3⟩
      refine ⟨D, _, rfl, SqL.of hd, ?_⟩
      rw [show (List.replicate (goVs e).length true).all id = true by rw [List.all_eq_true]; intro x hx; rw [List.eq_of_mem_replicate hx]; rfl]
      refine ⟨_, rfl, iteF ?_⟩
      refine ⟨_, rfl, _, rfl, a, _, rfl, s3 _ _ ha, fun t H4 s4 e4 => ?_⟩
      have e4 : H4 t = some (.tup (pairVs e.1)) := e4
      have S4 := s3.trans s4
      refine ⟨_, rfl, pairD e.1, L.map pairD, pairD_at e4, .lst (SqL.of (S4 _ _ hl)) (pairsD_at (PairsL.kp hL (Kp.same S4))), pairD_shaped _, pairsD_shaped _, ?_⟩
      cases any : (L.map pairD).any fun z => PyData.eqv z (pairD e.1) with
      | false => exact ⟨_, rfl, iteF (k H4 S4)⟩
      | true =>
        refine ⟨_, rfl, iteT ?_⟩
        refine ⟨_, rfl, a, _, _, _, rfl, rfl, SqT.of (S4 _ _ ha), at2, _, _, rfl, rfl, ?_⟩
        have q := k H4 S4
        rw [← decide_eq_false (show ¬ e.2 ≥ 1 by omega)] at q
        exact q
end
end DL
namespace DL
open PySem PySem.Spec L2 DLR
section
variable {P : Program} {w : World} {K : PySem.W.Frag} {mg : Str → Option Value} {base : Heap}
theorem FnOk.or {CX : CXT} {k : Nat} {f : Addr} {fd : FuncData} {ps : List Str} {sp sq : Sp} (A : FnOk P w K mg base CX k f fd ps sp) (B : FnOk P w K mg base CX k f fd ps sq) : FnOk P w K mg base CX k f fd ps (fun vs H Q E => sp vs H Q E ∨ sq vs H Q E) :=
  ⟨fun vs H Q E h => h.elim (A.len vs H Q E) (B.len vs H Q E), fun Ar outer s H args us vs Q E r e b v h => h.elim (A.run Ar outer s H args us vs Q E r e b v) (B.run Ar outer s H args us vs Q E r e b v)⟩
theorem FnOk.toX {k : Nat} {f : Addr} {fd : FuncData} {ps : List Str} {sp : Sp} (A : FnOk P w K mg base CX0 k f fd ps sp) : FnOk P w K mg base (L2.CX P w) k f fd ps sp := by
  refine ⟨A.len, fun Ar outer s H args us vs Q E r e b v h => codeAny_mono (A.run Ar outer s H args us vs Q E r e b v h) fun r s' hr => ?_⟩
  match r, hr with
  | .ok (.ret u), hr => exact hr
  | .error e, hr => exact False.elim hr
def spCheckGoesB (BG : Addr) : Sp := fun vs H Q E => ∃ (a l b : Addr) (bs : List Addr) (p : Prog) (G : GoL) (e : (Nat × Nat) × Int), vs = [.ref a, .ref l] ∧ ProgAt H a p ∧ Good p ∧ H l = some (.lst ((bs ++ [b]).map V.ref)) ∧ GoesAt H bs G ∧ Goes p G ∧ G.length < 60 ∧ H b = some (.tup (goVs e)) ∧ e.2 < 1 ∧ ∀ H', Same1 H H' → E (.ref BG) none H'
theorem ok_checkGoesB {BG : Addr} (ov : OvK K BG) (mBG : mg "BadGoes" = some (.ref BG)) (c : FCheckGoes K mg) (cGoesThatMayBe : FGoesMay K mg) (cIsGo : FIsGo K mg) (cGoesAgree : FGoesAgree K mg) (cRowsFound : FRowsFound K mg) (T : Bt mg) (TS : Bs mg)
    (GGoesThatMayBe : FnOk P w K mg base CX0 4 cGoesThatMayBe.f cGoesThatMayBe.fd ["program"] spGoesMay) (GIsGo : FnOk P w K mg base CX0 2 cIsGo.f cIsGo.fd ["go", "may_be"] (fun vs H Q E => spIsGo vs H Q E ∨ spIsGoF vs H Q E)) : FnOk P w K mg base (L2.CX P w) 5 c.f c.fd ["program", "goes"] (spCheckGoesB BG) := by
  have GGoesAgree : FnOk P w K mg base CX0 1 cGoesAgree.f cGoesAgree.fd ["program", "goes"] spGoesAgree := ok_goesAgree cGoesAgree T
  have GRowsFound : FnOk P w K mg base CX0 1 cRowsFound.f cRowsFound.fd ["pairs"] spRowsFound := ok_rowsFound cRowsFound
  refine c.F.okX scCheckGoes (fun vs H Q E h => ?_) (fun cdv A outer s H vs Q E hr h => ?_)
  · obtain ⟨a, l, b, bs, p, G, e, rfl, _⟩ := h
    rfl
  · obtain ⟨a, l, b, bs, p, G, e, rfl, hP, g, hl, hG, gk, g60, hb, he, k⟩ := h
    refine ⟨_, pss_cons (ps_set (i := 2) scCheckGoes.nd rfl (Or.inr rfl) (pe_call GGoesThatMayBe (hr.mono (by first | omega | decide)) (by rfl) cGoesThatMayBe.m cGoesThatMayBe.F.kp cGoesThatMayBe.b .nil pass0 (pa_cons (pv 0) pa_nil))) (pss_cons (ps_if (pt_not (pt_val (pe_callB (cr_all rfl) (by rfl) T.all (by decide +kernel) (pa_cons (pe_lc (own := [("go", 3)]) (g := gName 3) (tt := tYes) rfl scCheckGoes.nd (pi_list (pv 1)) (blkOk_by (N := nCheckGoes) (sc := defScope sCheckGoes) (by decide +kernel)) (fun _ _ _ _ _ => (pg_name (i := 3) scCheckGoes.nd rfl (Or.inl rfl))) (fun _ _ _ _ _ => pts_nil) (fun _ _ _ _ _ => (pe_call GIsGo (hr.mono (by first | omega | decide)) (by rfl) cIsGo.m cIsGo.F.kp cIsGo.b .nil pass0 (pa_cons (pv 3) (pa_cons (pv 2) pa_nil))))) pa_nil))))
          (pss_one (ps_raise rfl (takes_of rfl rfl rfl rfl) (pmk_own PySem.F.excBase_ValueError ov.x mBG ov.k (raises_own ov.b ov.t) rfl)))
          pss_nil) (PSs.nox (pss_cons (ps_setLc (i := 4) (own := [("go", 3)]) (g := gName 3) (tt := tYes) rfl scCheckGoes.nd rfl rfl (sw_true rfl rfl rfl (by decide +kernel)) (pi_list (pv 1)) (blkOk_by (N := nCheckGoes) (sc := defScope sCheckGoes) (by decide +kernel)) (fun _ _ _ _ _ => (pg_name (i := 3) scCheckGoes.nd rfl (Or.inl rfl))) (fun _ _ _ _ _ => pts_nil) (fun _ _ _ _ _ => (pe_slice sl_tupS (pv 3) po_none (po_some pe_int))))
      (pss_cons (ps_if (pt_cmpR op_ne (pe_lenSetP rfl (in64 hr) (by rfl) T.len (by rfl) TS.set (pv 4)) (pe_callB call_len_seq (by rfl) T.len PySem.boot_len (pa_cons (pv 4) pa_nil)) (nomark _))
          (pss_one ps_never)
          pss_nil)
      (pss_cons (ps_if (pt_not (pt_val (pe_call GGoesAgree (hr.mono (by first | omega | decide)) (by rfl) cGoesAgree.m cGoesAgree.F.kp cGoesAgree.b .nil pass0 (pa_cons (pv 0) (pa_cons (pv 1) pa_nil)))))
          (pss_one ps_never)
          pss_nil)
      (pss_cons (ps_set (i := 5) scCheckGoes.nd rfl (Or.inr rfl) (pe_call GRowsFound (hr.mono (by first | omega | decide)) (by rfl) cRowsFound.m cRowsFound.F.kp cRowsFound.b .nil pass0 (pa_cons (pv 4) pa_nil)))
      (pss_one (ps_if (pt_not (pt_val (pe_callB (cr_all rfl) (by rfl) T.all (by decide +kernel) (pa_cons (pe_lc (own := [("begin", 6), ("_", 7)]) (g := gTup K 2 (gCons (gName 6) (gCons (gName 7) gNil))) (tt := tYes) rfl scCheckGoes.nd (pi_list (pv 4)) (blkOk_by (N := nCheckGoes) (sc := defScope sCheckGoes) (by decide +kernel)) (fun _ _ _ _ _ => (pg_tupK K rfl rfl (pgs_cons (pg_name (i := 6) scCheckGoes.nd rfl (Or.inl rfl)) (pgs_cons (pg_name (i := 7) scCheckGoes.nd rfl (Or.inl rfl)) pgs_nil)))) (fun _ _ _ _ _ => pts_nil) (fun _ _ _ _ _ => (pe_cmp (pc_din (hu_of hr) (pv 6) (pv 5))))) pa_nil))))
          (pss_one ps_never)
          pss_nil)))))))), ?_⟩
    have hG' : GoesAt H (bs ++ [b]) (G ++ [e]) := Paired.app hG (Paired.one hb)
    have hbl := Paired.length hG'
    have hbl0 := Paired.length hG
    have hlen : (G ++ [e]).length = G.length + 1 := List.length_append
    have hr40 := g.r40
    refine ⟨_, rfl, a, p, rfl, hP, g, fun m ms H1 s1 nm e1 hM => ?_⟩
    refine ⟨_, rfl, l, rfl, ⟨_, SqL.of (s1 _ _ hl)⟩, fun D2 hD2 => ?_⟩
    refine lc_list (K := K) (a := l) (xs := (bs ++ [b]).map V.ref) (fun i H' => Same1 H1 H' ∧ H' D2 = some (.lst (((List.range i).map fun j => decide (j < G.length)).map V.bl))) ⟨Same.new hD2, upd_same⟩ (fun i H' _ ⟨q, _⟩ => SqL.of (q _ _ (s1 _ _ hl))) ?_ ?_
    · rintro i x H3 hi ⟨s3, hd3⟩
      have hic : i < (bs ++ [b]).length := by
        have q := (List.getElem?_eq_some_iff.mp hi).1
        rwa [List.length_map] at q
      have ex : x = .ref (bs ++ [b])[i] := by
        rw [List.getElem?_map, List.getElem?_eq_getElem hic] at hi
        exact (Option.some.inj hi).symm
      subst ex
      obtain ⟨z, hq1, hq2⟩ := Paired.get hG' (List.getElem?_eq_getElem hic)
      have done_ : ∀ (v : Bool), v = decide (i < G.length) → ∀ H4, Same1 H3 H4 → ∃ acc, H4 D2 = some (HO.lst acc) ∧ acc.length < sizeLine ∧ Same1 H1 (upd H4 D2 (.lst (acc ++ [.bl v]))) ∧ (upd H4 D2 (.lst (acc ++ [.bl v]))) D2 = some (.lst (((List.range (i + 1)).map fun j => decide (j < G.length)).map V.bl)) := by
        intro v hv H4 s4
        refine ⟨_, s4 _ _ hd3, szl (by rw [List.length_map, List.length_map, List.length_range]; omega), Same.mut (s3.trans s4) hD2, ?_⟩
        rw [upd_same, List.range_succ, List.map_append, List.map_append, hv]
        rfl
      rcases Nat.lt_or_ge i G.length with lt | ge
      · rw [List.getElem?_append_left lt] at hq1
        obtain ⟨k1, k2, k3, k4⟩ := gk.key _ (List.mem_of_getElem? hq1)
        refine ⟨rfl, _, rfl, _, rfl, .inl ⟨(bs ++ [b])[i], m, ms, _, z, rfl, (s1.trans s3) _ _ hq2, s3 _ _ e1, PairsL.kp hM (Kp.same s3), goesN_has k1 k2, k3, fun H4 s4 => ?_⟩⟩
        exact done_ true (decide_eq_true lt).symm H4 s4
      · have ei : i = G.length := by omega
        subst ei
        rw [List.getElem?_append_right (Nat.le_refl _), Nat.sub_self] at hq1
        have ez : e = z := Option.some.inj hq1
        subst ez
        refine ⟨rfl, _, rfl, _, rfl, .inr ⟨(bs ++ [b])[G.length], m, ms, _, e, rfl, (s1.trans s3) _ _ hq2, s3 _ _ e1, PairsL.kp hM (Kp.same s3), he, fun H4 s4 => ?_⟩⟩
        exact done_ false (decide_eq_false (Nat.lt_irrefl _)).symm H4 s4
    rintro H3 ⟨s3, hd3⟩
    refine ⟨D2, _, rfl, SqL.of hd3, ?_⟩
    have al : (((List.range ((bs ++ [b]).map V.ref).length).map fun j => decide (j < G.length))).all id = false := by
      rw [List.length_map, hbl, hlen, List.range_succ, List.map_append, List.all_append]
      show (_ && (decide (G.length < G.length) && true)) = false
      rw [decide_eq_false (Nat.lt_irrefl _)]
      simp
    rw [al]
    refine ⟨_, rfl, iteT ?_⟩
    exact k H3 (s1.trans s3)
end
end DL
namespace DL
open PySem PySem.Spec L2 DLR
section
variable {P : Program} {w : World} {K : PySem.W.Frag} {mg : Str → Option Value} {base : Heap}
def spCheckWGB (BG : Addr) : Sp := fun vs H Q E => ∃ (a l b : Addr) (bs : List Addr) (p : Prog) (W : Nat) (G : GoL) (e : (Nat × Nat) × Int), vs = [.ref a, nI W, .ref l] ∧ ProgAt H a p ∧ Good p ∧ 2 ≤ W ∧ W ≤ 24 ∧ H l = some (.lst ((bs ++ [b]).map V.ref)) ∧ GoesAt H bs G ∧ Goes p G ∧ G.length < 60 ∧ H b = some (.tup (goVs e)) ∧ e.2 < 1 ∧ ∀ H', Same1 H H' → E (.ref BG) none H'
theorem ok_checkWGB {BG : Addr} (c : FCheckWG K mg) (cCheckProgram : FCheckProgram K mg) (cCheckWide : FCheckWide K mg) (cCheckGoes : FCheckGoes K mg)
    (GCheckProgram : FnOk P w K mg base CX0 4 cCheckProgram.f cCheckProgram.fd ["program"] spCheckProgram) (GCheckWide : FnOk P w K mg base CX0 3 cCheckWide.f cCheckWide.fd ["wide"] spCheckWide)
    (GB : FnOk P w K mg base (L2.CX P w) 5 cCheckGoes.f cCheckGoes.fd ["program", "goes"] (spCheckGoesB BG)) : FnOk P w K mg base (L2.CX P w) 6 c.f c.fd ["program","wide","goes"] (spCheckWGB BG) := by
  refine c.F.okX scCheckWG (fun vs H Q E h => ?_) (fun cdv A outer s H vs Q E hr h => ?_)
  · obtain ⟨a, l, b, bs, p, W, G, e, rfl, _⟩ := h
    rfl
  · obtain ⟨a, l, b, bs, p, W, G, e, rfl, hP, g, w2, w24, hl, hG, gk, g60, hb, he, k⟩ := h
    refine ⟨_, pss_cons (ps_expr (pe_call GCheckProgram (hr.mono (by first | omega | decide)) (by rfl) cCheckProgram.m cCheckProgram.F.kp cCheckProgram.b .nil pass0 (pa_cons (pv 0) pa_nil))) (pss_cons (ps_expr (pe_call GCheckWide (hr.mono (by first | omega | decide)) (by rfl) cCheckWide.m cCheckWide.F.kp cCheckWide.b .nil pass0 (pa_cons (pv 1) pa_nil))) (pss_one (ps_expr (pe_call GB (hr.mono (by first | omega | decide)) (by rfl) cCheckGoes.m cCheckGoes.F.kp cCheckGoes.b .nil (L2.passes_call (takes_of rfl rfl rfl rfl) (fun _ _ _ _ h => h)) (pa_cons (pv 0) (pa_cons (pv 2) pa_nil)))))), ?_⟩
    refine ⟨_, rfl, a, p, rfl, hP, g, fun H1 s1 => ?_⟩
    refine ⟨_, rfl, (W : Int), rfl, by omega, by omega, ?_⟩
    exact ⟨_, rfl, _, rfl, a, l, b, bs, p, G, e, rfl, hP.kp (Kp.same s1), g, s1 _ _ hl, hG.kp (Kp.same s1), gk, g60, s1 _ _ hb, he, fun H2 s2 => k H2 (s1.trans s2)⟩
def spBestB (BG : Addr) : Sp := spCheckWGB BG
def spBestT (TM : Addr) : Sp := fun vs H Q E => ∃ (a l : Addr) (bs : List Addr) (p : Prog) (W : Nat) (G : GoL), vs = [.ref a, nI W, .ref l] ∧ ProgAt H a p ∧ Good p ∧ 2 ≤ W ∧ W ≤ 24 ∧ H l = some (.lst (bs.map V.ref)) ∧ GoesAt H bs G ∧ Goes p G ∧ G.length < 60 ∧
  (∀ ws rs, WorthsOf p G ws → RowsOf G rs → 5000 < W ^ (ws.length + rs.length)) ∧ ∀ H', Same1 H H' → E (.ref TM) none H'
theorem ok_bestB {BG : Addr} (c : FBest K mg) (cCheckWG : FCheckWG K mg) (cCoreW : FCoreW K mg) (cCoreR : FCoreR K mg) (cCores : FCores K mg) (cCoreP : FCoreP K mg) (cHomesOf : FHomesOf K mg) (cRowsAt : FRowsAt K mg) (cLinks : FLinks K mg) (cLaid : FLaid K mg) (cBeatsBy : FBeatsBy K mg) (T : Bt mg) (TM : Bm mg) (CB : Cb mg)
    (GWB : FnOk P w K mg base (L2.CX P w) 6 cCheckWG.f cCheckWG.fd ["program","wide","goes"] (spCheckWGB BG)) (GCoreW : FnOk P w K mg base CX0 2 cCoreW.f cCoreW.fd ["program","goes"] spCoreW)
    (GLaid : FnOk P w K mg base CX0 5 cLaid.f cLaid.fd ["program","wide","laid_first","homes","links"] spLaid) (GBeatsBy : FnOk P w K mg base CX0 6 cBeatsBy.f cBeatsBy.fd ["program", "laying", "goes"] spBeats) : FnOk P w K mg base (L2.CX P w) 7 c.f c.fd ["program","wide","goes"] (spBestB BG) := by
  have GCoreR : FnOk P w K mg base CX0 1 cCoreR.f cCoreR.fd ["goes"] spCoreR := ok_coreR cCoreR T
  have GCores : FnOk P w K mg base CX0 1 cCores.f cCores.fd ["wide","things"] spCores := ok_cores cCores T
  have GCoreP : FnOk P w K mg base CX0 1 cCoreP.f cCoreP.fd ["number","wide","things"] spCoreP := ok_coreP cCoreP T
  have GHomesOf : FnOk P w K mg base CX0 1 cHomesOf.f cHomesOf.fd ["program","worths","places"] spHomesOf := ok_homesOf cHomesOf T
  have GRowsAt : FnOk P w K mg base CX0 1 cRowsAt.f cRowsAt.fd ["rows","places"] spRowsAt := ok_rowsAt cRowsAt T
  have GLinks : FnOk P w K mg base CX0 1 cLinks.f cLinks.fd ["goes","rows"] spLinks := ok_links cLinks
  refine c.F.okX scBest (fun vs H Q E h => ?_) (fun cdv A outer s H vs Q E hr h => ?_)
  · obtain ⟨a, l, b, bs, p, W, G, e, rfl, _⟩ := h
    rfl
  · obtain ⟨a, l, b, bs, p, W, G, e, rfl, h⟩ := h
    refine ⟨_, pss_cons (ps_expr (pe_call GWB (hr.mono (by first | omega | decide)) (by rfl) cCheckWG.m cCheckWG.F.kp cCheckWG.b .nil (L2.passes_call (takes_of rfl rfl rfl rfl) (fun _ _ _ _ h => h)) (pa_cons (pv 0) (pa_cons (pv 1) (pa_cons (pv 2) pa_nil))))) (PSs.nox (pss_cons (ps_set (i := 3) scBest.nd rfl (Or.inl rfl) (pe_call GCoreW (hr.mono (by first | omega | decide)) (by rfl) cCoreW.m cCoreW.F.kp cCoreW.b .nil pass0 (pa_cons (pv 0) (pa_cons (pv 2) pa_nil))))
      (pss_cons (ps_set (i := 4) scBest.nd rfl (Or.inl rfl) (pe_call GCoreR (hr.mono (by first | omega | decide)) (by rfl) cCoreR.m cCoreR.F.kp cCoreR.b .nil pass0 (pa_cons (pv 2) pa_nil)))
      (pss_cons (ps_set (i := 5) scBest.nd rfl (Or.inl rfl) (pe_call GCores (hr.mono (by first | omega | decide)) (by rfl) cCores.m cCores.F.kp cCores.b .nil pass0 (pa_cons (pv 1) (pa_cons (pe_op op_add (pe_callB call_len_seq (by rfl) T.len PySem.boot_len (pa_cons (pv 3) pa_nil)) (pe_callB call_len_seq (by rfl) T.len PySem.boot_len (pa_cons (pv 4) pa_nil))) pa_nil))))
      (pss_cons (ps_if (pt_cmpR op_gt (pv 5) (pe_glob rfl CB.m5 relI) (nomark _))
          (pss_one ps_never)
          pss_nil)
      (pss_cons (ps_set (i := 6) scBest.nd rfl (Or.inl rfl) (pe_call GLinks (hr.mono (by first | omega | decide)) (by rfl) cLinks.m cLinks.F.kp cLinks.b .nil pass0 (pa_cons (pv 2) (pa_cons (pv 4) pa_nil))))
      (pss_cons (ps_set (i := 7) scBest.nd rfl (Or.inl rfl) (pe_lst pa_nil))
      (pss_cons (ps_for PassesOwn.never rfl (pi_range1 rfl T.range (pa_cons (pv 5) pa_nil)) (pg_name (i := 8) scBest.nd rfl (Or.inl rfl))
          (pss_cons (ps_set (i := 9) scBest.nd rfl (Or.inl rfl) (pe_call GCoreP (hr.mono (by first | omega | decide)) (by rfl) cCoreP.m cCoreP.F.kp cCoreP.b .nil pass0 (pa_cons (pv 8) (pa_cons (pv 1) (pa_cons (pe_op op_add (pe_callB call_len_seq (by rfl) T.len PySem.boot_len (pa_cons (pv 3) pa_nil)) (pe_callB call_len_seq (by rfl) T.len PySem.boot_len (pa_cons (pv 4) pa_nil))) pa_nil)))))
          (pss_cons (ps_set (i := 10) scBest.nd rfl (Or.inl rfl) (pe_call GHomesOf (hr.mono (by first | omega | decide)) (by rfl) cHomesOf.m cHomesOf.F.kp cHomesOf.b .nil pass0 (pa_cons (pv 0) (pa_cons (pv 3) (pa_cons (pe_slice sl_list (pv 9) po_none (po_some (pe_callB call_len_seq (by rfl) T.len PySem.boot_len (pa_cons (pv 3) pa_nil)))) pa_nil)))))
          (pss_cons (ps_set (i := 11) scBest.nd rfl (Or.inl rfl) (pe_call GLaid (hr.mono (by first | omega | decide)) (by rfl) cLaid.m cLaid.F.kp cLaid.b .nil pass0 (pa_cons (pv 0) (pa_cons (pv 1) (pa_cons (pe_call GRowsAt (hr.mono (by first | omega | decide)) (by rfl) cRowsAt.m cRowsAt.F.kp cRowsAt.b .nil pass0 (pa_cons (pv 4) (pa_cons (pe_slice sl_list (pv 9) (po_some (pe_callB call_len_seq (by rfl) T.len PySem.boot_len (pa_cons (pv 3) pa_nil))) po_none) pa_nil))) (pa_cons (pv 10) (pa_cons (pv 6) pa_nil)))))))
          (pss_one (ps_expr (pe_bm PySem.F.plainAttrs_list PySem.F.slot_list_append PySem.F.type_list_append mt_append (pv 7) (pa_cons (pe_tup (pa_cons (pe_call GBeatsBy (hr.mono (by first | omega | decide)) (by rfl) cBeatsBy.m cBeatsBy.F.kp cBeatsBy.b .nil pass0 (pa_cons (pv 0) (pa_cons (pv 11) (pa_cons (pv 2) pa_nil)))) (pa_cons (pv 11) pa_nil))) pa_nil))))))))
      (pss_one (ps_ret (pe_callB (DLR.cr_minD rfl (in64 hr)) (by rfl) TM.min (by decide +kernel) (pa_cons (pv 7) pa_nil)))))))))))), ?_⟩
    exact ⟨_, rfl, _, rfl, _, rfl, a, l, b, bs, p, W, G, e, rfl, h⟩
theorem ok_bestT {TMA : Addr} (ov : OvK K TMA) (mTM : mg "TooMany" = some (.ref TMA)) (c : FBest K mg) (cCheckWG : FCheckWG K mg) (cCoreW : FCoreW K mg) (cCoreR : FCoreR K mg) (cCores : FCores K mg) (cCoreP : FCoreP K mg) (cHomesOf : FHomesOf K mg) (cRowsAt : FRowsAt K mg) (cLinks : FLinks K mg) (cLaid : FLaid K mg) (cBeatsBy : FBeatsBy K mg) (T : Bt mg) (TM : Bm mg) (CB : Cb mg)
    (GCheckWG : FnOk P w K mg base CX0 6 cCheckWG.f cCheckWG.fd ["program","wide","goes"] spCheckWG) (GCoreW : FnOk P w K mg base CX0 2 cCoreW.f cCoreW.fd ["program","goes"] spCoreW)
    (GLaid : FnOk P w K mg base CX0 5 cLaid.f cLaid.fd ["program","wide","laid_first","homes","links"] spLaid) (GBeatsBy : FnOk P w K mg base CX0 6 cBeatsBy.f cBeatsBy.fd ["program", "laying", "goes"] spBeats) : FnOk P w K mg base (L2.CX P w) 7 c.f c.fd ["program","wide","goes"] (spBestT TMA) := by
  have GCoreR : FnOk P w K mg base CX0 1 cCoreR.f cCoreR.fd ["goes"] spCoreR := ok_coreR cCoreR T
  have GCores : FnOk P w K mg base CX0 1 cCores.f cCores.fd ["wide","things"] spCores := ok_cores cCores T
  have GCoreP : FnOk P w K mg base CX0 1 cCoreP.f cCoreP.fd ["number","wide","things"] spCoreP := ok_coreP cCoreP T
  have GHomesOf : FnOk P w K mg base CX0 1 cHomesOf.f cHomesOf.fd ["program","worths","places"] spHomesOf := ok_homesOf cHomesOf T
  have GRowsAt : FnOk P w K mg base CX0 1 cRowsAt.f cRowsAt.fd ["rows","places"] spRowsAt := ok_rowsAt cRowsAt T
  have GLinks : FnOk P w K mg base CX0 1 cLinks.f cLinks.fd ["goes","rows"] spLinks := ok_links cLinks
  refine c.F.okX scBest (fun vs H Q E h => ?_) (fun cdv A outer s H vs Q E hr h => ?_)
  · obtain ⟨a, l, bs, p, W, G, rfl, _⟩ := h
    rfl
  · obtain ⟨a, l, bs, p, W, G, rfl, hP, g, w2, w24, hl, hG, gk, g60, c5, k⟩ := h
    have r40 := g.r40
    have w8 := g.w8
    refine ⟨_, pss_cons (ps_expr (pe_call GCheckWG (hr.mono (by first | omega | decide)) (by rfl) cCheckWG.m cCheckWG.F.kp cCheckWG.b .nil pass0 (pa_cons (pv 0) (pa_cons (pv 1) (pa_cons (pv 2) pa_nil))))) (pss_cons (ps_set (i := 3) scBest.nd rfl (Or.inl rfl) (pe_call GCoreW (hr.mono (by first | omega | decide)) (by rfl) cCoreW.m cCoreW.F.kp cCoreW.b .nil pass0 (pa_cons (pv 0) (pa_cons (pv 2) pa_nil)))) (pss_cons (ps_set (i := 4) scBest.nd rfl (Or.inl rfl) (pe_call GCoreR (hr.mono (by first | omega | decide)) (by rfl) cCoreR.m cCoreR.F.kp cCoreR.b .nil pass0 (pa_cons (pv 2) pa_nil))) (pss_cons (ps_set (i := 5) scBest.nd rfl (Or.inl rfl) (pe_call GCores (hr.mono (by first | omega | decide)) (by rfl) cCores.m cCores.F.kp cCores.b .nil pass0 (pa_cons (pv 1) (pa_cons (pe_op op_add (pe_callB call_len_seq (by rfl) T.len PySem.boot_len (pa_cons (pv 3) pa_nil)) (pe_callB call_len_seq (by rfl) T.len PySem.boot_len (pa_cons (pv 4) pa_nil))) pa_nil)))) (pss_cons (ps_if (pt_cmpR op_gt (pv 5) (pe_glob rfl CB.m5 relI) (nomark _))
          (pss_one (ps_raise rfl (takes_of rfl rfl rfl rfl) (pmk_own PySem.F.excBase_ValueError ov.x mTM ov.k (raises_own ov.b ov.t) rfl)))
          pss_nil) (PSs.nox (pss_cons (ps_set (i := 6) scBest.nd rfl (Or.inl rfl) (pe_call GLinks (hr.mono (by first | omega | decide)) (by rfl) cLinks.m cLinks.F.kp cLinks.b .nil pass0 (pa_cons (pv 2) (pa_cons (pv 4) pa_nil))))
      (pss_cons (ps_set (i := 7) scBest.nd rfl (Or.inl rfl) (pe_lst pa_nil))
      (pss_cons (ps_for PassesOwn.never rfl (pi_range1 rfl T.range (pa_cons (pv 5) pa_nil)) (pg_name (i := 8) scBest.nd rfl (Or.inl rfl))
          (pss_cons (ps_set (i := 9) scBest.nd rfl (Or.inl rfl) (pe_call GCoreP (hr.mono (by first | omega | decide)) (by rfl) cCoreP.m cCoreP.F.kp cCoreP.b .nil pass0 (pa_cons (pv 8) (pa_cons (pv 1) (pa_cons (pe_op op_add (pe_callB call_len_seq (by rfl) T.len PySem.boot_len (pa_cons (pv 3) pa_nil)) (pe_callB call_len_seq (by rfl) T.len PySem.boot_len (pa_cons (pv 4) pa_nil))) pa_nil)))))
          (pss_cons (ps_set (i := 10) scBest.nd rfl (Or.inl rfl) (pe_call GHomesOf (hr.mono (by first | omega | decide)) (by rfl) cHomesOf.m cHomesOf.F.kp cHomesOf.b .nil pass0 (pa_cons (pv 0) (pa_cons (pv 3) (pa_cons (pe_slice sl_list (pv 9) po_none (po_some (pe_callB call_len_seq (by rfl) T.len PySem.boot_len (pa_cons (pv 3) pa_nil)))) pa_nil)))))
          (pss_cons (ps_set (i := 11) scBest.nd rfl (Or.inl rfl) (pe_call GLaid (hr.mono (by first | omega | decide)) (by rfl) cLaid.m cLaid.F.kp cLaid.b .nil pass0 (pa_cons (pv 0) (pa_cons (pv 1) (pa_cons (pe_call GRowsAt (hr.mono (by first | omega | decide)) (by rfl) cRowsAt.m cRowsAt.F.kp cRowsAt.b .nil pass0 (pa_cons (pv 4) (pa_cons (pe_slice sl_list (pv 9) (po_some (pe_callB call_len_seq (by rfl) T.len PySem.boot_len (pa_cons (pv 3) pa_nil))) po_none) pa_nil))) (pa_cons (pv 10) (pa_cons (pv 6) pa_nil)))))))
          (pss_one (ps_expr (pe_bm PySem.F.plainAttrs_list PySem.F.slot_list_append PySem.F.type_list_append mt_append (pv 7) (pa_cons (pe_tup (pa_cons (pe_call GBeatsBy (hr.mono (by first | omega | decide)) (by rfl) cBeatsBy.m cBeatsBy.F.kp cBeatsBy.b .nil pass0 (pa_cons (pv 0) (pa_cons (pv 11) (pa_cons (pv 2) pa_nil)))) (pa_cons (pv 11) pa_nil))) pa_nil))))))))
      (pss_one (ps_ret (pe_callB (DLR.cr_minD rfl (in64 hr)) (by rfl) TM.min (by decide +kernel) (pa_cons (pv 7) pa_nil)))))))))))), ?_⟩
    refine ⟨_, rfl, _, rfl, _, rfl, a, l, bs, p, W, G, rfl, hP, g, w2, w24, hl, hG, gk, g60, fun H1 s1 => ?_⟩
    refine ⟨_, rfl, _, rfl, a, l, bs, p, G, rfl, hP.kp (Kp.same s1), g, s1 _ _ hl, hG.kp (Kp.same s1), gk, g60, fun wl ws H2 s2 _ e2 hws => ?_⟩
    have S2 := s1.trans s2
    refine ⟨_, rfl, l, bs, G, rfl, S2 _ _ hl, hG.kp (Kp.same S2), g60, fun rl rs H3 s3 _ e3 hrs => ?_⟩
    have S3 := S2.trans s3
    have f2 := s3 _ _ e2
    have c5 := c5 ws rs hws hrs
    have wlt := worths_lt g gk hws
    have rlt := rows_lt g gk hrs
    have wsl := lenLe (hws.1.imp fun {a b} h => Nat.ne_of_lt h) wlt
    have rsl := lenLe (hrs.1.imp fun {a b} h => Nat.ne_of_lt h) rlt
    refine ⟨_, rfl, _, rfl, wl, _, rfl, .inl (SqL.of f2), _, rfl, rl, _, rfl, .inl (SqL.of e3), _, _, rfl, rfl, W, ws.length + rs.length, by rw [List.length_map, List.length_map]; rfl, by omega, by omega, ?_⟩
    refine ⟨_, rfl, _, _, rfl, rfl, _, rfl, ?_⟩
    rw [show decide ((5000 : Int) < ((W ^ (ws.length + rs.length) : Nat) : Int)) = true from decide_eq_true (by omega)]
    exact iteT (k H3 S3)
end
end DL
namespace DL
open PySem L2 DLR
/-! ### the rows that are done are row 0 and those come to -/
theorem same_len {α : Type} [DecidableEq α] {l m : List α} (h1 : l.Nodup) (h2 : m.Nodup) (h : ∀ x, x ∈ l ↔ x ∈ m) : l.length = m.length :=
  Nat.le_antisymm (nodup_sub h1 fun x hx => (h x).mp hx) (nodup_sub h2 fun x hx => (h x).mpr hx)
end DL
namespace DL
open PySem L2 DLR
/-! ### a drum that turns -/
structure Uk (K : Frg) (mg : Str → Option Value) (C : Addr) : Prop where
  cl : Cls K C
  nR : NoAttr K C "rows"
  nL : NoAttr K C "laying"
  nD : NoAttr K C "desk"
  nW : NoAttr K C "row"
  nN : NoAttr K C "now"
  m : mg "Drum" = some (.ref C)
abbrev gR : Str := "rows"
abbrev gL : Str := "laying"
abbrev gD : Str := "desk"
abbrev gW : Str := "row"
abbrev gN : Str := "now"
theorem g_RL : gR ≠ gL := by decide +kernel
theorem g_RD : gR ≠ gD := by decide +kernel
theorem g_RW : gR ≠ gW := by decide +kernel
theorem g_RN : gR ≠ gN := by decide +kernel
theorem g_LD : gL ≠ gD := by decide +kernel
theorem g_LW : gL ≠ gW := by decide +kernel
theorem g_LN : gL ≠ gN := by decide +kernel
theorem g_DW : gD ≠ gW := by decide +kernel
theorem g_DN : gD ≠ gN := by decide +kernel
theorem g_WN : gW ≠ gN := by decide +kernel
structure DrumF (fs : List (Str × V)) (ra la ad : Addr) (here : Option Nat) (now : Int) : Prop where
  len : fs.length ≤ 100
  r : fs.lookup gR = some (.ref ra)
  l : fs.lookup gL = some (.ref la)
  d : fs.lookup gD = some (.ref ad)
  w : fs.lookup gW = some (oV here)
  n : fs.lookup gN = some (.int now)
  o : ∀ x, x ≠ gR → x ≠ gL → x ≠ gD → x ≠ gW → x ≠ gN → fs.lookup x = none
theorem DrumF.putN {fs : List (Str × V)} {ra la ad : Addr} {here : Option Nat} {now z : Int} (h : DrumF fs ra la ad here now) : DrumF (putF gN (.int z) fs) ra la ad here z := by
  refine ⟨by rw [put_len2 h.n]; exact h.len, ?_, ?_, ?_, ?_, ?_, fun x a b c d e => ?_⟩
  · rw [lookup_putF, if_neg g_RN]; exact h.r
  · rw [lookup_putF, if_neg g_LN]; exact h.l
  · rw [lookup_putF, if_neg g_DN]; exact h.d
  · rw [lookup_putF, if_neg g_WN]; exact h.w
  · rw [lookup_putF, if_pos rfl]
  · rw [lookup_putF, if_neg e]; exact h.o x a b c d e
theorem DrumF.putW {fs : List (Str × V)} {ra la ad : Addr} {here z : Option Nat} {now : Int} (h : DrumF fs ra la ad here now) : DrumF (putF gW (oV z) fs) ra la ad z now := by
  refine ⟨by rw [put_len2 h.w]; exact h.len, ?_, ?_, ?_, ?_, ?_, fun x a b c d e => ?_⟩
  · rw [lookup_putF, if_neg g_RW]; exact h.r
  · rw [lookup_putF, if_neg g_LW]; exact h.l
  · rw [lookup_putF, if_neg g_DW]; exact h.d
  · rw [lookup_putF, if_pos rfl]
  · rw [lookup_putF, if_neg g_WN.symm]; exact h.n
  · rw [lookup_putF, if_neg d]; exact h.o x a b c d e
structure DS where
  m : Mach
  here : Option Nat
  now : Int
def readD (y : Lay) (s : DS) (r : Nat) : Int := fb s.now (y.places.getD r 0) y.wide
def goD1 (p : Prog) (y : Lay) (s : DS) (r : Nat) : DS := ⟨(stepM s.m (p.rows.getD r .stop)).1, (stepM s.m (p.rows.getD r .stop)).2, behindF y (p.rows.getD r .stop) (readD y s r)⟩
def turnD (p : Prog) (y : Lay) (s : DS) : DS := match s.here with
  | none => s
  | some r => goD1 p y s r
def startD (p : Prog) : DS := ⟨⟨0, p.ws, []⟩, some 0, 0⟩
def spinS (p : Prog) (y : Lay) : Nat → DS
  | 0 => startD p
  | k + 1 => turnD p y (spinS p y k)
theorem spin_run (p : Prog) (y : Lay) : ∀ k, (spinS p y k).m = (runS p k).m ∧ (spinS p y k).here = (runS p k).here
  | 0 => ⟨rfl, rfl⟩
  | k + 1 => by
    obtain ⟨h1, h2⟩ := spin_run p y k
    show (turnD p y (spinS p y k)).m = (turnS p.rows (runS p k)).m ∧ (turnD p y (spinS p y k)).here = (turnS p.rows (runS p k)).here
    unfold turnD turnS
    rw [h2]
    cases (runS p k).here with
    | none => exact ⟨h1, h2⟩
    | some r =>
      show (stepM (spinS p y k).m _).1 = _ ∧ (stepM (spinS p y k).m _).2 = _
      rw [h1]
      exact ⟨rfl, rfl⟩
theorem spin_end {p : Prog} {y : Lay} {j : Nat} (h : (spinS p y j).here = none) : ∀ k, spinS p y (j + k) = spinS p y j
  | 0 => rfl
  | k + 1 => by
    show turnD p y (spinS p y (j + k)) = _
    rw [spin_end h k]
    unfold turnD
    rw [h]
structure DrumAt (CD C : Addr) (p : Prog) (y : Lay) (H : Hp) (q ad aw as_ : Addr) (s : DS) : Prop where
  ins : ∃ (dx : Addr) (fs : List (Str × V)) (ra la : Addr) (bs : List Addr), H q = some (.ins CD dx fs) ∧ DrumF fs ra la ad s.here s.now ∧ H ra = some (.tup (bs.map V.ref)) ∧ RowsAt H bs p.rows ∧ LayAt H la y
  mach : DeskM C H ad aw as_ s.m
  ne : q ≠ ad
def But4 (q a b c : Addr) (H H' : Hp) : Prop := ∀ x o, x ≠ q → x ≠ a → x ≠ b → x ≠ c → H x = some o → H' x = some o
theorem But4.trans {q a b c : Addr} {H H1 H2 : Hp} (s : But4 q a b c H H1) (t : But4 q a b c H1 H2) : But4 q a b c H H2 := fun x o h0 h1 h2 h3 h => t x o h0 h1 h2 h3 (s x o h0 h1 h2 h3 h)
theorem But4.same {q a b c : Addr} {H H' : Hp} (s : Same1 H H') : But4 q a b c H H' := fun x o _ _ _ _ h => s x o h
theorem But4.but3 {q a b c : Addr} {H H' : Hp} (s : But3 a b c H H') : But4 q a b c H H' := fun x o _ h1 h2 h3 h => s x o h1 h2 h3 h
theorem But4.but {q a b c : Addr} {H H' : Hp} (s : But q H H') : But4 q a b c H H' := fun x o h _ _ _ e => s x o h e
theorem DrumAt.ne2 {CD C : Addr} {p : Prog} {y : Lay} {H : Hp} {q ad aw as_ : Addr} {s : DS} (h : DrumAt CD C p y H q ad aw as_ s) : aw ≠ q ∧ as_ ≠ q := by
  obtain ⟨dx, fs, ra, la, bs, h1, _⟩ := h.ins
  exact ⟨ne_of h.mach.ws h1 (by intro z; cases z), ne_of h.mach.said h1 (by intro z; cases z)⟩
theorem RowsAt.by {H H' : Hp} {bs : List Addr} {rows : List Row} (h : RowsAt H bs rows) (k : ∀ b o, H b = some (.tup o) → H' b = some (.tup o)) : RowsAt H' bs rows := h.kp k
theorem DrumAt.kp4 {CD C : Addr} {p : Prog} {y : Lay} {H : Hp} {q ad aw as_ : Addr} {s : DS} (h : DrumAt CD C p y H q ad aw as_ s) {H' : Hp} (b : But4 q ad aw as_ H H') : Kp H H' := by
  obtain ⟨dx, fs, ra, la, bs, h1, _⟩ := h.ins
  obtain ⟨dx2, fs2, g1, _⟩ := h.mach.ins
  intro x o e
  exact b _ _ (ne_of e h1 (by intro z; cases z)) (ne_of e g1 (by intro z; cases z)) (ne_of e h.mach.ws (by intro z; cases z)) (ne_of e h.mach.said (by intro z; cases z)) e
theorem DrumAt.same {CD C : Addr} {p : Prog} {y : Lay} {H H' : Hp} {q ad aw as_ : Addr} {s : DS} (h : DrumAt CD C p y H q ad aw as_ s) (t : Same1 H H') : DrumAt CD C p y H' q ad aw as_ s := by
  obtain ⟨dx, fs, ra, la, bs, h1, h2, h3, h4, h5⟩ := h.ins
  exact ⟨⟨dx, fs, ra, la, bs, t _ _ h1, h2, t _ _ h3, h4.kp (Kp.same t), h5.kp (Kp.same t)⟩, h.mach.same t, h.ne⟩
end DL
namespace DL
open PySem L2 DLR
abbrev sUInit : Stmt := inClass (top 59) 0
abbrev sUTurn : Stmt := inClass (top 59) 1
abbrev sUBeat : Stmt := inClass (top 59) 2
abbrev sUSays : Stmt := inClass (top 59) 3
abbrev sUOver : Stmt := inClass (top 59) 5
def spUInit (CD C : Addr) : Sp := fun vs H Q _ => ∃ (q dx pa ya : Addr) (p : Prog) (y : Lay), vs = [.ref q, .ref pa, .ref ya] ∧ H q = some (.ins CD dx []) ∧ ProgAt H pa p ∧ Good p ∧ LayAt H ya y ∧ LayOk p y ∧
  ∀ ad aw as_ H', (∀ x o, x ≠ q → H x = some o → H' x = some o) → H ad = none → H aw = none → H as_ = none → DrumAt CD C p y H' q ad aw as_ (startD p) → Q .non H'
def spUTurn (CD C : Addr) : Sp := fun vs H Q _ => ∃ (q ad aw as_ : Addr) (p : Prog) (y : Lay) (s : DS) (r : Nat), vs = [.ref q] ∧ DrumAt CD C p y H q ad aw as_ s ∧ Good p ∧ LayOk p y ∧ MOk s.m ∧ s.m.ws.length = p.ws.length ∧ s.m.said.length ≤ 9000 ∧ s.here = some r ∧ r < p.rows.length ∧
  ∀ t H', But4 q ad aw as_ H H' → H t = none → H' t = some (.tup [nI r, .int (readD y s r)]) → DrumAt CD C p y H' q ad aw as_ (goD1 p y s r) → Q (.ref t) H'
def spUBeat (CD C : Addr) : Sp := fun vs H Q _ => ∃ (q ad aw as_ : Addr) (p : Prog) (y : Lay) (s : DS), vs = [.ref q] ∧ DrumAt CD C p y H q ad aw as_ s ∧ Q (.int s.now) H
def spUOver (CD C : Addr) : Sp := fun vs H Q _ => ∃ (q ad aw as_ : Addr) (p : Prog) (y : Lay) (s : DS), vs = [.ref q] ∧ DrumAt CD C p y H q ad aw as_ s ∧ Q (.bl (decide (s.here = none))) H
def spUSays (CD C : Addr) : Sp := fun vs H Q _ => ∃ (q ad aw as_ : Addr) (p : Prog) (y : Lay) (s : DS), vs = [.ref q] ∧ DrumAt CD C p y H q ad aw as_ s ∧ ∀ l H', Same1 H H' → H l = none → H' l = some (.lst (s.m.said.map V.int)) → Q (.ref l) H'
def spUHolds (CD C : Addr) : Sp := fun vs H Q _ => ∃ (q ad aw as_ : Addr) (p : Prog) (y : Lay) (s : DS), vs = [.ref q] ∧ DrumAt CD C p y H q ad aw as_ s ∧ ∀ l H', Same1 H H' → H l = none → H' l = some (.lst (s.m.ws.map V.int)) → Q (.ref l) H'
theorem oV_non (h : Option Nat) : decide (oV h = V.non) = decide (h = none) := by
  cases h with
  | none => rfl
  | some n => exact (by decide +kernel : decide (V.int 0 = V.non) = false) ▸ (decide_eq_false (by intro z; cases z)).trans (decide_eq_false (by intro z; cases z)).symm
section
variable {P : Program} {w : World} {K : PySem.W.Frag} {mg : Str → Option Value} {base : Heap} {C0 CD : Addr}
theorem scUInit : FnScope ["self", "program", "laying"] ["self", "program", "laying"] (defScope sUInit) := ⟨rfl, rfl, rfl, by decide +kernel, rfl, by decide +kernel, by decide +kernel⟩
theorem scUTurn : FnScope ["self", "number", "row", "wide", "places", "_", "read"] ["self"] (defScope sUTurn) := ⟨rfl, rfl, rfl, by decide +kernel, rfl, by decide +kernel, by decide +kernel⟩
theorem scUBeat : FnScope ["self"] ["self"] (defScope sUBeat) := ⟨rfl, rfl, rfl, by decide +kernel, rfl, by decide +kernel, by decide +kernel⟩
theorem scUSays : FnScope ["self"] ["self"] (defScope sUSays) := ⟨rfl, rfl, rfl, by decide +kernel, rfl, by decide +kernel, by decide +kernel⟩
theorem scUOver : FnScope ["self"] ["self"] (defScope sUOver) := ⟨rfl, rfl, rfl, by decide +kernel, rfl, by decide +kernel, by decide +kernel⟩
theorem ok_ubeat {f : Addr} {fd : FuncData} (F : Fun K "beat" "Drum.beat" sUBeat f fd) (TU : Uk K mg CD) : FnOk P w K mg base CX0 1 f fd ["self"] (spUBeat CD C0) := by
  refine F.ok scUBeat (fun vs H Q E h => ?_) (fun cdv A outer s H vs Q E hr h => ?_)
  · obtain ⟨q, ad, aw, as_, p, y, s, rfl, _⟩ := h
    rfl
  · obtain ⟨q, ad, aw, as_, p, y, s, rfl, hD, k⟩ := h
    obtain ⟨dx, fs, ra, la, bs, h1, h2, h3, h4, h5⟩ := hD.ins
    refine ⟨_, (pss_one (ps_ret (pe_fld (pv 0) rfl))), ?_⟩
    exact ⟨_, rfl, q, _, _, _, _, rfl, h1, TU.cl, TU.nN, h2.n, k⟩
theorem ok_uover {f : Addr} {fd : FuncData} (F : Fun K "is_over" "Drum.is_over" sUOver f fd) (TU : Uk K mg CD) : FnOk P w K mg base CX0 1 f fd ["self"] (spUOver CD C0) := by
  refine F.ok scUOver (fun vs H Q E h => ?_) (fun cdv A outer s H vs Q E hr h => ?_)
  · obtain ⟨q, ad, aw, as_, p, y, s, rfl, _⟩ := h
    rfl
  · obtain ⟨q, ad, aw, as_, p, y, s, rfl, hD, k⟩ := h
    obtain ⟨dx, fs, ra, la, bs, h1, h2, h3, h4, h5⟩ := hD.ins
    refine ⟨_, (pss_one (ps_ret (pe_cmpR op_isN (pe_fld (pv 0) rfl) pe_non (nomark _)))), ?_⟩
    rw [← oV_non] at k
    exact ⟨_, rfl, q, _, _, _, _, rfl, h1, TU.cl, TU.nW, h2.w, rfl, k⟩
theorem ok_usays {f : Addr} {fd : FuncData} (F : Fun K "says" "Drum.says" sUSays f fd) (T : Bt mg) (TC : Dk K mg C0) (TU : Uk K mg CD) : FnOk P w K mg base CX0 1 f fd ["self"] (spUSays CD C0) := by
  refine F.ok scUSays (fun vs H Q E h => ?_) (fun cdv A outer s H vs Q E hr h => ?_)
  · obtain ⟨q, ad, aw, as_, p, y, s, rfl, _⟩ := h
    rfl
  · obtain ⟨q, ad, aw, as_, p, y, s, rfl, hD, k⟩ := h
    obtain ⟨dx, fs, ra, la, bs, h1, h2, h3, h4, h5⟩ := hD.ins
    obtain ⟨dx2, fs2, g1, g2, g3, g4, g5, g9⟩ := hD.mach.get
    refine ⟨_, (pss_one (ps_ret (pe_callTy call_list_of (by rfl) T.list (by decide +kernel) (pa_cons (pe_fld (pe_fld (pv 0) rfl) rfl) pa_nil)))), ?_⟩
    refine ⟨_, rfl, q, _, _, _, _, rfl, h1, TU.cl, TU.nD, h2.d, ad, _, _, _, _, rfl, g1, TC.cl, TC.nS, g5, as_, _, rfl, .inl (SqL.of hD.mach.said), fun l hl => ?_⟩
    refine alloc hl fun H' s' e' => ?_
    exact k l H' s' hl e'
theorem ok_uinit {f : Addr} {fd : FuncData} (F : Fun K "__init__" "Drum.__init__" sUInit f fd) (cCheckProgram : FCheckProgram K mg) (cCheckLaying : FCheckLaying K mg) (T : Bt mg) (TU : Uk K mg CD) (TC : Dk K mg C0) {fi : Addr} {fdi : FuncData} (FI : Fun K "__init__" "Desk.__init__" sDInit fi fdi) (bI : Binds K fdi ["self", "worths"] []) (MK : Mk K C0 fi)
    (GCheckProgram : FnOk P w K mg base CX0 4 cCheckProgram.f cCheckProgram.fd ["program"] spCheckProgram) (GCheckLaying : FnOk P w K mg base CX0 5 cCheckLaying.f cCheckLaying.fd ["program", "laying"] spCheckLaying) : FnOk P w K mg base CX0 6 f fd ["self", "program", "laying"] (spUInit CD C0) := by
  have GI : FnOk P w K mg base CX0 1 fi fdi ["self", "worths"] (spDInit C0) := ok_dinit FI T TC
  refine F.ok scUInit (fun vs H Q E h => ?_) (fun cdv A outer s H vs Q E hr h => ?_)
  · obtain ⟨q, dx, pa, ya, p, y, rfl, _⟩ := h
    rfl
  · obtain ⟨q, dx, pa, ya, p, y, rfl, hq, hP, g, hY, yk, k⟩ := h
    refine ⟨_, (pss_cons (ps_expr (pe_call GCheckProgram (hr.mono (by first | omega | decide)) (by rfl) cCheckProgram.m cCheckProgram.F.kp cCheckProgram.b .nil pass0 (pa_cons (pv 1) pa_nil)))
      (pss_cons (ps_expr (pe_call GCheckLaying (hr.mono (by first | omega | decide)) (by rfl) cCheckLaying.m cCheckLaying.F.kp cCheckLaying.b .nil pass0 (pa_cons (pv 1) (pa_cons (pv 2) pa_nil))))
      (pss_cons (ps_fld (pv 0) (pe_ix ix_tup (pv 1) pe_int (fun _ _ => rfl)) rfl)
      (pss_cons (ps_fld (pv 0) (pv 2) rfl)
      (pss_cons (ps_fld (pv 0) (pe_make MK GI (hr.mono (by first | omega | decide)) (by rfl) TC.m bI .nil pass0 (pa_cons (pe_callTy call_list_of (by rfl) T.list (by decide +kernel) (pa_cons (pe_ix ix_tup (pv 1) pe_int (fun _ _ => rfl)) pa_nil)) pa_nil)) rfl)
      (pss_cons (ps_fld (pv 0) pe_int rfl)
      (pss_one (ps_fld (pv 0) pe_int rfl)))))))), ?_⟩
    refine ⟨_, rfl, pa, p, rfl, hP, g, fun H1 s1 => ?_⟩
    refine ⟨_, rfl, _, rfl, pa, ya, p, y, rfl, hP.kp (Kp.same s1), g, hY.kp (Kp.same s1), yk, fun H2 s2 => ?_⟩
    have S2 := s1.trans s2
    obtain ⟨wa, ra, bs, hpa, hwa, hra, hR⟩ := hP.kp (Kp.same S2)
    have hY2 := hY.kp (Kp.same S2)
    have hq2 := S2 _ _ hq
    refine ⟨_, rfl, pa, _, _, _, rfl, rfl, SqT.of hpa, at1, _, rfl, q, CD, dx, _, rfl, hq2, TU.cl, TU.nR, (by show 0 < 1000; decide), ?_⟩
    refine change fun H3 b3 e3 => ?_
    refine ⟨_, rfl, _, rfl, q, CD, dx, _, rfl, e3, TU.cl, TU.nL, (by show 1 < 1000; decide), ?_⟩
    refine change fun H4 b4 e4 => ?_
    have B4 := b3.trans b4
    have kq : ∀ {H H' : Hp}, But q H H' → (∃ o, H q = some o ∧ ∀ u, o ≠ .tup u) → Kp H H' := fun b ⟨o, ho, n⟩ x u e => b _ _ (ne_of e ho (by intro z; exact n _ z.symm)) e
    have K4 : Kp H2 H4 := kq B4 ⟨_, hq2, fun u z => by cases z⟩
    refine ⟨_, rfl, pa, _, _, _, rfl, rfl, SqT.of (K4 _ _ hpa), at0, wa, _, rfl, .inr (SqT.of (K4 _ _ hwa)), fun aw naw => ?_⟩
    refine alloc naw fun H4a s4a e4a => ?_
    refine fun ad dd had hdd hne => ?_
    have nqa : q ≠ ad := ne_of_none (s4a _ _ e4) had
    have nqd : q ≠ dd := ne_of_none (s4a _ _ e4) hdd
    refine ⟨ad, dd, _, rfl, upd_same, fun as_ fs0 H5 b5 has i1 i2 i3 i4 i5 i6 i7 => ⟨rfl, ?_⟩⟩
    have nas : H4a as_ = none := upd_none (upd_none has)
    have S5a : Same1 H4a H5 := fun x o e => b5 x o (ne_of_none e had) (by rw [upd_ne (ne_of_none e had), upd_ne (ne_of_none e hdd)]; exact e)
    have S5 : Same1 H4 H5 := s4a.trans S5a
    have M5 : DeskM C0 H5 ad aw as_ ⟨0, p.ws, []⟩ := ⟨⟨dd, fs0, i1, i2, i3, i4, i5, i6⟩, S5a _ _ e4a, i7, ne_of_none e4a nas⟩
    have e5 := S5 _ _ e4
    refine ⟨_, rfl, q, CD, dx, _, rfl, e5, TU.cl, TU.nD, (by show 2 < 1000; decide), ?_⟩
    refine change fun H6 b6 e6 => ?_
    refine ⟨_, rfl, q, CD, dx, _, rfl, e6, TU.cl, TU.nW, (by show 3 < 1000; decide), ?_⟩
    refine change fun H7 b7 e7 => ?_
    refine ⟨_, rfl, q, CD, dx, _, rfl, e7, TU.cl, TU.nN, (by show 4 < 1000; decide), ?_⟩
    refine change fun H8 b8 e8 => ?_
    have B8 : But q H5 H8 := (b6.trans b7).trans b8
    have K8 : Kp H5 H8 := kq B8 ⟨_, e5, fun u z => by cases z⟩
    have K28 : Kp H2 H8 := K4.trans ((Kp.same S5).trans K8)
    obtain ⟨dx2, fs2, g1, g2⟩ := M5.ins
    have n1 : aw ≠ q := (ne_of_none e4 naw).symm
    have n2 : as_ ≠ q := (ne_of_none (s4a _ _ e4) nas).symm
    have fr : ∀ {a : Addr}, H4 a = none → H a = none := fun h => s1.free (s2.free (b3.free e3 (b4.free e4 h)))
    refine k ad aw as_ H8 (fun x o n e => B8 _ _ n (S5 _ _ (B4 _ _ n (S2 _ _ e)))) (fr (s4a.free had)) (fr naw) (fr (s4a.free nas)) ⟨⟨dx, _, ra, ya, bs, e8, ?_, K28 _ _ hra, hR.kp K28, hY2.kp K28⟩, ⟨⟨dx2, fs2, B8 _ _ nqa.symm g1, g2⟩, B8 _ _ n1 M5.ws, B8 _ _ n2 M5.said, M5.ne⟩, nqa⟩
    refine ⟨?_, ?_, ?_, ?_, ?_, ?_, fun x a b c d e => ?_⟩
    · have h1 := putF_le (fs := putF gW (.int 0) (putF gD (.ref ad) (putF gL (.ref ya) (putF gR (.ref ra) [])))) (f := gN) (v := .int 0)
      have h2 := putF_le (fs := putF gD (.ref ad) (putF gL (.ref ya) (putF gR (.ref ra) []))) (f := gW) (v := .int 0)
      have h3 := putF_le (fs := putF gL (.ref ya) (putF gR (.ref ra) [])) (f := gD) (v := .ref ad)
      have h4 := putF_le (fs := putF gR (.ref ra) []) (f := gL) (v := .ref ya)
      have h5 := putF_le (fs := []) (f := gR) (v := .ref ra)
      have h6 : ([] : List (Str × V)).length = 0 := rfl
      exact Nat.le_trans h1 (by omega)
    · rw [lookup_putF, if_neg g_RN, lookup_putF, if_neg g_RW, lookup_putF, if_neg g_RD, lookup_putF, if_neg g_RL, lookup_putF, if_pos rfl]
    · rw [lookup_putF, if_neg g_LN, lookup_putF, if_neg g_LW, lookup_putF, if_neg g_LD, lookup_putF, if_pos rfl]
    · rw [lookup_putF, if_neg g_DN, lookup_putF, if_neg g_DW, lookup_putF, if_pos rfl]
    · rw [lookup_putF, if_neg g_WN, lookup_putF, if_pos rfl]; rfl
    · rw [lookup_putF, if_pos rfl]; rfl
    · rw [lookup_putF, if_neg e, lookup_putF, if_neg d, lookup_putF, if_neg c, lookup_putF, if_neg b, lookup_putF, if_neg a]
      rfl
end
structure UkM (K : Frg) (mg : Str → Option Value) where
  C : Addr
  d : Uk K mg C
  fi : Addr
  fdi : FuncData
  FI : Fun K "__init__" "Drum.__init__" sUInit fi fdi
  bI : Binds K fdi ["self", "program", "laying"] []
  mkd : Mk K C fi
  ft : Addr
  fdt : FuncData
  FT : Fun K "turn" "Drum.turn" sUTurn ft fdt
  bT : Binds K fdt ["self"] []
  mT : Meth K C "turn" ft
  fb : Addr
  fdb : FuncData
  FB : Fun K "beat" "Drum.beat" sUBeat fb fdb
  bB : Binds K fdb ["self"] []
  mB : Meth K C "beat" fb
  fs : Addr
  fds : FuncData
  FS : Fun K "says" "Drum.says" sUSays fs fds
  bS : Binds K fds ["self"] []
  mS : Meth K C "says" fs
  fo : Addr
  fdo : FuncData
  FO : Fun K "is_over" "Drum.is_over" sUOver fo fdo
  bO : Binds K fdo ["self"] []
  mO : Meth K C "is_over" fo
theorem DrumF.meth {fs : List (Str × V)} {ra la ad : Addr} {here : Option Nat} {now : Int} (h : DrumF fs ra la ad here now) : fs.lookup ("turn" : Str) = none ∧ fs.lookup ("beat" : Str) = none ∧ fs.lookup ("says" : Str) = none ∧ fs.lookup ("is_over" : Str) = none ∧ fs.lookup ("holds" : Str) = none :=
  ⟨h.o _ (by decide +kernel) (by decide +kernel) (by decide +kernel) (by decide +kernel) (by decide +kernel), h.o _ (by decide +kernel) (by decide +kernel) (by decide +kernel) (by decide +kernel) (by decide +kernel),
   h.o _ (by decide +kernel) (by decide +kernel) (by decide +kernel) (by decide +kernel) (by decide +kernel), h.o _ (by decide +kernel) (by decide +kernel) (by decide +kernel) (by decide +kernel) (by decide +kernel),
   h.o _ (by decide +kernel) (by decide +kernel) (by decide +kernel) (by decide +kernel) (by decide +kernel)⟩
end DL
namespace DL
open PySem L2 DLR
section
variable {P : Program} {w : World} {K : PySem.W.Frag} {mg : Str → Option Value} {base : Heap} {C0 CD : Addr}
theorem ok_uturn {f : Addr} {fd : FuncData} (F : Fun K "turn" "Drum.turn" sUTurn f fd) (TU : Uk K mg CD) (TC : Dk K mg C0) (cFirstBeat : FFirstBeat K mg) (cBeatBehind : FBeatBehind K mg) {fs_ : Addr} {fds : FuncData} (bStep : Binds K fds ["self", "row"] []) (mStep : Meth K C0 "step" fs_)
    (GBeatBehind : FnOk P w K mg base CX0 4 cBeatBehind.f cBeatBehind.fd ["row", "read", "laying"] spBeatBehind) (GStep : FnOk P w K mg base CX0 3 fs_ fds ["self", "row"] (spDStep C0)) : FnOk P w K mg base CX0 5 f fd ["self"] (spUTurn CD C0) := by
  have GFirstBeat : FnOk P w K mg base CX0 1 cFirstBeat.f cFirstBeat.fd ["now", "place", "wide"] spFirstBeat := ok_firstBeat cFirstBeat
  refine F.ok scUTurn (fun vs H Q E h => ?_) (fun cdv A outer s H vs Q E hr h => ?_)
  · obtain ⟨q, ad, aw, as_, p, y, s, r, rfl, _⟩ := h
    rfl
  · obtain ⟨q, ad, aw, as_, p, y, s, r, rfl, hD, g, yk, mo, hws, hsd, hhr, hr1, k⟩ := h
    obtain ⟨dx, fs, ra, la, bs, h1, h2, h3, h4, h5⟩ := hD.ins
    have hbr := Paired.length h4
    have hr40 := g.r40
    have er : p.rows.getD r .stop = p.rows[r] := by rw [List.getD_eq_getElem?_getD, List.getElem?_eq_getElem hr1]; rfl
    obtain ⟨ba, hb1, hb2⟩ := Paired.getR h4 (List.getElem?_eq_getElem hr1)
    obtain ⟨pl, hl, hs, hla, hpl, hhl, hH⟩ := id h5
    have hrow : p.rows[r].ok p.ws.length p.rows.length := g.ok _ (List.getElem_mem hr1)
    have hw2 := yk.w2
    have eo : oV s.here = .int (r : Int) := by rw [hhr]; rfl
    refine ⟨_, (pss_cons (ps_if (pt_cmpR op_isN (pe_fld (pv 0) rfl) pe_non (nomark _))
          (pss_one ps_never)
          pss_nil)
      (pss_cons (ps_set (i := 1) scUTurn.nd rfl (Or.inl rfl) (pe_fld (pv 0) rfl))
      (pss_cons (ps_set (i := 2) scUTurn.nd rfl (Or.inl rfl) (pe_ix ix_tup (pe_fld (pv 0) rfl) (pv 1) (fun _ _ => rfl)))
      (pss_cons (ps_asg (pe_fld (pv 0) rfl) (pg_tup rfl (pgs_cons (pg_name (i := 3) scUTurn.nd rfl (Or.inl rfl)) (pgs_cons (pg_name (i := 4) scUTurn.nd rfl (Or.inl rfl)) (pgs_cons (pg_name (i := 5) scUTurn.nd rfl (Or.inl rfl)) pgs_nil)))))
      (pss_cons (ps_set (i := 6) scUTurn.nd rfl (Or.inl rfl) (pe_call GFirstBeat (hr.mono (by first | omega | decide)) (by rfl) cFirstBeat.m cFirstBeat.F.kp cFirstBeat.b .nil pass0 (pa_cons (pe_fld (pv 0) rfl) (pa_cons (pe_ix ix_tup (pv 4) (pv 1) (fun _ _ => rfl)) (pa_cons (pv 3) pa_nil)))))
      (pss_cons (ps_fld (pv 0) (pe_call GBeatBehind (hr.mono (by first | omega | decide)) (by rfl) cBeatBehind.m cBeatBehind.F.kp cBeatBehind.b .nil pass0 (pa_cons (pv 2) (pa_cons (pv 6) (pa_cons (pe_fld (pv 0) rfl) pa_nil)))) rfl)
      (pss_cons (ps_fld (pv 0) (pe_meth (pe_fld (pv 0) rfl) TC.cl mStep GStep (hr.mono (by first | omega | decide)) bStep .nil pass0 (pa_cons (pv 2) pa_nil)) rfl)
      (pss_one (ps_ret (pe_tup (pa_cons (pv 1) (pa_cons (pv 6) pa_nil)))))))))))), ?_⟩
    refine ⟨_, rfl, q, _, _, _, _, rfl, h1, TU.cl, TU.nW, h2.w, rfl, _, rfl, ?_⟩
    rw [oV_non, hhr]
    refine iteF ?_
    refine ⟨_, rfl, q, _, _, _, _, rfl, h1, TU.cl, TU.nW, h2.w, ?_⟩
    rw [eo]
    refine ⟨_, rfl, q, _, _, _, _, rfl, h1, TU.cl, TU.nR, h2.r, _, rfl, ra, _, _, _, rfl, rfl, SqT.of h3, atI_nat (j := r) (by rw [List.getElem?_map, hb1]; rfl), ?_⟩
    refine ⟨_, rfl, q, _, _, _, _, rfl, h1, TU.cl, TU.nL, h2.l, la, _, rfl, SqT.of hla, rfl, _, _, rfl, _, _, rfl, _, _, rfl, rfl, ?_⟩
    refine ⟨_, rfl, q, _, _, _, _, rfl, h1, TU.cl, TU.nN, h2.n, _, rfl, _, rfl, pl, _, _, _, rfl, rfl, SqT.of hpl, atI_nat (j := r) (nI_at (by rw [yk.pl]; exact hr1)), _, rfl, s.now, y.places.getD r 0, y.wide, rfl, by omega, ?_⟩
    refine ⟨_, rfl, _, rfl, _, rfl, q, _, _, _, _, rfl, h1, TU.cl, TU.nL, h2.l, ba, la, p.rows[r], readD y s r, y, p.rows.length, rfl, hb2, h5, yk.w2, yk.hok, by rw [yk.hl]; exact hrow, fun H1 s1 => ?_⟩
    have q1 := s1 _ _ h1
    refine ⟨_, rfl, q, CD, dx, _, rfl, q1, TU.cl, TU.nN, Nat.lt_of_le_of_lt h2.len (by decide), ?_⟩
    have F2 := h2.putN (z := behindF y p.rows[r] (readD y s r))
    refine change fun H2 b2 e2 => ?_
    have nq : ∀ {a o}, H1 a = some o → (∀ C d f, o ≠ .ins C d f) → a ≠ q := fun e n => ne_of e q1 (n _ _ _)
    have hM2 : DeskM C0 H2 ad aw as_ s.m := by
      obtain ⟨dx2, fs2, g1, g2⟩ := (hD.mach.same s1).ins
      have n2 := hD.ne2
      exact ⟨⟨dx2, fs2, b2 _ _ hD.ne.symm g1, g2⟩, b2 _ _ n2.1 (s1 _ _ hD.mach.ws), b2 _ _ n2.2 (s1 _ _ hD.mach.said), hD.mach.ne⟩
    have hba2 : H2 ba = some (.tup (rowVs p.rows[r])) := b2 _ _ (nq (s1 _ _ hb2) (by intro C d f z; cases z)) (s1 _ _ hb2)
    refine ⟨_, rfl, q, _, _, _, _, rfl, e2, TU.cl, TU.nD, F2.d, ?_⟩
    obtain ⟨dx3, fs3, g1, g2, g3, g4, g5, g9⟩ := hM2.get
    refine ⟨ad, dx3, fs3, rfl, g1, g9 _ (by decide +kernel) (by decide +kernel) (by decide +kernel), _, rfl, ad, aw, as_, ba, s.m, p.rows[r], p.rows.length, rfl, hM2, mo, hsd, hba2, by rw [hws]; exact hrow, fun H3 b3 M3 => ?_⟩
    have e3 := b3 _ _ hD.ne hD.ne2.1.symm hD.ne2.2.symm e2
    refine ⟨_, rfl, q, CD, dx, _, rfl, e3, TU.cl, TU.nW, Nat.lt_of_le_of_lt F2.len (by decide), ?_⟩
    have F3 := F2.putW (z := (stepM s.m p.rows[r]).2)
    refine change fun H4 b4 e4 => ?_
    refine ⟨_, rfl, _, rfl, (by show 2 ≤ sizeLine; decide), fun t ht => ?_⟩
    have B : But4 q ad aw as_ H H4 := (((But4.same s1).trans (But4.but b2)).trans (But4.but3 b3)).trans (But4.but b4)
    have KB := hD.kp4 B
    have D4 : DrumAt CD C0 p y H4 q ad aw as_ (goD1 p y s r) := by
      have eg : goD1 p y s r = ⟨(stepM s.m p.rows[r]).1, (stepM s.m p.rows[r]).2, behindF y p.rows[r] (readD y s r)⟩ := by unfold goD1; rw [er]
      rw [eg]
      obtain ⟨dx4, fs4, m1, m2⟩ := M3.ins
      exact ⟨⟨dx, _, ra, la, bs, e4, F3, KB _ _ h3, h4.kp KB, h5.kp KB⟩, ⟨⟨dx4, fs4, b4 _ _ hD.ne.symm m1, m2⟩, b4 _ _ hD.ne2.1 M3.ws, b4 _ _ hD.ne2.2 M3.said, M3.ne⟩, hD.ne⟩
    have nt : H t = none := by
      cases qt : H t with
      | none => rfl
      | some o =>
        by_cases c1 : t = q
        · subst c1; rw [e4] at ht; cases ht
        · by_cases c2 : t = ad
          · subst c2
            obtain ⟨dx4, fs4, m1, _⟩ := D4.mach.ins
            rw [m1] at ht; cases ht
          · by_cases c3 : t = aw
            · subst c3; rw [D4.mach.ws] at ht; cases ht
            · by_cases c4 : t = as_
              · subst c4; rw [D4.mach.said] at ht; cases ht
              · rw [B _ _ c1 c2 c3 c4 qt] at ht; cases ht
    refine alloc ht fun H5 s5 e5 => ?_
    exact k t H5 (B.trans (But4.same s5)) nt e5 (D4.same s5)
end
end DL
namespace DL
open PySem L2 DLR
abbrev sSpun : Stmt := top 60
abbrev nSpun : List Str := ["program", "laying", "fuel", "drum", "_", "end"]
abbrev pSpun : List Str := ["program", "laying", "fuel"]
abbrev FSpun (K : Frg) (mg : Str → Option Value) := Fd K mg "spun" sSpun pSpun
def spSpun : Sp := fun vs H Q _ => ∃ (pa ya : Addr) (p : Prog) (y : Lay) (fuel : Nat), vs = [.ref pa, .ref ya, .int (fuel : Int)] ∧ ProgAt H pa p ∧ Good p ∧ LayAt H ya y ∧ LayOk p y ∧ fuel ≤ 5000 ∧
  ∀ a ls le H', Same1 H H' → H ls = none → H' a = some (.tup [.ref ls, .ref le, .int (spinS p y fuel).now]) → H' ls = some (.lst ((runS p fuel).m.said.map V.int)) → H' le = some (.tup [.str (if (runS p fuel).here = none then "stop" else "long")]) → Q (.ref a) H'
theorem same_but4 {q a b c : Addr} {H H1 H2 : Hp} (s : Same1 H H1) (t : But4 q a b c H1 H2) (hq : H q = none) (ha : H a = none) (hb : H b = none) (hc : H c = none) : Same1 H H2 := fun x o e =>
  t x o (ne_of_none e hq) (ne_of_none e ha) (ne_of_none e hb) (ne_of_none e hc) (s x o e)
theorem spin_stop {p : Prog} {y : Lay} {j fuel : Nat} (h : (spinS p y j).here = none) (le : j ≤ fuel) : spinS p y fuel = spinS p y j := by
  have q := spin_end h (fuel - j)
  rw [show j + (fuel - j) = fuel by omega] at q
  exact q
section
variable {P : Program} {w : World} {K : PySem.W.Frag} {mg : Str → Option Value} {base : Heap}
theorem scSpun : FnScope nSpun pSpun (defScope sSpun) := ⟨rfl, rfl, rfl, by decide +kernel, rfl, by decide +kernel, by decide +kernel⟩
theorem ok_spun (c : FSpun K mg) (cCheckFuel : FCheckFuel K mg) (DM : DkM K mg) (UM : UkM K mg) (T : Bt mg)
    (GIU : FnOk P w K mg base CX0 6 UM.fi UM.fdi ["self", "program", "laying"] (spUInit UM.C DM.C)) (GCheckFuel : FnOk P w K mg base CX0 3 cCheckFuel.f cCheckFuel.fd ["fuel"] spCheckFuel)
    (GTurn : FnOk P w K mg base CX0 5 UM.ft UM.fdt ["self"] (spUTurn UM.C DM.C)) : FnOk P w K mg base CX0 8 c.f c.fd pSpun spSpun := by
  have TC := DM.d
  have TU := UM.d
  have MKU := UM.mkd
  have bIU := UM.bI
  have mTurn := UM.mT
  have bTurn := UM.bT
  have mBeat := UM.mB
  have bBeat := UM.bB
  have mSays := UM.mS
  have bSays := UM.bS
  have mIsOver := UM.mO
  have bIsOver := UM.bO
  have GBeat : FnOk P w K mg base CX0 1 UM.fb UM.fdb ["self"] (spUBeat UM.C DM.C) := ok_ubeat UM.FB TU
  have GSays : FnOk P w K mg base CX0 1 UM.fs UM.fds ["self"] (spUSays UM.C DM.C) := ok_usays UM.FS T TC TU
  have GIsOver : FnOk P w K mg base CX0 1 UM.fo UM.fdo ["self"] (spUOver UM.C DM.C) := ok_uover UM.FO TU
  refine c.F.ok scSpun (fun vs H Q E h => ?_) (fun cdv A outer s H vs Q E hr h => ?_)
  · obtain ⟨pa, ya, p, y, fuel, rfl, _⟩ := h
    rfl
  · obtain ⟨pa, ya, p, y, fuel, rfl, hP, g, hY, yk, hf, k⟩ := h
    refine ⟨_, (pss_cons (ps_set (i := 3) scSpun.nd rfl (Or.inl rfl) (pe_make MKU GIU (hr.mono (by first | omega | decide)) (by rfl) TU.m bIU .nil pass0 (pa_cons (pv 0) (pa_cons (pv 1) pa_nil))))
      (pss_cons (ps_expr (pe_call GCheckFuel (hr.mono (by first | omega | decide)) (by rfl) cCheckFuel.m cCheckFuel.F.kp cCheckFuel.b .nil pass0 (pa_cons (pv 2) pa_nil)))
      (pss_cons (ps_for PassesOwn.never rfl (pi_range1 rfl T.range (pa_cons (pv 2) pa_nil)) (pg_name (i := 4) scSpun.nd rfl (Or.inl rfl))
          (pss_cons (ps_if (pt_val (pe_meth0 (pv 3) TU.cl mIsOver GIsOver (hr.mono (by first | omega | decide)) bIsOver .nil pass0))
              (pss_one ps_break)
              pss_nil)
          (pss_one (ps_expr (pe_meth0 (pv 3) TU.cl mTurn GTurn (hr.mono (by first | omega | decide)) bTurn .nil pass0)))))
      (pss_cons (ps_set (i := 5) scSpun.nd rfl (Or.inl rfl) (pe_ifExp (pt_val (pe_meth0 (pv 3) TU.cl mIsOver GIsOver (hr.mono (by first | omega | decide)) bIsOver .nil pass0)) (pe_tup (pa_cons pe_str pa_nil)) (pe_tup (pa_cons pe_str pa_nil))))
      (pss_one (ps_ret (pe_tup (pa_cons (pe_meth0 (pv 3) TU.cl mSays GSays (hr.mono (by first | omega | decide)) bSays .nil pass0) (pa_cons (pv 5) (pa_cons (pe_meth0 (pv 3) TU.cl mBeat GBeat (hr.mono (by first | omega | decide)) bBeat .nil pass0) pa_nil)))))))))), ?_⟩
    refine ⟨_, rfl, _, rfl, fun q dx hq hdx hne => ?_⟩
    have nD : ∀ {x o}, H x = some o → (upd (upd H dx (.own q)) q (.ins UM.C dx [])) x = some o := fun e => by rw [upd_ne (ne_of_none e hq), upd_ne (ne_of_none e hdx)]; exact e
    refine ⟨q, dx, pa, ya, p, y, rfl, upd_same, hP.kp (fun x o e => nD e), g, hY.kp (fun x o e => nD e), yk, fun ad aw as_ H1 b1 had haw has D1 => ⟨rfl, ?_⟩⟩
    have nad : H ad = none := upd_none (upd_none had)
    have naw : H aw = none := upd_none (upd_none haw)
    have nas : H as_ = none := upd_none (upd_none has)
    have S1 : Same1 H H1 := fun x o e => b1 x o (ne_of_none e hq) (nD e)
    refine ⟨_, rfl, (fuel : Int), rfl, by omega, by omega, ?_⟩
    refine ⟨_, rfl, (fuel : Int), rfl, by omega, by omega, ?_⟩
    refine range_elim (lo := 0) (n := fuel) (fun j σ H' => ∃ (x4 x5 : Option V), σ = [some (.ref pa), some (.ref ya), some (.int (fuel : Int)), some (.ref q), x4, x5] ∧ Same1 H H' ∧ DrumAt UM.C DM.C p y H' q ad aw as_ (spinS p y j))
      (fun σ H' => ∃ (x4 x5 : Option V), σ = [some (.ref pa), some (.ref ya), some (.int (fuel : Int)), some (.ref q), x4, x5] ∧ Same1 H H' ∧ DrumAt UM.C DM.C p y H' q ad aw as_ (spinS p y fuel))
      ⟨none, none, rfl, S1, D1⟩ ?_ ?_ ?_
    · rintro σ H2 ⟨x4, x5, rfl, s2, D2⟩
      obtain ⟨dx2, fs2, ra2, la2, bs2, h1, h2, _⟩ := D2.ins
      obtain ⟨l1, l2, l3, l4, l5⟩ := h2.meth
      obtain ⟨er1, er2⟩ := spin_run p y fuel
      refine ⟨_, rfl, q, dx2, fs2, rfl, h1, l4, q, ad, aw, as_, p, y, spinS p y fuel, rfl, D2, ?_⟩
      have key : ∀ le H3, Same1 H2 H3 → H3 le = some (.tup [.str (if (runS p fuel).here = none then "stop" else "long")]) →
          ∀ ls H4, Same1 H3 H4 → H3 ls = none → H4 ls = some (.lst ((spinS p y fuel).m.said.map V.int)) → ∀ a H5, Same1 H4 H5 → H5 a = some (.tup [.ref ls, .ref le, .int (spinS p y fuel).now]) → Q (.ref a) H5 := by
        intro le H3 s3 e3 ls H4 s4 nl e4 a H5 s5 e5
        have S := s2.trans s3
        exact k a ls le H5 (S.trans (s4.trans s5)) (S.free nl) e5 (by rw [← er1]; exact s5 _ _ e4) ((s4.trans s5) _ _ e3)
      have tail : ∀ le H3, Same1 H2 H3 → H3 le = some (.tup [.str (if (runS p fuel).here = none then "stop" else "long")]) → ∀ l H4, Same1 H3 H4 → H3 l = none → H4 l = some (.lst ((spinS p y fuel).m.said.map V.int)) → True := fun _ _ _ _ _ _ _ _ _ => trivial
      rw [er2]
      by_cases c : (runS p fuel).here = none
      · rw [decide_eq_true c]
        refine ⟨_, rfl, iteT ⟨(by show 1 ≤ sizeLine; decide), fun le hle => ?_⟩⟩
        refine alloc hle fun H3 s3 e3 => ?_
        have D3 := D2.same s3
        have h13 := s3 _ _ h1
        refine ⟨_, rfl, q, dx2, fs2, rfl, h13, l3, q, ad, aw, as_, p, y, spinS p y fuel, rfl, D3, fun ls H4 s4 nl e4 => ?_⟩
        have D4 := D3.same s4
        refine ⟨_, rfl, _, rfl, q, dx2, fs2, rfl, s4 _ _ h13, l2, q, ad, aw, as_, p, y, spinS p y fuel, rfl, D4, (by show 3 ≤ sizeLine; decide), fun a ha => ?_⟩
        refine alloc ha fun H5 s5 e5 => ?_
        exact key le H3 s3 (by rw [if_pos c]; exact e3) ls H4 s4 nl e4 a H5 s5 e5
      · rw [decide_eq_false c]
        refine ⟨_, rfl, iteF ⟨(by show 1 ≤ sizeLine; decide), fun le hle => ?_⟩⟩
        refine alloc hle fun H3 s3 e3 => ?_
        have D3 := D2.same s3
        have h13 := s3 _ _ h1
        refine ⟨_, rfl, q, dx2, fs2, rfl, h13, l3, q, ad, aw, as_, p, y, spinS p y fuel, rfl, D3, fun ls H4 s4 nl e4 => ?_⟩
        have D4 := D3.same s4
        refine ⟨_, rfl, _, rfl, q, dx2, fs2, rfl, s4 _ _ h13, l2, q, ad, aw, as_, p, y, spinS p y fuel, rfl, D4, (by show 3 ≤ sizeLine; decide), fun a ha => ?_⟩
        refine alloc ha fun H5 s5 e5 => ?_
        exact key le H3 s3 (by rw [if_neg c]; exact e3) ls H4 s4 nl e4 a H5 s5 e5
    · intro Nx hNx
      rintro j σ H2 hj ⟨x4, x5, rfl, s2, D2⟩
      obtain ⟨dx2, fs2, ra2, la2, bs2, h1, h2, _⟩ := D2.ins
      obtain ⟨l1, l2, l3, l4, l5⟩ := h2.meth
      obtain ⟨er1, er2⟩ := spin_run p y j
      have O := runS_ok g j
      refine ⟨_, rfl, q, dx2, fs2, rfl, h1, l4, q, ad, aw, as_, p, y, spinS p y j, rfl, D2, ?_⟩
      cases hh : (spinS p y j).here with
      | none =>
        refine ⟨_, rfl, iteT ?_⟩
        refine hNx _ _ ⟨_, _, rfl, s2, ?_⟩
        rw [spin_stop hh (by omega)]
        exact D2
      | some r =>
        refine ⟨_, rfl, iteF ?_⟩
        have hr : r < p.rows.length := O.here r (by rw [← er2]; exact hh)
        refine ⟨_, rfl, q, dx2, fs2, rfl, h1, l1, q, ad, aw, as_, p, y, spinS p y j, r, rfl, D2, g, yk, by rw [er1]; exact O.m, by rw [er1]; exact O.w, by rw [er1]; have := O.said; omega, hh, hr, fun t H3 b3 nt e3 D3 => ?_⟩
        refine ⟨_, _, rfl, same_but4 s2 b3 hq nad naw nas, ?_⟩
        have e : spinS p y (j + 1) = goD1 p y (spinS p y j) r := by
          show turnD p y (spinS p y j) = _
          unfold turnD
          rw [hh]
        rw [e]
        exact D3
    · rintro σ H2 ⟨x4, x5, rfl, s2, D2⟩
      exact ⟨_, _, rfl, s2, D2⟩
end
end DL
namespace DL
open PySem L2 DLR
/-! ### the beats of a drum that goes are those of its goes -/
def wsum (c : Int × Int → Int) (g : GL) : Int := (g.map fun e => cntV e * c e.1).sum
theorem wsum_cons (c : Int × Int → Int) (e : (Int × Int) × V) (g : GL) : wsum c (e :: g) = cntV e * c e.1 + wsum c g := by
  unfold wsum
  rw [List.map_cons, List.sum_cons]
theorem wsum_app (c : Int × Int → Int) : ∀ (g h : GL), wsum c (g ++ h) = wsum c g + wsum c h
  | [], h => by unfold wsum; simp
  | e :: g, h => by
    rw [List.cons_append, wsum_cons, wsum_cons, wsum_app c g h]
    omega
theorem wsum_in (f : Int × Int → Int) {q : Int × Int} {c : Int} : ∀ {g : GL}, (g.map (·.1)).Nodup → valV g q = some (.int c) →
    wsum f (g.map fun x => if x.1 = q then (x.1, V.int (c + 1)) else x) = wsum f g + f q
  | [], _, h => by cases h
  | e :: g, nd, h => by
    have nd2 : e.1 ∉ g.map (·.1) ∧ (g.map (·.1)).Nodup := List.nodup_cons.mp nd
    by_cases z : e.1 = q
    · rw [valV_pos z] at h
      have hv : e.2 = .int c := Option.some.inj h
      rw [List.map_cons, wsum_cons, wsum_cons, if_pos z, map_same (by rw [← z]; exact nd2.1)]
      show (c + 1) * f e.1 + wsum f g = _
      have hc : cntV e = c := by unfold cntV; rw [hv]; rfl
      rw [hc, z, Int.add_mul, Int.one_mul]
      omega
    · rw [valV_neg z] at h
      rw [List.map_cons, wsum_cons, wsum_cons, if_neg z, wsum_in f nd2.2 h]
      omega
theorem wsum_bump (f : Int × Int → Int) {g : GL} {q : Int × Int} (nd : (g.map (·.1)).Nodup) (ok : ∀ e ∈ g, ∃ c, e.2 = V.int c) : wsum f (bump g q) = wsum f g + f q := by
  unfold bump
  by_cases h : q ∈ g.map (·.1)
  · rw [put_in h]
    exact wsum_in f nd (ggot ok h)
  · rw [put_out h, valV_no h, wsum_app]
    unfold wsum
    show _ + (((0 : Int) + 1) * f q + 0) = _
    omega
theorem wsum_keys (f : Int × Int → Int) {g : GL} (nd : (g.map (·.1)).Nodup) : wsum f g = ((g.map (·.1)).map fun q => gcount (valV g q) * f q).sum := by
  unfold wsum
  rw [List.map_map]
  congr 1
  refine List.map_congr_left fun e he => ?_
  show cntV e * f e.1 = gcount (valV g e.1) * f e.1
  rw [valV_at nd he]
  rfl
theorem minL_add (c : Int) : ∀ {l : List Int}, l ≠ [] → minL (l.map (· + c)) = minL l + c
  | [], h => absurd rfl h
  | [x], _ => rfl
  | x :: y :: l, _ => by
    have ih := minL_add c (l := y :: l) (by simp)
    show min (x + c) (minL ((y :: l).map (· + c))) = min x (minL (y :: l)) + c
    rw [ih]
    omega
theorem maxL_add (c : Int) : ∀ {l : List Int}, l ≠ [] → maxL (l.map (· + c)) = maxL l + c
  | [], h => absurd rfl h
  | [x], _ => rfl
  | x :: y :: l, _ => by
    have ih := maxL_add c (l := y :: l) (by simp)
    show max (x + c) (maxL ((y :: l).map (· + c))) = max x (maxL (y :: l)) + c
    rw [ih]
    omega
theorem comes_add {y : Lay} {w : Nat} {t k : Int} : comes y w (t + k * (y.wide : Int)) = (comes y w t).map (· + k * (y.wide : Int)) := by
  unfold comes comesL
  rw [List.map_map]
  refine List.map_congr_left fun h _ => ?_
  show fb (t + k * (y.wide : Int) + 1) h y.wide = fb (t + 1) h y.wide + k * (y.wide : Int)
  rw [show t + k * (y.wide : Int) + 1 = t + 1 + k * (y.wide : Int) by omega]
  exact fb_shift (k := -k) (by rw [Int.neg_mul]; omega)
theorem behind_add {y : Lay} {r : Row} {t k : Int} (hne : ∀ w, usesW r = some w → y.homes.getD w [] ≠ []) : behindF y r (t + k * (y.wide : Int)) = behindF y r t + k * (y.wide : Int) := by
  have cne : ∀ w, usesW r = some w → comes y w t ≠ [] := fun w hw z => hne w hw (by unfold comes comesL at z; exact List.map_eq_nil_iff.mp z)
  unfold behindF
  cases r with
  | load w n => simp only [useF]; rw [comes_add, minL_add _ (cne w rfl)]; omega
  | add w n => simp only [useF]; rw [comes_add, minL_add _ (cne w rfl)]; omega
  | take w n => simp only [useF]; rw [comes_add, minL_add _ (cne w rfl)]; omega
  | store w n => simp only [useF]; rw [comes_add, maxL_add _ (cne w rfl)]; omega
  | say n => simp only [useF]; omega
  | test a b => simp only [useF]; omega
  | stop => simp only [useF]; omega
theorem pl_lt {p : Prog} {y : Lay} (yk : LayOk p y) (x : Nat) : y.places.getD x 0 < y.wide := by
  rcases Nat.lt_or_ge x y.places.length with h | h
  · rw [List.getD_eq_getElem?_getD, List.getElem?_eq_getElem h]
    exact yk.pok _ (List.getElem_mem h)
  · rw [List.getD_eq_getElem?_getD, List.getElem?_eq_none h]
    have := yk.w2
    show 0 < _
    omega
theorem home_ne {p : Prog} {y : Lay} (g : Good p) (yk : LayOk p y) (u w : Nat) (h : usesW (p.rows.getD u .stop) = some w) : y.homes.getD w [] ≠ [] := by
  have hw : w < y.homes.length := by rw [yk.hl]; exact usesW_lt (row_ok g u) h
  rw [List.getD_eq_getElem?_getD, List.getElem?_eq_getElem hw]
  intro z
  have q := (yk.hok _ (List.getElem_mem hw)).l1
  rw [show y.homes[w] = [] from z] at q
  exact absurd q (by decide)
def cstG (y : Lay) (rows : List Row) (q : Int × Int) : Int := costF y rows q.1.toNat q.2.toNat
theorem spinS_go {p : Prog} {y : Lay} {k r : Nat} (h : (runS p k).here = some r) : (spinS p y (k + 1)).now = behindF y (p.rows.getD r .stop) (fb (spinS p y k).now (y.places.getD r 0) y.wide) := by
  show (turnD p y (spinS p y k)).now = _
  unfold turnD
  rw [(spin_run p y k).2, h]
  rfl
theorem spin_at {p : Prog} {y : Lay} (g : Good p) (yk : LayOk p y) : ∀ k r, (runS p k).here = some r → fb (spinS p y k).now (y.places.getD r 0) y.wide = ((y.places.getD 0 0 : Nat) : Int) + wsum (cstG y p.rows) (runS p k).goes
  | 0, r, h => by
    have e : r = 0 := (Option.some.inj h).symm
    subst e
    show fb 0 (y.places.getD 0 0) y.wide = _ + 0
    have q := pl_lt yk 0
    refine (fb_uniq (now := 0) (x := ((y.places.getD 0 0 : Nat) : Int)) q (by omega) ?_ (Int.emod_eq_of_lt (by omega) (by omega))).symm.trans (by omega)
    unfold fb
    rw [Int.sub_zero, Int.emod_eq_of_lt (by omega) (by omega)]
    omega
  | k + 1, n, h => by
    obtain ⟨cur, I⟩ := runS_goes g k
    have O := runS_ok g k
    cases hh : (runS p k).here with
    | none =>
      have e : runS p (k + 1) = runS p k := runS_none hh 1
      rw [e, hh] at h
      cases h
    | some r =>
      have ih := spin_at g yk k r hh
      have eg := runS_goE hh
      have hn : (stepM (runS p k).m (p.rows.getD r .stop)).2 = some n := by
        have q := congrArg RS.here eg
        rw [h] at q
        exact q.symm
      have egoes : (runS p (k + 1)).goes = bump (runS p k).goes ((r : Int), (n : Int)) := by rw [eg, hn]; rfl
      rw [egoes, wsum_bump _ I.nd O.gok, spinS_go hh, ih, ← Int.add_assoc]
      have hm := fb_mod (now := (spinS p y k).now) (pl_lt yk r)
      rw [ih] at hm
      generalize ((y.places.getD 0 0 : Nat) : Int) + wsum (cstG y p.rows) (runS p k).goes = R at hm ⊢
      have eR : R = ((y.places.getD r 0 : Nat) : Int) + (R / (y.wide : Int)) * (y.wide : Int) := by
        rw [Int.emod_def] at hm
        rw [Int.mul_comm]
        omega
      show fb (behindF y (p.rows.getD r .stop) R) (y.places.getD n 0) y.wide = _
      generalize R / (y.wide : Int) = j at eR
      subst eR
      rw [behind_add (home_ne g yk r), fb_shift (p := y.places.getD n 0) (k := -j) (by rw [Int.neg_mul]; omega)]
      have ec : cstG y p.rows ((r : Int), (n : Int)) = fb (behindF y (p.rows.getD r .stop) ((y.places.getD r 0 : Nat) : Int)) (y.places.getD n 0) y.wide - ((y.places.getD r 0 : Nat) : Int) := rfl
      rw [ec]
      omega
theorem spin_end_now {p : Prog} {y : Lay} (g : Good p) (yk : LayOk p y) : ∀ k, (runS p k).here = none → (spinS p y k).now = ((y.places.getD 0 0 : Nat) : Int) + 1 + wsum (cstG y p.rows) (runS p k).goes
  | 0, h => by cases h
  | k + 1, h => by
    cases hh : (runS p k).here with
    | none =>
      have e : runS p (k + 1) = runS p k := runS_none hh 1
      have e2 : spinS p y (k + 1) = spinS p y k := spin_end (by rw [(spin_run p y k).2]; exact hh) 1
      rw [e, e2]
      exact spin_end_now g yk k hh
    | some r =>
      have eg := runS_goE hh
      have hn : (stepM (runS p k).m (p.rows.getD r .stop)).2 = none := by
        have q := congrArg RS.here eg
        rw [h] at q
        exact q.symm
      have egoes : (runS p (k + 1)).goes = (runS p k).goes := by rw [eg, hn]; rfl
      have hst : p.rows.getD r .stop = .stop := by
        cases hrow : p.rows.getD r .stop with
        | stop => rfl
        | load _ _ => rw [hrow] at hn; cases hn
        | add _ _ => rw [hrow] at hn; cases hn
        | take _ _ => rw [hrow] at hn; cases hn
        | store _ _ => rw [hrow] at hn; cases hn
        | say _ => rw [hrow] at hn; cases hn
        | test _ _ => rw [hrow] at hn; cases hn
      rw [egoes, spinS_go hh, spin_at g yk k r hh, hst]
      show _ + work .stop + 1 = _
      show _ + 0 + 1 = _
      show useF y _ .stop + 0 + 1 = _
      simp only [useF]
      omega
theorem beats_spin {p : Prog} {y : Lay} {fuel : Nat} {L : List (Int × Int)} (g : Good p) (yk : LayOk p y) (hn : (runS p fuel).here = none) (pm : L.Perm ((runS p fuel).goes.map (·.1))) : beatsF y p.rows (L.map (goOf (runS p fuel).goes)) = (spinS p y fuel).now := by
  obtain ⟨cur, I⟩ := runS_goes g fuel
  rw [spin_end_now g yk fuel hn, wsum_keys _ I.nd, ← perm_sum pm]
  unfold beatsF
  rw [List.map_map]
  rfl
end DL
namespace DL
open PySem L2 DLR
/-! ### displays as data -/
mutual
theorem At.sm {H H' : Hp} (s : Same1 H H') : ∀ (d : D) (v : V), At H v d → At H' v d
  | .non, v, h => by simpa [At] using h
  | .bl b, v, h => by simpa [At] using h
  | .int i, v, h => by simpa [At] using h
  | .str x, v, h => by simpa [At] using h
  | .lst ds, v, h => by
    obtain ⟨a, vs, rfl, h1, h2⟩ : ∃ a vs, v = .ref a ∧ H a = some (.lst vs) ∧ Ats H vs ds := by simpa [At] using h
    have q := Ats.sm s ds vs h2
    simp only [At]
    exact ⟨a, vs, rfl, s _ _ h1, q⟩
  | .tup ds, v, h => by
    obtain ⟨a, vs, rfl, h1, h2⟩ : ∃ a vs, v = .ref a ∧ H a = some (.tup vs) ∧ Ats H vs ds := by simpa [At] using h
    have q := Ats.sm s ds vs h2
    simp only [At]
    exact ⟨a, vs, rfl, s _ _ h1, q⟩
theorem Ats.sm {H H' : Hp} (s : Same1 H H') : ∀ (ds : List D) (vs : List V), Ats H vs ds → Ats H' vs ds
  | [], [], _ => by simp [Ats]
  | d :: ds, v :: vs, h => by
    have h : At H v d ∧ Ats H vs ds := by simpa [Ats] using h
    simp only [Ats]
    exact ⟨At.sm s d v h.1, Ats.sm s ds vs h.2⟩
  | [], _ :: _, h => by simp [Ats] at h
  | _ :: _, [], h => by simp [Ats] at h
end
theorem At.intI {H : Hp} {v : V} {i : Int} (h : At H v (.int i)) : v = .int i := by simpa [At] using h
theorem At.strI {H : Hp} {v : V} {x : Str} (h : At H v (.str x)) : v = .str x := by simpa [At] using h
theorem At.tupI {H : Hp} {v : V} {ds : List D} (h : At H v (.tup ds)) : ∃ a vs, v = .ref a ∧ H a = some (.tup vs) ∧ Ats H vs ds := by simpa [At] using h
theorem At.lstI {H : Hp} {v : V} {ds : List D} (h : At H v (.lst ds)) : ∃ a vs, v = .ref a ∧ H a = some (.lst vs) ∧ Ats H vs ds := by simpa [At] using h
theorem At.tupO {H : Hp} {a : Addr} {vs : List V} {ds : List D} (h : H a = some (.tup vs)) (q : Ats H vs ds) : At H (.ref a) (.tup ds) := by
  simp only [At]
  exact ⟨a, vs, rfl, h, q⟩
theorem At.lstO {H : Hp} {a : Addr} {vs : List V} {ds : List D} (h : H a = some (.lst vs)) (q : Ats H vs ds) : At H (.ref a) (.lst ds) := by
  simp only [At]
  exact ⟨a, vs, rfl, h, q⟩
theorem At.intO {H : Hp} {i : Int} : At H (.int i) (.int i) := by simp only [At]
theorem At.strO {H : Hp} {x : Str} : At H (.str x) (.str x) := by simp only [At]
theorem Ats.nilO {H : Hp} : Ats H [] [] := by simp only [Ats]
theorem Ats.consO {H : Hp} {v : V} {vs : List V} {d : D} {ds : List D} (h : At H v d) (q : Ats H vs ds) : Ats H (v :: vs) (d :: ds) := by
  simp only [Ats]
  exact ⟨h, q⟩
theorem Ats.consI {H : Hp} {vs : List V} {d : D} {ds : List D} (h : Ats H vs (d :: ds)) : ∃ v us, vs = v :: us ∧ At H v d ∧ Ats H us ds := by
  cases vs with
  | nil => simp [Ats] at h
  | cons v us =>
    have h : At H v d ∧ Ats H us ds := by simpa [Ats] using h
    exact ⟨v, us, rfl, h.1, h.2⟩
theorem Ats.nilI {H : Hp} {vs : List V} (h : Ats H vs []) : vs = [] := by
  cases vs with
  | nil => rfl
  | cons v us => simp [Ats] at h
def LitE (H0 : Hp) (σ : L2.St) (t : TE) (d : D) : Prop := ∀ (H : Hp) (Q : VK), Same1 H0 H → (∀ v H', Same1 H H' → At H' v d → Q v H') → t σ H Q
def LitA (H0 : Hp) (σ : L2.St) (t : TA) (ds : List D) (n : Nat) : Prop := ds.length = n ∧ ∀ (H : Hp) (Q : List V → Hp → Prop), Same1 H0 H → (∀ vs H', Same1 H H' → Ats H' vs ds → Q vs H') → t σ H Q
variable {H0 : Hp} {σ : L2.St}
theorem lit_int {i : Int} : LitE H0 σ (tC (.int i)) (.int i) := fun H Q _ k => k _ H (Same.refl _) At.intO
theorem lit_str {x : Str} : LitE H0 σ (tC (.str x)) (.str x) := fun H Q _ k => k _ H (Same.refl _) At.strO
theorem lit_var {i : Nat} {v : V} {d : D} (h : σ[i]? = some (some v)) (a : At H0 v d) : LitE H0 σ (tVar i) d := fun H Q s k => ⟨v, h, k v H (Same.refl _) (At.sm s _ _ a)⟩
theorem lit_vint {i : Nat} {n : Int} (h : σ[i]? = some (some (.int n))) : LitE H0 σ (tVar i) (.int n) := lit_var h At.intO
theorem lit_of {t : TE} {n : Int} (h : ∀ (H : Hp) (Q : VK), Q (.int n) H → t σ H Q) : LitE H0 σ t (.int n) := fun H Q _ k => h H Q (k _ H (Same.refl _) At.intO)
theorem lit_nil : LitA H0 σ tNil [] 0 := ⟨rfl, fun H Q _ k => k [] H (Same.refl _) Ats.nilO⟩
theorem lit_cons {t : TE} {ts : TA} {d : D} {ds : List D} {n : Nat} (h : LitE H0 σ t d) (hr : LitA H0 σ ts ds n) : LitA H0 σ (tCons t ts) (d :: ds) (n + 1) := ⟨congrArg (· + 1) hr.1, fun H Q s k =>
  h H _ s fun v H1 s1 a1 => hr.2 H1 _ (s.trans s1) fun vs H2 s2 a2 => k (v :: vs) H2 (s1.trans s2) (Ats.consO (At.sm s2 _ _ a1) a2)⟩
theorem lit_tup {ts : TA} {ds : List D} {n : Nat} (hr : LitA H0 σ ts ds n) (hl : n ≤ 1000 := by decide) : LitE H0 σ (tTup ts) (.tup ds) := fun H Q s k =>
  hr.2 H _ s fun vs H1 s1 a1 => ⟨sz (by rw [a1.len, hr.1]; omega), fun p hp => k _ _ (Same.mut s1 (s1.free hp)) (At.tupO upd_same (Ats.sm (Same.new hp) _ _ a1))⟩
theorem lit_lst {ts : TA} {ds : List D} {n : Nat} (hr : LitA H0 σ ts ds n) (hl : n ≤ 1000 := by decide) : LitE H0 σ (tLst ts) (.lst ds) := fun H Q s k =>
  hr.2 H _ s fun vs H1 s1 a1 => ⟨sz (by rw [a1.len, hr.1]; omega), fun p hp => k _ _ (Same.mut s1 (s1.free hp)) (At.lstO upd_same (Ats.sm (Same.new hp) _ _ a1))⟩
theorem LitE.asg {t : TE} {d : D} {H : Hp} {g : TG} {u : TS} {D0 : Ends} (h : LitE H σ t d) (k : ∀ v H', Same1 H H' → At H' v d → g v σ H' (u D0)) : tSeq (tAsg t g) u D0 σ H := h H _ (Same.refl _) k
theorem LitE.ret {t : TE} {d : D} {H : Hp} {D0 : Ends} (h : LitE H σ t d) (k : ∀ v H', Same1 H H' → At H' v d → D0.rt v H') : tRet t D0 σ H := h H _ (Same.refl _) k
theorem LitE.go {t : TE} {d : D} {H : Hp} {Q : VK} (h : LitE H σ t d) (k : ∀ v H', Same1 H H' → At H' v d → Q v H') : t σ H Q := h H Q (Same.refl _) k
theorem ats_rep {H : Hp} {v : V} {d : D} (h : At H v d) : ∀ n, Ats H (List.replicate n v) (List.replicate n d)
  | 0 => Ats.nilO
  | n + 1 => Ats.consO h (ats_rep h n)
theorem lit_rep0 {te : TE} {n : Nat} (hn : n ≤ 1000) (h : ∀ (H : Hp) (Q : VK), Q (.int (n : Int)) H → te σ H Q) : LitE H0 σ (tOp rRep (tLst (tCons (tC (.int 0)) tNil)) te) (.lst (List.replicate n (.int 0))) := fun H Q s k => by
  refine ⟨(by show 1 ≤ sizeLine; decide), fun l hl => ?_⟩
  refine alloc hl fun H1 s1 e1 => ?_
  refine h H1 _ ⟨l, _, _, rfl, rfl, e1, by omega, by omega, ?_, fun p hp => ?_⟩
  · refine sz ?_
    show 1 * _ ≤ _
    omega
  refine alloc hp fun H2 s2 e2 => ?_
  rw [List.flatten_replicate_singleton, Int.toNat_natCast] at e2
  exact k _ H2 (s1.trans s2) (At.lstO e2 (ats_rep At.intO _))
theorem lit_tupof {K : Frg} {t : TE} {ds : List D} (h : LitE H0 σ t (.lst ds)) : LitE H0 σ (tCB (fun xs H Q => ∃ p ys, xs = [V.ref p] ∧ ((SqL K H p ys ∧ ∀ l, H l = none → Q (.ref l) (upd H l (.tup ys))) ∨ (SqT K H p ys ∧ Q (.ref p) H))) (tCons t tNil)) (.tup ds) := fun H Q s k =>
  h H _ s fun v H1 s1 a1 => by
    obtain ⟨p, ys, rfl, e, q⟩ := a1.lstI
    exact ⟨p, ys, rfl, .inl ⟨SqL.of e, fun l hl => k _ _ (Same.mut s1 (s1.free hl)) (At.tupO upd_same (Ats.sm (Same.new hl) _ _ q))⟩⟩
/-! programs and layings as data -/
def rowL : Row → D
  | .load w n => .tup [.str "load", .int (w : Int), .int (n : Int)]
  | .add w n => .tup [.str "add", .int (w : Int), .int (n : Int)]
  | .take w n => .tup [.str "take", .int (w : Int), .int (n : Int)]
  | .store w n => .tup [.str "store", .int (w : Int), .int (n : Int)]
  | .say n => .tup [.str "say", .int (n : Int)]
  | .test a b => .tup [.str "test", .int (a : Int), .int (b : Int)]
  | .stop => .tup [.str "stop"]
def natL (n : Nat) : D := .int (n : Int)
def litP (p : Prog) : D := .tup [.tup (p.ws.map dI), .tup (p.rows.map rowL)]
theorem row_at {H : Hp} {v : V} (r : Row) (h : At H v (rowL r)) : ∃ b, v = .ref b ∧ H b = some (.tup (rowVs r)) := by
  have two : ∀ {x : Str} {m n : Int}, At H v (.tup [.str x, .int m, .int n]) → ∃ b, v = .ref b ∧ H b = some (.tup [.str x, .int m, .int n]) := by
    intro x m n h
    obtain ⟨a, vs, rfl, h1, h2⟩ := h.tupI
    obtain ⟨v1, vs, rfl, a1, h2⟩ := h2.consI
    obtain ⟨v2, vs, rfl, a2, h2⟩ := h2.consI
    obtain ⟨v3, vs, rfl, a3, h2⟩ := h2.consI
    have e := h2.nilI
    subst e
    rw [a1.strI, a2.intI, a3.intI] at h1
    exact ⟨a, rfl, h1⟩
  cases r with
  | load w n => exact two h
  | add w n => exact two h
  | take w n => exact two h
  | store w n => exact two h
  | test x y => exact two h
  | say n =>
    obtain ⟨a, vs, rfl, h1, h2⟩ := At.tupI (show At H v (.tup [.str "say", .int (n : Int)]) from h)
    obtain ⟨v1, vs, rfl, a1, h2⟩ := h2.consI
    obtain ⟨v2, vs, rfl, a2, h2⟩ := h2.consI
    have e := h2.nilI
    subst e
    rw [a1.strI, a2.intI] at h1
    exact ⟨a, rfl, h1⟩
  | stop =>
    obtain ⟨a, vs, rfl, h1, h2⟩ := At.tupI (show At H v (.tup [.str "stop"]) from h)
    obtain ⟨v1, vs, rfl, a1, h2⟩ := h2.consI
    have e := h2.nilI
    subst e
    rw [a1.strI] at h1
    exact ⟨a, rfl, h1⟩
theorem rows_at {H : Hp} : ∀ (rows : List Row) {vs : List V}, Ats H vs (rows.map rowL) → ∃ bs, vs = bs.map V.ref ∧ RowsAt H bs rows
  | [], vs, h => ⟨[], h.nilI, .nil⟩
  | r :: rows, vs, h => by
    obtain ⟨v, us, rfl, h1, h2⟩ := Ats.consI h
    obtain ⟨b, rfl, e⟩ := row_at r h1
    obtain ⟨bs, rfl, hb⟩ := rows_at rows h2
    exact ⟨b :: bs, rfl, .cons e hb⟩
theorem ints_of {H : Hp} : ∀ (l : List Int) {vs : List V}, Ats H vs (l.map dI) → vs = l.map V.int
  | [], vs, h => h.nilI
  | x :: l, vs, h => by
    obtain ⟨v, us, rfl, h1, h2⟩ := Ats.consI h
    rw [At.intI h1, ints_of l h2]
    rfl
theorem nats_of_ {H : Hp} : ∀ (l : List Nat) {vs : List V}, Ats H vs (l.map natL) → vs = l.map nI
  | [], vs, h => h.nilI
  | x :: l, vs, h => by
    obtain ⟨v, us, rfl, h1, h2⟩ := Ats.consI h
    rw [At.intI h1, nats_of_ l h2]
    rfl
theorem litP_at {H : Hp} {v : V} {p : Prog} (h : At H v (litP p)) : ∃ pa, v = .ref pa ∧ ProgAt H pa p := by
  obtain ⟨a, vs, rfl, h1, h2⟩ := At.tupI h
  obtain ⟨v1, vs, rfl, a1, h2⟩ := h2.consI
  obtain ⟨v2, vs, rfl, a2, h2⟩ := h2.consI
  have e := h2.nilI
  subst e
  obtain ⟨wa, ws, rfl, w1, w2⟩ := a1.tupI
  obtain ⟨ra, rs, rfl, r1, r2⟩ := a2.tupI
  rw [ints_of _ w2] at w1
  obtain ⟨bs, rfl, hb⟩ := rows_at _ r2
  exact ⟨a, rfl, wa, ra, bs, h1, w1, r1, hb⟩
theorem row_ats {H : Hp} {b : Addr} (r : Row) (h : H b = some (.tup (rowVs r))) : At H (.ref b) (rowL r) := by
  cases r with
  | load w n => exact At.tupO h (.consO .strO (.consO .intO (.consO .intO .nilO)))
  | add w n => exact At.tupO h (.consO .strO (.consO .intO (.consO .intO .nilO)))
  | take w n => exact At.tupO h (.consO .strO (.consO .intO (.consO .intO .nilO)))
  | store w n => exact At.tupO h (.consO .strO (.consO .intO (.consO .intO .nilO)))
  | say n => exact At.tupO h (.consO .strO (.consO .intO .nilO))
  | test x y => exact At.tupO h (.consO .strO (.consO .intO (.consO .intO .nilO)))
  | stop => exact At.tupO h (.consO .strO .nilO)
theorem rows_ats {H : Hp} : ∀ {bs : List Addr} {rows : List Row}, RowsAt H bs rows → Ats H (bs.map V.ref) (rows.map rowL)
  | _, _, .nil => Ats.nilO
  | _, _, .cons h t => Ats.consO (row_ats _ h) (rows_ats t)
theorem litP_ats {H : Hp} {pa : Addr} {p : Prog} (h : ProgAt H pa p) : At H (.ref pa) (litP p) := by
  obtain ⟨wa, ra, bs, h1, h2, h3, h4⟩ := h
  exact At.tupO h1 (.consO (At.tupO h2 (ats_ints H p.ws)) (.consO (At.tupO h3 (rows_ats h4)) .nilO))
end DL
namespace DLR
open PySem PySem.Spec PyProof.Rows L2 LamX
/-! ### a lambda as a value: with or without one default, kept in lists, called later by a def that gets it -/
abbrev lamFd (q : Str) (ps : Arguments) (b : Expr) (sc : Scope) (cl : List (Str × Addr)) (dV doc pm cdv ct : Value) : FuncData := PySem.W.kdv_fn "<lambda>" q ps (.expr b) sc cl dV doc pm cdv ct
abbrev lamOb (q : Str) (ps : Arguments) (b : Expr) (sc : Scope) (cl : List (Str × Addr)) (dV doc pm : Value) (c' : Addr) (ct : Value) : Obj := PySem.W.kdv_obj "<lambda>" q ps (.expr b) sc cl dV doc pm c' ct
def LamO (f : Addr) (o : Obj) : HO := .ext fun h => h.get? f = some o
theorem lamO_ne {f : Addr} {o : Obj} (ps : Array Value) : LamO f o ≠ .tbl ps := fun z => by
  unfold LamO at z
  cases z
section
variable {X : Cx} {pins : List (Addr × Obj)} {σ : L2.St} {H : Hp} {s : Shared}
theorem tabs_more {T : List (Addr × Str)} {P c' : Addr} {q : Str} {pos : Pos} {ps : Array Value} (hT : Tabs T H) (hP : H P = some (.tbl ps)) (ht : TriplesOk ps.toList) (hu : ∀ p ∈ T, p.1 = P → p.2 = q)
    (ha : ∀ (pos : Pos) (cv : Value), codeAmong pos ps.toList = some cv → ∃ c, cv = .ref c ∧ H c = some (CodeO c q)) (nC : H c' = none) :
    ExtN H (upd (upd H P (.tbl (ps ++ #[rawInt pos.line, rawInt pos.col, .ref c']))) c' (CodeO c' q)) ∧ Tabs T (upd (upd H P (.tbl (ps ++ #[rawInt pos.line, rawInt pos.col, .ref c']))) c' (CodeO c' q)) := by
  have nPc : P ≠ c' := ne_of_none hP nC
  have ext : ExtN H (upd (upd H P (.tbl (ps ++ #[rawInt pos.line, rawInt pos.col, .ref c']))) c' (CodeO c' q)) := fun b o e n => by
    have n1 : b ≠ c' := ne_of_none e nC
    have n2 : b ≠ P := fun z => by
      subst z
      exact n ps (Option.some.inj (e.symm.trans hP))
    rw [upd_ne n1, upd_ne n2, e]
  refine ⟨ext, fun p hp => ?_⟩
  have eL : (ps ++ #[rawInt pos.line, rawInt pos.col, .ref c']).toList = ps.toList ++ [rawInt pos.line, rawInt pos.col, .ref c'] := by simp
  by_cases hb : p.1 = P
  · refine ⟨ps ++ #[rawInt pos.line, rawInt pos.col, .ref c'], ?_, ?_, fun p' cv hcv => ?_⟩
    · rw [hb, upd_ne nPc, upd_same]
    · rw [eL]
      exact PySem.TriplesOk_snoc _ _ _ _ ht
    · rw [eL] at hcv
      rw [hu p hp hb]
      rcases among_app _ ht hcv with z | rfl
      · obtain ⟨c0, rfl, e2⟩ := ha p' cv z
        exact ⟨c0, rfl, ext _ _ e2 codeO_ne⟩
      · exact ⟨c', rfl, upd_same⟩
  · obtain ⟨ps', a1, a2, a3⟩ := hT p hp
    refine ⟨ps', ?_, a2, fun p' cv hcv => ?_⟩
    · rw [upd_ne (ne_of_none a1 nC), upd_ne hb, a1]
    · obtain ⟨c0, rfl, e2⟩ := a3 p' cv hcv
      exact ⟨c0, rfl, ext _ _ e2 codeO_ne⟩
theorem lam_tail {T : List (Addr × Str)} {c P : Addr} {params : Arguments} {body : Expr} {scope : Scope} {pos : Pos} {E : Value → Shared → Prop} {Q : Value → Shared → Prop} {dV : Value} (I : Inv X pins σ H s) (TB : TabB X.base X.mg c P) (hcode : X.env.code = .ref c)
    (hm : (P, X.env.qual ++ "<lambda>") ∈ T) (hu : ∀ p ∈ T, p.1 = P → p.2 = X.env.qual ++ "<lambda>") (hT : Tabs T H) (hfree : ∀ y ∈ scope.names, y.2 = .free → ∃ c, X.env.cells.lookup y.1 = some c)
    (h : ∀ (f c' : Addr) (doc pm ctv : Value) (H1 : Hp) (s' : Shared), Inv X pins σ H1 s' → ExtN H H1 → Tabs T H1 → H f = none →
      H1 f = some (LamO f (lamOb (X.env.qual ++ "<lambda>") params body scope (cloFrom X.env.cells scope.names []) dV doc pm c' ctv)) → H1 c' = some (CodeO c' (X.env.qual ++ "<lambda>")) → Q (.ref f) s') :
    wpAny (model X.prog X.w) X.A (makeTail "<lambda>" (X.env.qual ++ "<lambda>") params (.expr body) scope X.env dV .none none pos pos.line) Q E s := by
  obtain ⟨ps, hP, ht, ha⟩ := hT _ hm
  have bP : s.heap.BuiltinsAt X.mg P := TB.bm.keeps I.bk
  have hP' : s.heap.get? P = some { cls := .none, data := .fields ps } := I.hok P _ hP
  have fin : ∀ (h' : Heap) (tk tk2 : Nat) (H' : Hp) (c' : Addr) (doc pm ctv : Value), s.heap.objs.size ≤ h'.objs.size → Inv X pins σ H' { s with heap := h', toks := tk } → ExtN H H' → Tabs T H' → H' c' = some (CodeO c' (X.env.qual ++ "<lambda>")) →
      Q (.ref h'.objs.size) { s with heap := h'.push (lamOb (X.env.qual ++ "<lambda>") params body scope (cloFrom X.env.cells scope.names []) dV doc pm c' ctv), toks := tk2 } := by
    intro h' tk tk2 H' c' doc pm ctv hsz J e1 t1 hc
    have nF : H' h'.objs.size = none := J.hok.fresh (Nat.le_refl _)
    have J2 := J.laid (a := h'.objs.size) (o := LamO h'.objs.size (lamOb (X.env.qual ++ "<lambda>") params body scope (cloFrom X.env.cells scope.names []) dV doc pm c' ctv))
      (h' := h'.push (lamOb (X.env.qual ++ "<lambda>") params body scope (cloFrom X.env.cells scope.names []) dV doc pm c' ctv)) (t' := tk2)
      (fun b u e => Heap.get?_push_of_some _ e) (Nat.le_refl _) ⟨Heap.get?_push_size _ rfl, ⟨_, Heap.get?_push_size _ rfl⟩, fun h1 h2 p st => st _ p⟩
    have st : ∀ b o, H' b = some o → upd H' h'.objs.size (LamO h'.objs.size (lamOb (X.env.qual ++ "<lambda>") params body scope (cloFrom X.env.cells scope.names []) dV doc pm c' ctv)) b = some o := fun b o e => by
      rw [upd_ne (ne_of_none e nF), e]
    exact h _ c' doc pm ctv _ _ J2 (e1.trans (ExtN.of st)) (t1.ext st) (I.hok.fresh hsz) upd_same (st _ _ hc)
  cases hc : codeAmong pos ps.toList with
  | none =>
    refine PySem.W.kdv_makeTail (mg := X.mg) (c := c) (P := P) (ps := ps) (closure_ok hfree) I.ok.glob (I.mod.glob.keeps I.bk) hcode (TB.code.keeps I.bk) hP' ht hc TB.gP bP fun c' ctv doc h' tk hx hge hlt hrec htb => ?_
    obtain ⟨c2, oc, vs, t, e2, hoc, hd, hv⟩ := hrec
    cases e2
    have nC : H c' = none := I.hok.fresh hge
    obtain ⟨x1, x2⟩ := tabs_more (pos := pos) hT hP ht hu ha nC
    exact fin h' tk tk _ c' doc _ ctv (Nat.le_trans hge (Nat.le_of_lt hlt)) (inv_table (t' := tk) (more := #[rawInt pos.line, rawInt pos.col, .ref c']) I hP hx htb hge ⟨oc, vs, t, hoc, hd, hv⟩) x1 x2 upd_same
  | some cv =>
    obtain ⟨c', rfl, hco⟩ := ha pos cv hc
    refine PySem.W.kdv_makeTailHit (mg := X.mg) (c := c) (P := P) (ps := ps) (closure_ok hfree) I.ok.glob (I.mod.glob.keeps I.bk) hcode (TB.code.keeps I.bk) hP' ht hc bP fun ctv doc h' tk hx hsz => ?_
    exact fin h' s.toks tk H c' doc _ ctv hsz (I.kept (t' := s.toks) hx) (ExtN.refl H) hT hco
end
structure LamN (N : List Str) (sc scope : Scope) : Prop where
  kind : scope.kind = .function
  co : scope.isCoroutine = false
  gen : scope.isGenerator = false
  own : ∀ y ∈ scope.names, y.2 ≠ .cell ∧ (y.2 = .local → y.1 ∉ N)
  free : ∀ y ∈ scope.names, y.2 = .free → sc.names.lookup y.1 = some .cell ∨ sc.names.lookup y.1 = some .free
def lamNB (N : List Str) (sc scope : Scope) : Bool :=
  decide (scope.kind = .function) && !scope.isCoroutine && !scope.isGenerator && scope.names.all fun y => !decide (y.2 = .cell) && (!decide (y.2 = .local) || !decide (y.1 ∈ N)) && (!decide (y.2 = .free) || decide (sc.names.lookup y.1 = some .cell) || decide (sc.names.lookup y.1 = some .free))
theorem lamN_by {N : List Str} {sc scope : Scope} (h : lamNB N sc scope = true) : LamN N sc scope := by
  unfold lamNB at h
  simp only [Bool.and_eq_true, Bool.or_eq_true, Bool.not_eq_true', decide_eq_true_eq, decide_eq_false_iff_not, List.all_eq_true] at h
  obtain ⟨⟨⟨h1, h2⟩, h3⟩, h4⟩ := h
  refine ⟨h1, h2, h3, fun y hy => ⟨(h4 y hy).1.1, fun e => ?_⟩, fun y hy e => ?_⟩
  · rcases (h4 y hy).1.2 with z | z
    · exact absurd e z
    · exact z
  · rcases (h4 y hy).2 with (z | z) | z
    · exact absurd e z
    · exact .inl z
    · exact .inr z
theorem LamN.has {X : Cx} {N : List Str} {scope : Scope} (L : LamN N X.env.scope scope) (ok : X.Ok) : ∀ y ∈ scope.names, y.2 = .free → ∃ c, X.env.cells.lookup y.1 = some c := fun y hy e => by
  rcases L.free y hy e with k | k
  · exact ok.has _ (.inl k)
  · exact ok.has _ (.inr k)
def dvOf : Option Addr → Value
  | none => .none
  | some T => .ref T
def DvAt (H : Hp) : Option Addr → Prop
  | none => True
  | some T => H T = some (.tup [.int 0])
def LamB (q : Str) (ps : Arguments) (b : Expr) (sc : Scope) : Option Addr → Prop
  | none => ∀ (cl : List (Str × Addr)) (doc pm cdv ct : Value), bindArgs (lamFd q ps b sc cl .none doc pm cdv ct) ⟨[], []⟩ = pure []
  | some T => ∃ a, sc.names.lookup a = some .local ∧ ∀ (cl : List (Str × Addr)) (doc pm cdv ct u : Value), ∃ k, bindArgs (lamFd q ps b sc cl (.ref T) doc pm cdv ct) ⟨[], []⟩ = seqItems? (.ref T) >>= k ∧ k (some #[u]) = pure [(a, u)]
abbrev lamEn (q : Str) (scope : Scope) (cl : List (Str × Addr)) (L f c' : Addr) : Env := PySem.W.envX q scope L f (.ref c') cl
def lamC (P : Program) (w : World) (K : PySem.W.Frag) (mg : Str → Option Value) (base : Heap) (N : List Str) (q : Str) (cl : List (Str × Addr)) (A : Around) (outer : List Env) (s : Shared) (H : Hp) (E : XK) (scope : Scope) (f c' : Addr) : Cx where
  prog := P
  w := w
  K := K
  mg := mg
  base := base
  A := A.deeper (lamEn q scope cl s.heap.objs.size f c')
  N := N
  s_0 := s
  H_0 := H
  env := lamEn q scope cl s.heap.objs.size f c'
  outer := outer
  stack := lamEn q scope cl s.heap.objs.size f c' :: outer
  ex := []
  fn := fun _ => false
  calm := true
  pn := []
  xe := fun e s' => wpAny (model P w) (A.deeper (lamEn q scope cl s.heap.objs.size f c')) (leaving (lamEn q scope cl s.heap.objs.size f c') e) (fun _ s'' => L2.CX P w outer H s E e s'') (fun e' s'' => L2.CX P w outer H s E e' s'') s'
structure CloAt (N : List Str) (cl : List (Str × Addr)) (scope : Scope) (σ : L2.St) (H : Hp) (h : Heap) : Prop where
  len : σ.length = N.length
  own : ∀ y ∈ scope.names, y.2 ≠ .cell ∧ (y.2 = .local → y.1 ∉ N)
  kind : scope.kind = .function
  inj : ∀ x y c, cl.lookup x = some c → cl.lookup y = some c → x = y
  has : ∀ y, scope.names.lookup y = some .free → ∃ c, cl.lookup y = some c
  cell : ∀ y c, cl.lookup y = some c → H c = none ∧ ∃ v, h.IsCell c v
  val : ∀ (i : Nat) (y : Str) (v : V), N[i]? = some y → σ[i]? = some (some v) → scope.names.lookup y = some .free → ∃ c u, cl.lookup y = some c ∧ h.IsCell c (some u) ∧ RelV v u
section
variable {P : Program} {w : World} {K : PySem.W.Frag} {mg : Str → Option Value} {base : Heap}
theorem lam_enter {N : List Str} {q : Str} {cl : List (Str × Addr)} {A : Around} {outer : List Env} {E : XK} {scope : Scope} {f c' : Addr} {h₁ : Heap} {tk : Nat} {σ : L2.St} {H : Hp} {s : Shared} {m : Str → Option Value}
    (C : CloAt N cl scope σ H s.heap) (e0 : Env0 P w K mg base A outer s H) (hd : A.handled = none) (hns : h₁.Ns s.heap.objs.size m) (kp : ∀ b o, s.heap.get? b = some o → h₁.get? b = some o) :
    Inv (lamC P w K mg base N q cl A outer s H E scope f c') [] σ H { s with heap := h₁, toks := tk } := by
  have noA : ∀ b : Addr, b ∉ (lamC P w K mg base N q cl A outer s H E scope f c').ex := fun b z => absurd (show b ∈ ([] : List Addr) from z) (by simp)
  have up : ∀ {c : Addr} {v : Option Value}, s.heap.IsCell c v → h₁.IsCell c v := fun {c v} ⟨o, ho, hc⟩ => ⟨o, kp _ _ ho, hc⟩
  have nocell : ∀ {y}, scope.names.lookup y = some .cell → False := fun {y} k => (C.own _ (PySem.mem_of_lookup k)).1 rfl
  have okk : (lamC P w K mg base N q cl A outer s H E scope f c').Ok := by
    refine ⟨e0.mod, C.kind, rfl, rfl, Nat.le_refl _, C.inj, fun y hy => ?_, fun y c z _ => ?_, fun _ => hd, Around.frames_deeper e0.frames, .inr ⟨rfl, rfl⟩, fun b z => absurd z (noA b), e0.bs, e0.bsz, fun b _ _ => noA b, fun b z => absurd z (noA b), e0.funs, e0.frf⟩
    · rcases (show scope.names.lookup y = some .cell ∨ scope.names.lookup y = some .free from hy) with k | k
      · exact (nocell k).elim
      · exact C.has y k
    · cases (show false = true from z)
  refine ⟨okk, rfl, e0.bare, Un.kept kp, ⟨_, hns, fun i y v e1 e2 e3 => ?_⟩, fun y c e => ?_, e0.hok.fresh (Nat.le_refl _), fun y c e => (C.cell y c e).1, fun p hp => absurd (show p ∈ ([] : List (Addr × Obj)) ++ [] from hp) (by simp), e0.hok.kept kp, C.len⟩
  · rcases (show Vis scope y from e3) with k | k | k
    · exact absurd (List.mem_of_getElem? e1) ((C.own _ (PySem.mem_of_lookup k)).2 rfl)
    · exact (nocell k).elim
    · obtain ⟨c, u, h1, h2, r⟩ := C.val i y v e1 e2 k
      exact ⟨u, r, .inr ⟨.inr k, c, h1, up h2⟩⟩
  · obtain ⟨_, v, z⟩ := C.cell y c e
    exact ⟨v, up z⟩
theorem CloAt.here {X : Cx} {pins : List (Addr × Obj)} {σ : L2.St} {H : Hp} {s : Shared} {scope : Scope} (I : Inv X pins σ H s) (L : LamN X.N X.env.scope scope) : CloAt X.N (cloFrom X.env.cells scope.names []) scope σ H s.heap := by
  have hfree := L.has I.ok
  have cm : ∀ {y c}, (cloFrom X.env.cells scope.names []).lookup y = some c → X.env.cells.lookup y = some c := fun {y c} e => by
    rcases cloFrom_mem (PySem.mem_of_lookup e) with hm | ⟨h1, h2⟩
    · cases hm
    · obtain ⟨c1, hc⟩ := hfree _ h1 rfl
      have hc : X.env.cells.lookup y = some c1 := hc
      have e2 : c = c1 := by
        rw [h2, hc] <;> rfl
      rw [e2, hc]
  have look : ∀ {y}, scope.names.lookup y = some .free → ∃ c, (cloFrom X.env.cells scope.names []).lookup y = some c := fun {y} hl => mem_lookup (cloFrom_has (cells := X.env.cells) (acc := []) (PySem.mem_of_lookup hl))
  refine ⟨I.len, L.own, L.kind, fun x y c a b => I.ok.inj x y c (cm a) (cm b), fun y k => look k, fun y c e => ⟨I.freeC y c (cm e), I.cell y c (cm e)⟩, fun i y v e1 e2 k => ?_⟩
  obtain ⟨m, _, hl⟩ := I.loc
  have hk := L.free _ (PySem.mem_of_lookup k) rfl
  obtain ⟨u, r, z⟩ := hl i y v e1 e2 (hk.elim (fun k => .inr (.inl k)) fun k => .inr (.inr k))
  obtain ⟨c, h2⟩ := look k
  rcases z with ⟨k1, _⟩ | ⟨_, c3, e3, z⟩
  · have k1 : X.env.scope.names.lookup y = some .local := k1
    rcases hk with k2 | k2 <;> rw [show X.env.scope.names.lookup y = _ from k2] at k1 <;> cases k1
  · rw [cm h2] at e3
    cases e3
    exact ⟨c, u, h2, z, r⟩
theorem CloAt.un {N : List Str} {cl : List (Str × Addr)} {scope : Scope} {σ : L2.St} {H H' : Hp} {h h' : Heap} {fs : List Addr} (C : CloAt N cl scope σ H h) (u : Un fs [] H H' h h') : CloAt N cl scope σ H' h' := by
  have ck : ∀ {c : Addr} {v : Option Value}, H c = none → h.IsCell c v → h'.IsCell c v := fun {c v} n ⟨o, ho, hd⟩ => by
    obtain ⟨sl, q⟩ := u.any ho n (by simp)
    exact ⟨_, q, hd⟩
  refine ⟨C.len, C.own, C.kind, C.inj, C.has, fun y c e => ?_, fun i y v e1 e2 k => ?_⟩
  · obtain ⟨n, v, o, ho, hd⟩ := C.cell y c e
    exact ⟨u.free c o ho n (by simp), v, ck n ⟨o, ho, hd⟩⟩
  · obtain ⟨c, x, h1, h2, r⟩ := C.val i y v e1 e2 k
    exact ⟨c, x, h1, ck (C.cell y c h1).1 h2, r⟩
structure LamP (P : Program) (w : World) (K : PySem.W.Frag) (mg : Str → Option Value) (base : Heap) (N : List Str) (q : Str) (cl : List (Str × Addr)) (scope : Scope) (o : Obj) (c' : Addr) (dT : Option Addr) (k : Nat) (t : XK → TE) : Prop where
  co : scope.isCoroutine = false
  gen : scope.isGenerator = false
  cells : ∀ y ∈ scope.names, y.2 ≠ .cell
  kind : scope.kind = .function
  ex : ∃ (params : Arguments) (body : Expr) (doc pm ctv : Value), o = lamOb q params body scope cl (dvOf dT) doc pm c' ctv ∧ LamB q params body scope dT ∧
    ∀ (A : Around) (outer : List Env) (s : Shared) (H : Hp) (E : XK) (f : Addr), Room k (A.deeper (lamEn q scope cl s.heap.objs.size f c')) → PE (lamC P w K mg base N q cl A outer s H E scope f c') body (t E)
theorem lam_binds {s : Shared} {H : Hp} {q : Str} {ps : Arguments} {b : Expr} {sc : Scope} {cl : List (Str × Addr)} {doc pm cdv ct : Value} {dT : Option Addr} (B : LamB q ps b sc dT) (hT : DvAt H dT) (hok : HOk P w H s.heap) :
    ∃ binds, (∀ y ∈ binds, sc.names.lookup y.1 = some .local) ∧ BindsTo s (lamFd q ps b sc cl (dvOf dT) doc pm cdv ct) ⟨[], []⟩ binds := by
  cases dT with
  | none => exact ⟨[], fun y hy => absurd hy (by simp), BindsTo.of_eq (B cl doc pm cdv ct)⟩
  | some T =>
    obtain ⟨a, ha, hB⟩ := B
    obtain ⟨_, its, r, ob, e1, e2, n, e3⟩ := hok T _ hT
    match its, r with
    | [u], _ =>
      obtain ⟨k, k1, k2⟩ := hB cl doc pm cdv ct u
      refine ⟨[(a, u)], fun y hy => by rw [List.mem_singleton.mp hy]; exact ha, ?_⟩
      exact BindsTo.of_defaults (T := T) rfl e1 e3 k1 k2
end
end DLR
namespace DLR
open PySem PySem.Spec PyProof.Rows L2 LamX
def LamV (X : Cx) (k : Nat) (H : Hp) (v : V) (t : XK → TE) : Prop :=
  ∃ (f c' : Addr) (o : Obj) (scope : Scope) (dT : Option Addr), v = .ref f ∧ H f = some (LamO f o) ∧ H c' = some (CodeO c' (X.env.qual ++ "<lambda>")) ∧ DvAt H dT ∧ LamN X.N X.env.scope scope ∧
    LamP X.prog X.w X.K X.mg X.base X.N (X.env.qual ++ "<lambda>") (cloFrom X.env.cells scope.names []) scope o c' dT k t
theorem codeO_lst {c : Addr} {q : Str} (ps : List V) : CodeO c q ≠ .lst ps := fun z => by
  unfold CodeO at z
  cases z
theorem lamO_lst {f : Addr} {o : Obj} (ps : List V) : LamO f o ≠ .lst ps := fun z => by
  unfold LamO at z
  cases z
theorem LamV.keep {X : Cx} {k : Nat} {H H' : Hp} {v : V} {t : XK → TE} (L : LamV X k H v t) (h : ∀ b o, H b = some o → (∀ ps, o ≠ .tbl ps) → (∀ xs, o ≠ .lst xs) → H' b = some o) : LamV X k H' v t := by
  obtain ⟨f, c', o, scope, dT, e1, e2, e3, e4, e5, e6⟩ := L
  refine ⟨f, c', o, scope, dT, e1, h _ _ e2 lamO_ne lamO_lst, h _ _ e3 codeO_ne codeO_lst, ?_, e5, e6⟩
  cases dT with
  | none => exact True.intro
  | some T => exact h _ _ e4 (fun ps z => by cases z) (fun xs z => by cases z)
section
variable {X : Cx}
def tMk (X : Cx) (k : Nat) (T : List (Addr × Str)) (t : XK → TE) : TE := fun _ H Q => Tabs T H ∧ ∀ v H1, ExtN H H1 → Tabs T H1 → LamV X k H1 v t → Q v H1
variable {T : List (Addr × Str)} {c P : Addr} {k : Nat} {params : Arguments} {body : Expr} {scope : Scope} {t : XK → TE} {lpos : Pos}
theorem LamN.p (L : LamN X.N X.env.scope scope) {dT : Option Addr} {dV doc pm ctv : Value} {c' : Addr} (e : dV = dvOf dT) (hbind : LamB (X.env.qual ++ "<lambda>") params body scope dT)
    (hbody : ∀ (A : Around) (outer : List Env) (s : Shared) (H : Hp) (E : XK) (f c' : Addr), Room k (A.deeper (lamEn (X.env.qual ++ "<lambda>") scope (cloFrom X.env.cells scope.names []) s.heap.objs.size f c')) →
      PE (lamC X.prog X.w X.K X.mg X.base X.N (X.env.qual ++ "<lambda>") (cloFrom X.env.cells scope.names []) A outer s H E scope f c') body (t E)) :
    LamP X.prog X.w X.K X.mg X.base X.N (X.env.qual ++ "<lambda>") (cloFrom X.env.cells scope.names []) scope (lamOb (X.env.qual ++ "<lambda>") params body scope (cloFrom X.env.cells scope.names []) dV doc pm c' ctv) c' dT k t := by
  subst e
  exact ⟨L.co, L.gen, fun y hy => (L.own y hy).1, L.kind, params, body, doc, pm, ctv, rfl, hbind, fun A outer s H E f hr => hbody A outer s H E f c' hr⟩
theorem pe_lam0 (TB : TabB X.base X.mg c P) (hcode : X.env.code = .ref c) (hmT : (P, X.env.qual ++ "<lambda>") ∈ T) (hu : ∀ p ∈ T, p.1 = P → p.2 = X.env.qual ++ "<lambda>") (L : LamN X.N X.env.scope scope) (hdef : defaultsOf params X.env = ([], []))
    (hbind : LamB (X.env.qual ++ "<lambda>") params body scope none)
    (hbody : ∀ (A : Around) (outer : List Env) (s : Shared) (H : Hp) (E : XK) (f c' : Addr), Room k (A.deeper (lamEn (X.env.qual ++ "<lambda>") scope (cloFrom X.env.cells scope.names []) s.heap.objs.size f c')) →
      PE (lamC X.prog X.w X.K X.mg X.base X.N (X.env.qual ++ "<lambda>") (cloFrom X.env.cells scope.names []) A outer s H E scope f c') body (t E)) :
    PE X (.Lambda params body scope lpos) (tMk X k T t) := by
  refine ⟨fun pins s σ H Q I h => ?_⟩
  obtain ⟨hT, h⟩ := h
  refine PySem.W.kla_eval hdef ?_
  rw [makeFunction_eq]
  simp only [List.zip_nil_right, List.filterMap_nil, List.isEmpty_nil, if_true, pure_bind]
  refine lam_tail I TB hcode hmT hu hT (L.has I.ok) fun f c' doc pm ctv H1 s' I1 eN T1 hf hfo hco => ?_
  exact ⟨.ref f, H1, I1, rfl, h _ H1 eN T1 ⟨f, c', _, scope, none, rfl, hfo, hco, True.intro, L, L.p rfl hbind hbody⟩⟩
theorem pe_lam1 {j : Nat} {p0 : Pos} (TB : TabB X.base X.mg c P) (hcode : X.env.code = .ref c) (hmT : (P, X.env.qual ++ "<lambda>") ∈ T) (hu : ∀ p ∈ T, p.1 = P → p.2 = X.env.qual ++ "<lambda>") (L : LamN X.N X.env.scope scope)
    (hps : params.defaults = [.Constant (.int 0) j p0]) (hk0 : params.kw_defaults = []) (hbind : ∀ D, LamB (X.env.qual ++ "<lambda>") params body scope (some D))
    (hbody : ∀ (A : Around) (outer : List Env) (s : Shared) (H : Hp) (E : XK) (f c' : Addr), Room k (A.deeper (lamEn (X.env.qual ++ "<lambda>") scope (cloFrom X.env.cells scope.names []) s.heap.objs.size f c')) →
      PE (lamC X.prog X.w X.K X.mg X.base X.N (X.env.qual ++ "<lambda>") (cloFrom X.env.cells scope.names []) A outer s H E scope f c') body (t E)) :
    PE X (.Lambda params body scope lpos) (tMk X k T t) := by
  refine ⟨fun pins s σ H Q I h => ?_⟩
  obtain ⟨hT, h⟩ := h
  refine PySem.W.kdv_lam (by rw [hps]; rfl) hk0 ?_
  rw [hps]
  refine PySem.W.kdv_all1 (thn ((pe_int (X := X) (i := 0) (j := j) (pos := p0)).run pins s σ H (fun v H1 => v = .int 0 ∧ H1 = H) I ⟨rfl, rfl⟩) fun u s1 ⟨v, H1, I1, r1, e1, e2⟩ => PySem.W.kdv_all0 ?_)
  subst e1 e2
  rw [makeFunction_eq]
  simp only [List.zip_nil_right, List.filterMap_nil, List.isEmpty_nil, if_true, pure_bind, List.isEmpty_cons, Bool.false_eq_true, if_false]
  refine wpAny_bind (wpAny_newTextTuple ?_)
  generalize hD : s1.heap.objs.size = D
  have nD : H1 D = none := I1.hok.fresh (Nat.le_of_eq hD)
  have hD' : (s1.heap.push { cls := .type "tuple", data := .seq [u].toArray }).get? D = some { cls := .type "tuple", data := .seq [u].toArray } := by
    rw [← hD]
    exact Heap.get?_push_size _ rfl
  have J : Inv X pins σ (upd H1 D (.tup [.int 0])) { s1 with heap := s1.heap.push { cls := .type "tuple", data := .seq [u].toArray } } :=
    I1.laid (t' := s1.toks) (fun b o e => Heap.get?_push_of_some _ e) (Nat.le_of_eq hD) ⟨by show 1 ≤ sizeLine; decide, [u], .cons r1 .nil, _, hD', rfl, _, rfl⟩
  have st : ∀ b o, H1 b = some o → upd H1 D (.tup [.int 0]) b = some o := fun b o e => by rw [upd_ne (ne_of_none e nD), e]
  refine lam_tail J TB hcode hmT hu (hT.ext st) (L.has J.ok) fun f c' doc pm ctv H2 s' I2 eN T2 hf hfo hco => ?_
  exact ⟨.ref f, H2, I2, rfl, h _ H2 ((ExtN.of st).trans eN) T2 ⟨f, c', _, scope, some D, rfl, hfo, hco, eN _ _ upd_same (fun ps z => by cases z), L, L.p rfl (hbind D) hbody⟩⟩
end
section
variable {X : Cx} {pins : List (Addr × Obj)} {σ : L2.St} {H : Hp} {s : Shared}
theorem lam_act {CXg : CXT} {Eg : XK} {Ng N : List Str} {qg q a : Str} {sg scope : Scope} {g f c' : Addr} {cdg : Value} {cl : List (Str × Addr)} {o : Obj} {dT : Option Addr} {t : XK → TE} {k i : Nat} {pn : List (Addr × Obj)} {xe : Value → Shared → Prop} {W : WX} {E : XK} {p1 p2 : Pos}
    (C : CloAt N cl scope σ H s.heap) (LP : LamP X.prog X.w X.K X.mg X.base N q cl scope o c' dT k t)
    (tk : Takes ((cxOf CXg X.prog X.w X.K X.mg X.base Ng qg sg g cdg X.A X.stack s H Eg).tr pn xe) W) (hW : ∀ cls d σ' H', E cls d H' → W cls d σ' H') (hr : Room (k + 1) (X.A.deeper (envOfC qg sg s.heap.objs.size g cdg)))
    (hN : Ng[i]? = some a) (hv : Vis sg a) (hd : (a == ("__debug__" : Str)) = false := by decide) (hcd : (a == ("__classdict__" : Str)) = false := by decide) :
    PE ((cxOf CXg X.prog X.w X.K X.mg X.base Ng qg sg g cdg X.A X.stack s H Eg).tr pn xe) (.Call (.Name a p1) [] [] p2)
      (fun σZ HZ Q => σZ[i]? = some (some (.ref f)) ∧ HZ c' = some (CodeO c' q) ∧ HZ f = some (LamO f o) ∧ DvAt HZ dT ∧ t E σ HZ Q) := by
  obtain ⟨lco, lgen, lcells, lkind, params, body, doc, pm, ctv, rfl, hB, hbody⟩ := LP
  refine ⟨fun pinsZ sZ σZ HZ Q IZ ⟨h1, h2, h3, h4, ht⟩ => ?_⟩
  refine wpAny_Call_Name_kw (thn ((pe_var (pos := p1) (i := i) hN hv hd hcd).run pinsZ sZ σZ HZ (fun v H1 => v = .ref f ∧ H1 = HZ) IZ ⟨.ref f, h1, rfl, rfl⟩) fun u s1 hu => ?_)
  obtain ⟨v, H1, I1, r1, rfl, rfl⟩ := hu
  cases r1
  obtain ⟨fo, _, _⟩ := I1.hok f _ h3
  obtain ⟨⟨oc, vs, tq, hoc, hdc, hvc⟩, _, _⟩ := I1.hok c' _ h2
  have C1 : CloAt N cl scope σ H1 s1.heap := C.un (show Un (frs X.stack) [] H H1 s.heap s1.heap from I1.base)
  obtain ⟨binds, b1, b2⟩ := lam_binds (s := s1) (cl := cl) (doc := doc) (pm := pm) (cdv := .ref c') (ct := ctv) hB h4 I1.hok
  refine PySem.W.callWith_F0 ⟨_, _, _, _, fo⟩ (wpAny_call (codeAny_mono (R := CR (L2.CX X.prog X.w) (envOfC qg sg s.heap.objs.size g cdg :: X.stack) X.prog X.w H1 s1 Q E) ?_ fun r s' hq => ?_))
  · refine PySem.W.kla_callFunE hr.depth fo rfl lco lgen rfl ⟨c', oc, vs, tq, rfl, hoc, hdc, hvc⟩ (b2 _ _ _ _ (wpAny_newFunctionEnv lcells b1 (fun h₁ hns hsb => ⟨I1.nolimit.fresh _ hsb, ?_⟩) lkind))
    have kp : ∀ b o, s1.heap.get? b = some o → h₁.get? b = some o := fun b o e => hsb.extBut b o (Nat.ne_of_lt (Heap.lt_size e)) (Heap.get?_push_of_some _ e)
    have J := lam_enter (q := q) (E := E) (f := f) (c' := c') (tk := s1.toks + binds.length) C1 I1.env0 hr.hd hns kp
    have run := (hbody _ _ s1 H1 E f (hr.deeper _)).run [] _ _ H1 Q J ht
    exact PySem.W.kla_codeExpr (wpAny_mono run (fun v s' ⟨w', H', J', rv, hq⟩ => ⟨w', H', J'.os, J'.bare, J'.base, J'.hok, rv, hq⟩) fun e s' hq => hq)
  · cases r with
    | error e => exact passes_call tk hW pinsZ σZ H1 s1 e s' I1 hq
    | ok fl =>
      cases fl with
      | ret u => exact I1.after hq
      | next => exact hq.elim
      | brk => exact hq.elim
      | cont => exact hq.elim
end
section
variable {X : Cx}
def tTold (X : Cx) (k : Nat) (TT : (XK → Hp → VK → Prop) → Hp → VK → Prop) (te : TE) : TE := fun σ H Q => te σ H fun v H1 => ∃ (f c' : Addr) (o : Obj) (scope : Scope) (dT : Option Addr) (t : XK → TE), v = .ref f ∧ H1 c' = some (CodeO c' (X.env.qual ++ "<lambda>")) ∧ LamN X.N X.env.scope scope ∧
  LamP X.prog X.w X.K X.mg X.base X.N (X.env.qual ++ "<lambda>") (cloFrom X.env.cells scope.names []) scope o c' dT k t ∧ TT (fun E H' Q' => H' f = some (LamO f o) ∧ DvAt H' dT ∧ t E σ H' Q') H1 Q
theorem pe_told {TT : (XK → Hp → VK → Prop) → Hp → VK → Prop} {x a : Str} {g : Addr} {k : Nat} {pg : Arguments} {bg : List Stmt} {sg : Scope} {dV kV doc pm cdv ct oc : Value} {an od : Option Addr} {osl : Array (Option Value)} {Ng : List Str} {e : Expr} {te : TE} {p pos : Pos}
    (hg : Gl X x) (hm : X.mg x = some (.ref g)) (hk : PySem.W.keepIn X.K (.ref g) = true) (lk : X.K.lookup g = some ⟨oc, od, .func (PySem.W.fnOf x x pg bg sg dV kV doc pm an cdv ct), osl⟩) (hcg : PySem.W.codeIn X.K cdv x = true)
    (hb : L2.Binds X.K (PySem.W.fnOf x x pg bg sg dV kV doc pm an cdv ct) [a] []) (Sg : FnScope Ng [a] sg) (hNg : Ng[0]? = some a) (hva : Vis sg a) (hG : GivesTo X Ng x sg g cdv bg a (X.env.qual ++ "<lambda>") TT) (hr : Room (k + 2) X.A) (he : PE X e te)
    (hdb : (x == ("__debug__" : Str)) = false := by decide) (hd : (a == ("__debug__" : Str)) = false := by decide) (hcd : (a == ("__classdict__" : Str)) = false := by decide)
    (hs : starEach [e] X.env = (false, eval e X.env) :: starEach [] X.env := by rfl) (hpl : (backTo pos (starEach [] X.env)).any (·.1) = false := by rfl) :
    PE X (.Call (.Name x p) [e] [] pos) (tTold X k TT te) := by
  refine ⟨fun pins s σ H Q I h => ?_⟩
  refine wpAny_Call_Name_kw (ld_glob I hg hm ?_ hdb)
  have arg := (pa_cons he pa_nil hs).run pos pins s σ H (fun vs H1 => match vs with
    | [v] => ∃ (f c' : Addr) (o : Obj) (scope : Scope) (dT : Option Addr) (t : XK → TE), v = .ref f ∧ H1 c' = some (CodeO c' (X.env.qual ++ "<lambda>")) ∧ LamN X.N X.env.scope scope ∧
      LamP X.prog X.w X.K X.mg X.base X.N (X.env.qual ++ "<lambda>") (cloFrom X.env.cells scope.names []) scope o c' dT k t ∧ TT (fun E H' Q' => H' f = some (LamO f o) ∧ DvAt H' dT ∧ t E σ H' Q') H1 Q
    | _ => False) I h
  refine PySem.W.callWith_K (h₀ := X.base) I.ok.mod.kin hk (thn arg fun us s1 ⟨vs, H1, I1, r, q0⟩ => ⟨I1.kIn, ?_⟩) hs hpl
  match vs, r, q0 with
  | [v], r, q0 =>
    obtain ⟨f, c', o, scope, dT, t, rfl, hc, L, LP, q⟩ := q0
    obtain ⟨u, rfl, ru⟩ := r.one
    cases ru
    have rc : codeAny (model X.prog X.w) X.A (.call (.ref g) ⟨[.ref f], []⟩) (CR C8.CX0 X.stack X.prog X.w H1 s1 Q C8.E0) s1 := by
      refine run_ofS (N := Ng) (ps := [a]) (us := [.ref f]) (vs := [.ref f]) lk hcg Sg hr I1.env0 (hb s1 [.ref f] I1.kIn rfl) (.cons rfl .nil) rfl fun hr' => ?_
      obtain ⟨t', ht', hq'⟩ := hG f c' s1 H1 Q (fun E H' Q' => H' f = some (LamO f o) ∧ DvAt H' dT ∧ t E σ H' Q') (fun W pn xe E p1 p2 tk hW => lam_act (i := 0) (CloAt.here I1 L) LP tk hW hr' hNg hva hd hcd) hc q
      exact ⟨t', ht'.nox, hq'⟩
    refine wpAny_call (codeAny_mono rc fun r s2 hq => ?_)
    cases r with
    | error e => exact (show False from hq).elim
    | ok fl =>
      cases fl with
      | ret u => exact I1.after hq
      | next => exact hq.elim
      | brk => exact hq.elim
      | cont => exact hq.elim
end
end DLR
namespace DLR
open PySem PySem.Spec PyProof.Rows L2
theorem lookup_rel {f : Str × NameKind → Str × NameKind} (hf : ∀ p, (f p).1 = p.1 ∧ ((p.2 = .cell ∨ p.2 = .free) → ((f p).2 = .cell ∨ (f p).2 = .free))) : ∀ {names : List (Str × NameKind)} {x : Str}, names.lookup x = some .cell ∨ names.lookup x = some .free →
    (names.map f).lookup x = some .cell ∨ (names.map f).lookup x = some .free
  | [], x, h => by simp at h
  | (n, k) :: r, x, h => by
    obtain ⟨h1, h2⟩ := hf (n, k)
    obtain ⟨n', k', e⟩ : ∃ n' k', f (n, k) = (n', k') := ⟨_, _, rfl⟩
    rw [e] at h1 h2
    have h1 : n' = n := h1
    subst h1
    rw [List.map_cons, e]
    rw [List.lookup_cons] at h ⊢
    cases c : x == n' with
    | true =>
      rw [c] at h
      have h : k = .cell ∨ k = .free := h.imp (fun z => Option.some.inj z) fun z => Option.some.inj z
      exact (h2 h).imp (congrArg some) (congrArg some)
    | false =>
      rw [c] at h
      exact lookup_rel hf h
theorem blkRel {N : List Str} {sc scope : Scope} {own : List (Str × Nat)} {env : Env} (h : BlkOk N sc scope own) : BlkOk N (relabel sc env) scope own := by
  refine ⟨h.kind, h.uniq, h.ix, fun y hy e => ?_, h.own⟩
  unfold relabel
  refine lookup_rel (fun p => ?_) (h.free y hy e)
  obtain ⟨n, k⟩ := p
  dsimp only
  split
  · exact ⟨rfl, fun _ => .inl rfl⟩
  · exact ⟨rfl, fun z => z⟩
theorem pi_tupK {X : Cx} {tg e : Expr} {te : TE} (K0 : PySem.W.Frag) (hK : X.K = K0) (h : PE X e te) : PI X tg e (iTup K0 te) := by
  subst hK
  exact pi_tup h
theorem cr_sortedIK {X : Cx} (K0 : PySem.W.Frag) (hK : X.K = K0) : CallR X (.builtin "sorted") (rSortedI K0) := hK ▸ cr_sortedI
theorem call_tuple_ofK {X : Cx} (K0 : PySem.W.Frag) (hK : X.K = K0) : CallR X (.type "tuple") (fun xs H Q => ∃ p ys, xs = [.ref p] ∧ ((SqL K0 H p ys ∧ ∀ l, H l = none → Q (.ref l) (upd H l (.tup ys))) ∨ (SqT K0 H p ys ∧ Q (.ref p) H))) := by
  subst hK
  exact call_tuple_of
end DLR
namespace DL
open PySem L2 DLR LamX
theorem refs_ne_dice {H : Hp} {d sa la : Addr} {gs : List Addr} (dv : DiceV H d sa) (h : H la = some (.lst (gs.map V.ref))) : la ≠ d := fun e => by
  subst e
  obtain ⟨i, m, r, z, _⟩ := dv
  rw [z] at h
  have q : ([.ref sa, .int i, .int m, .int r] : List V) = gs.map V.ref := by injection (Option.some.inj h)
  match gs, q with
  | [], q => cases q
  | [_], q => cases q
  | _ :: _ :: _, q => cases (List.cons.inj (List.cons.inj q).2).1
def noTb (H : Hp) : Hp := fun a => match H a with
  | some (.tbl _) => none
  | x => x
theorem noTb_of {H : Hp} {a : Addr} {o : HO} (h : noTb H a = some o) : H a = some o ∧ ∀ ps, o ≠ .tbl ps := by
  unfold noTb at h
  split at h
  · cases h
  · rename_i n
    exact ⟨h, fun ps z => n ps (by rw [h, z])⟩
theorem noTb_at {H : Hp} {a : Addr} {o : HO} (h : H a = some o) (n : ∀ ps, o ≠ .tbl ps) : noTb H a = some o := by
  unfold noTb
  split
  · rename_i ps e
    rw [h] at e
    exact absurd (Option.some.inj e) (n ps)
  · exact h
theorem noTb_none {H : Hp} {a : Addr} (h : H a = none) : noTb H a = none := by
  unfold noTb
  rw [h]
theorem Ent.noTb {K : Frg} {H : Hp} {d sa : Addr} {ns : List Int} (h : Ent K H d sa ns) : Ent K (noTb H) d sa ns := by
  refine ⟨?_, ?_, h.len⟩
  · obtain ⟨i, m, r, z, q⟩ := h.dice
    exact ⟨i, m, r, noTb_at z (fun ps q => by cases q), q⟩
  · rcases h.scr with (g | ⟨o, g⟩) | g
    · exact .inl (.inl (noTb_at g (fun ps q => by cases q)))
    · exact .inl (.inr ⟨o, noTb_at g (fun ps q => by cases q)⟩)
    · exact .inr g
theorem Dc.ext {K : Frg} {H0 H H' : Hp} {d sa : Addr} {ns : List Int} (h : Dc K (DL.noTb H0) H d sa ns) (e : ExtN H H') : Dc K (DL.noTb H0) H' d sa ns := by
  refine ⟨h.e0, fun x o n g => e x o (h.but x o n g) (noTb_of g).2, ?_⟩
  obtain ⟨i, m, r, z, q⟩ := h.dice
  exact ⟨i, m, r, e _ _ z (fun ps q => by cases q), q⟩
theorem tabS_dice {K : Frg} {H H' : Hp} {d sa P : Addr} {ns : List Int} {q : Str} (t : TabS H P q) (c : Dc K H H' d sa ns) : TabS H' P q := by
  obtain ⟨j, m, r, z, _⟩ := c.e0.dice
  obtain ⟨ps, h1, h2, h3⟩ := t
  refine ⟨ps, c.but _ _ (ne_of h1 z (by intro q; cases q)) h1, h2, fun pos cv hc => ?_⟩
  obtain ⟨k, e1, e2⟩ := h3 pos cv hc
  exact ⟨k, e1, c.but _ _ (ne_of e2 z (by intro q; unfold CodeO at q; cases q)) e2⟩
def forB : Stmt → List Stmt
  | .For _ _ b .. => b
  | _ => []
def ifB : Stmt → List Stmt
  | .If _ b .. => b
  | _ => []
def asgV : Stmt → Expr
  | .Assign _ v _ => v
  | _ => .Name "x" ⟨0, 0, 0, 0⟩
def callA : Expr → Expr
  | .Call _ (a :: _) _ _ => a
  | e => e
def lcS (d : Scope) : Expr → Scope
  | .ListComp _ _ sc _ => sc
  | _ => d
abbrev qP : Str := (("law" : Str) ++ (".<locals>." : Str))
abbrev qL : Str := qP ++ ("<lambda>" : Str)
theorem tab_mem {Pt : Addr} {q : Str} (h : q = qP) : (Pt, q ++ "<lambda>") ∈ [(Pt, qL)] := by
  rw [h]
  exact List.mem_singleton.mpr rfl
theorem tab_one {Pt : Addr} {q : Str} (h : q = qP) : ∀ p ∈ [(Pt, qL)], p.1 = Pt → p.2 = q ++ "<lambda>" := by
  rw [h]
  intro p hp _
  rw [List.mem_singleton.mp hp]
structure Ct (K : Frg) (Hb H : Hp) (d sa Pt : Addr) (ns : List Int) : Prop where
  ent : Dc K Hb H d sa ns
  tab : TabS H Pt qL
theorem Ct.same {K : Frg} {Hb H H' : Hp} {d sa Pt : Addr} {ns : List Int} (h : Ct K Hb H d sa Pt ns) (s : Same1 H H') : Ct K Hb H' d sa Pt ns := ⟨h.ent.same s, h.tab.ext s⟩
theorem Ct.dice {K : Frg} {Hb H H' : Hp} {d sa Pt : Addr} {ns : List Int} (h : Ct K Hb H d sa Pt ns) (c : Dc K H H' d sa ns) : Ct K Hb H' d sa Pt ns := ⟨h.ent.trans c, tabS_dice h.tab c⟩
theorem Ct.ext {K : Frg} {H0 H H' : Hp} {d sa Pt : Addr} {ns : List Int} (h : Ct K (noTb H0) H d sa Pt ns) (e : ExtN H H') (t : Tabs [(Pt, qL)] H') : Ct K (noTb H0) H' d sa Pt ns := ⟨h.ent.ext e, t _ (List.mem_singleton.mpr rfl)⟩
theorem Ct.tabs {K : Frg} {Hb H : Hp} {d sa Pt : Addr} {ns : List Int} (h : Ct K Hb H d sa Pt ns) : Tabs [(Pt, qL)] H := fun q hq => by rw [List.mem_singleton.mp hq]; exact h.tab
theorem Kp.ext {H H' : Hp} (e : ExtN H H') : Kp H H' := fun a xs g => e _ _ g (fun ps z => by cases z)
end DL
namespace DL
open PySem L2 DLR
/-! ### turned places -/
theorem fbP_ge {now : Int} {place W : Nat} (h : 0 < W) : now ≤ fb now place W := by
  unfold fb
  have := Int.emod_nonneg ((place : Int) - now) (show (W : Int) ≠ 0 by omega)
  omega
theorem fbP_dvd (now : Int) (place W : Nat) : (W : Int) ∣ fb now place W - (place : Int) := by
  refine ⟨-(((place : Int) - now) / (W : Int)), ?_⟩
  unfold fb
  have e := Int.mul_ediv_add_emod ((place : Int) - now) (W : Int)
  rw [Int.mul_neg]
  omega
theorem fbP_shift {now c : Int} {p q W : Nat} {k : Int} (e : (q : Int) = (p : Int) + c + k * (W : Int)) : fb (now + c) q W = fb now p W + c := by
  unfold fb
  rw [e, show (p : Int) + c + k * (W : Int) - (now + c) = (p : Int) - now + k * (W : Int) by omega, Int.add_mul_emod_self_right]
  omega
theorem comesP {p : Prog} {y : Lay} (k : LayOk p y) {w : Nat} (hw : w < p.ws.length) (read : Int) : 0 < (comes y w read).length ∧ ∀ x ∈ comes y w read, read + 1 ≤ x := by
  have hw : w < y.homes.length := by rw [k.hl]; exact hw
  have e : y.homes.getD w [] = y.homes[w] := by rw [List.getD_eq_getElem?_getD, List.getElem?_eq_getElem hw]; rfl
  have h := k.hok _ (List.getElem_mem hw)
  have w2 := k.w2
  unfold comes comesL
  rw [e]
  refine ⟨by rw [List.length_map]; exact h.l1, fun x hx => ?_⟩
  obtain ⟨z, _, rfl⟩ := List.mem_map.mp hx
  exact fbP_ge (by omega)
structure Turned (p : Prog) (y z : Lay) (c : Int) : Prop where
  wide : z.wide = y.wide
  pl : ∀ i, i < p.rows.length → ∃ k : Int, ((z.places.getD i 0 : Nat) : Int) = ((y.places.getD i 0 : Nat) : Int) + c + k * (y.wide : Int)
  to : ∀ w, w < p.ws.length → ∀ x ∈ z.homes.getD w [], ∃ x0 ∈ y.homes.getD w [], ∃ k : Int, (x : Int) = (x0 : Int) + c + k * (y.wide : Int)
  fro : ∀ w, w < p.ws.length → ∀ x0 ∈ y.homes.getD w [], ∃ x ∈ z.homes.getD w [], ∃ k : Int, (x : Int) = (x0 : Int) + c + k * (y.wide : Int)
theorem minL_tr {l m : List Int} {c : Int} (hl : 0 < l.length) (a : ∀ x ∈ m, x - c ∈ l) (b : ∀ x ∈ l, x + c ∈ m) : minL m = minL l + c := by
  obtain ⟨h1, h2⟩ := minL_spec hl
  refine (minL_is (b _ h1) fun y hy => ?_).symm
  have := h2 _ (a y hy)
  omega
theorem maxL_tr {l m : List Int} {c : Int} (hl : 0 < l.length) (a : ∀ x ∈ m, x - c ∈ l) (b : ∀ x ∈ l, x + c ∈ m) : maxL m = maxL l + c := by
  obtain ⟨h1, h2⟩ := maxL_spec hl
  refine (maxL_is (b _ h1) fun y hy => ?_).symm
  have := h2 _ (a y hy)
  omega
theorem comes_tr {p : Prog} {y z : Lay} {c : Int} (h : Turned p y z c) {w : Nat} (hw : w < p.ws.length) (read k0 : Int) : (∀ x ∈ comes z w (read + (c + k0 * (y.wide : Int))), x - (c + k0 * (y.wide : Int)) ∈ comes y w read) ∧ ∀ x ∈ comes y w read, x + (c + k0 * (y.wide : Int)) ∈ comes z w (read + (c + k0 * (y.wide : Int))) := by
  have sh : ∀ {x x0 : Nat} {k : Int}, (x : Int) = (x0 : Int) + c + k * (y.wide : Int) → fb (read + (c + k0 * (y.wide : Int)) + 1) x y.wide = fb (read + 1) x0 y.wide + (c + k0 * (y.wide : Int)) := by
    intro x x0 k e
    rw [show read + (c + k0 * (y.wide : Int)) + 1 = (read + 1) + (c + k0 * (y.wide : Int)) by omega]
    refine fbP_shift (k := k - k0) ?_
    rw [e, Int.sub_mul]
    omega
  unfold comes comesL
  rw [h.wide]
  constructor
  · intro v hv
    obtain ⟨x, hx, rfl⟩ := List.mem_map.mp hv
    obtain ⟨x0, hx0, k, e⟩ := h.to w hw x hx
    refine List.mem_map.mpr ⟨x0, hx0, ?_⟩
    rw [sh e]
    omega
  · intro v hv
    obtain ⟨x0, hx0, rfl⟩ := List.mem_map.mp hv
    obtain ⟨x, hx, k, e⟩ := h.fro w hw x0 hx0
    exact List.mem_map.mpr ⟨x, hx, sh e⟩
theorem use_tr {p : Prog} {y z : Lay} {c : Int} (ky : LayOk p y) (h : Turned p y z c) {r : Row} {N : Nat} (ho : r.ok p.ws.length N) (read k0 : Int) : useF z (read + (c + k0 * (y.wide : Int))) r = useF y read r + (c + k0 * (y.wide : Int)) := by
  cases r with
  | load w n => exact minL_tr (comesP ky ho.1 read).1 (comes_tr h ho.1 read k0).1 (comes_tr h ho.1 read k0).2
  | add w n => exact minL_tr (comesP ky ho.1 read).1 (comes_tr h ho.1 read k0).1 (comes_tr h ho.1 read k0).2
  | take w n => exact minL_tr (comesP ky ho.1 read).1 (comes_tr h ho.1 read k0).1 (comes_tr h ho.1 read k0).2
  | store w n => exact maxL_tr (comesP ky ho.1 read).1 (comes_tr h ho.1 read k0).1 (comes_tr h ho.1 read k0).2
  | say n => rfl
  | test a b => rfl
  | stop => rfl
theorem cost_tr {p : Prog} {y z : Lay} {c : Int} (g : Good p) (ky : LayOk p y) (h : Turned p y z c) {b t : Nat} (hb : b < p.rows.length) (ht : t < p.rows.length) : costF z p.rows b t = costF y p.rows b t := by
  have er : p.rows.getD b .stop = p.rows[b] := by rw [List.getD_eq_getElem?_getD, List.getElem?_eq_getElem hb]; rfl
  have ho := g.ok _ (List.getElem_mem hb)
  obtain ⟨k1, e1⟩ := h.pl b hb
  obtain ⟨k2, e2⟩ := h.pl t ht
  unfold costF behindF
  rw [er, h.wide, e1, show ((y.places.getD b 0 : Nat) : Int) + c + k1 * (y.wide : Int) = ((y.places.getD b 0 : Nat) : Int) + (c + k1 * (y.wide : Int)) by omega, use_tr ky h ho]
  rw [show useF y ((y.places.getD b 0 : Nat) : Int) p.rows[b] + (c + k1 * (y.wide : Int)) + work p.rows[b] + 1 = (useF y ((y.places.getD b 0 : Nat) : Int) p.rows[b] + work p.rows[b] + 1) + (c + k1 * (y.wide : Int)) by omega]
  rw [fbP_shift (p := y.places.getD t 0) (k := k2 - k1) (by rw [e2, Int.sub_mul]; omega)]
  omega
end DL
namespace DL
open PySem L2 DLR
/-! ### rows and worths numbered otherwise -/
theorem prm_lt {l : List Nat} {n i : Nat} (h : l.Perm (List.range n)) (hi : i < n) : l.getD i 0 < n := by
  have hl : i < l.length := by rw [h.length_eq, List.length_range]; exact hi
  rw [List.getD_eq_getElem?_getD, List.getElem?_eq_getElem hl]
  exact List.mem_range.mp (h.mem_iff.mp (List.getElem_mem hl))
theorem prm_inj {l : List Nat} {n i j : Nat} (h : l.Perm (List.range n)) (hi : i < n) (hj : j < n) (e : l.getD i 0 = l.getD j 0) : i = j := by
  have hl : l.length = n := by rw [h.length_eq, List.length_range]
  have nd : l.Nodup := h.nodup_iff.mpr List.nodup_range
  rw [List.getD_eq_getElem?_getD, List.getD_eq_getElem?_getD, List.getElem?_eq_getElem (by omega), List.getElem?_eq_getElem (by omega)] at e
  exact (List.getElem_inj nd).mp e
theorem prm_onto {l : List Nat} {n x : Nat} (h : l.Perm (List.range n)) (hx : x < n) : ∃ i, i < n ∧ l.getD i 0 = x := by
  obtain ⟨i, hi, e⟩ := List.getElem_of_mem (h.mem_iff.mpr (List.mem_range.mpr hx))
  refine ⟨i, by rw [h.length_eq, List.length_range] at hi; exact hi, ?_⟩
  rw [List.getD_eq_getElem?_getD, List.getElem?_eq_getElem hi, ← e]
  rfl
structure Ren (p q : Prog) (f g : List Nat) : Prop where
  fp : f.Perm (List.range p.ws.length)
  gp : g.Perm (List.range p.rows.length)
  g0 : g.getD 0 0 = 0
  wl : q.ws.length = p.ws.length
  rl : q.rows.length = p.rows.length
  ws : ∀ w, w < p.ws.length → q.ws.getD (f.getD w 0) 0 = p.ws.getD w 0
  rows : ∀ i, i < p.rows.length → q.rows.getD (g.getD i 0) .stop = (p.rows.getD i .stop).ren (fun x => f.getD x 0) (fun x => g.getD x 0)
structure RenL (p : Prog) (y z : Lay) (f g : List Nat) : Prop where
  wide : z.wide = y.wide
  pl : ∀ i, i < p.rows.length → z.places.getD (g.getD i 0) 0 = y.places.getD i 0
  hm : ∀ w, w < p.ws.length → z.homes.getD (f.getD w 0) [] = y.homes.getD w []
structure MR (f : List Nat) (W : Nat) (m1 m2 : Mach) : Prop where
  desk : m2.desk = m1.desk
  said : m2.said = m1.said
  l1 : m1.ws.length = W
  l2 : m2.ws.length = W
  at_ : ∀ w, w < W → m2.ws.getD (f.getD w 0) 0 = m1.ws.getD w 0
theorem getD_setI {l : List Int} {i j : Nat} {x : Int} (hi : i < l.length) : (l.set i x).getD j 0 = if i = j then x else l.getD j 0 := by
  rw [List.getD_eq_getElem?_getD, List.getD_eq_getElem?_getD, List.getElem?_set]
  split
  · rfl
  · rfl
theorem step_ren {f g : List Nat} {W N : Nat} (hf : f.Perm (List.range W)) {m1 m2 : Mach} (h : MR f W m1 m2) {r : Row} (ho : r.ok W N) :
    MR f W (stepM m1 r).1 (stepM m2 (r.ren (fun x => f.getD x 0) (fun x => g.getD x 0))).1 ∧ (stepM m2 (r.ren (fun x => f.getD x 0) (fun x => g.getD x 0))).2 = (stepM m1 r).2.map (fun x => g.getD x 0) := by
  obtain ⟨h1, h2, h3, h4, h5⟩ := h
  have at_ : ∀ w, w < W → m2.at (f.getD w 0) = m1.at w := h5
  cases r with
  | load w n => exact ⟨⟨at_ w ho.1, h2, h3, h4, h5⟩, rfl⟩
  | add w n => exact ⟨⟨by show ring (m2.desk + m2.at _) = ring (m1.desk + m1.at w); rw [h1, at_ w ho.1], h2, h3, h4, h5⟩, rfl⟩
  | take w n => exact ⟨⟨by show ring (m2.desk - m2.at _) = ring (m1.desk - m1.at w); rw [h1, at_ w ho.1], h2, h3, h4, h5⟩, rfl⟩
  | store w n =>
    refine ⟨⟨h1, h2, by show (m1.ws.set _ _).length = _; rw [List.length_set, h3], by show (m2.ws.set _ _).length = _; rw [List.length_set, h4], fun v hv => ?_⟩, rfl⟩
    show (m2.ws.set (f.getD w 0) m2.desk).getD (f.getD v 0) 0 = (m1.ws.set w m1.desk).getD v 0
    rw [getD_setI (by rw [h4]; exact prm_lt hf ho.1), getD_setI (by rw [h3]; exact ho.1), h1, h5 v hv]
    by_cases e : w = v
    · rw [if_pos e, if_pos (by rw [e])]
    · rw [if_neg e, if_neg fun z => e (prm_inj hf ho.1 hv z)]
  | say n => exact ⟨⟨h1, by show m2.said ++ [m2.desk] = m1.said ++ [m1.desk]; rw [h1, h2], h3, h4, h5⟩, rfl⟩
  | test a b =>
    refine ⟨⟨h1, h2, h3, h4, h5⟩, ?_⟩
    show some (if m2.desk = 0 then g.getD a 0 else g.getD b 0) = some (g.getD (if m1.desk = 0 then a else b) 0)
    rw [h1]
    split <;> rfl
  | stop => exact ⟨⟨h1, h2, h3, h4, h5⟩, rfl⟩
def kI (g : List Nat) (q : Int × Int) : Int × Int := (((g.getD q.1.toNat 0 : Nat) : Int), ((g.getD q.2.toNat 0 : Nat) : Int))
def rkI (g : List Nat) (e : (Int × Int) × V) : (Int × Int) × V := (kI g e.1, e.2)
theorem val_ren {g : List Nat} {q : Int × Int} : ∀ {l : GL}, (∀ e ∈ l, kI g e.1 = kI g q → e.1 = q) → valV (l.map (rkI g)) (kI g q) = valV l q
  | [], _ => rfl
  | e :: l, h => by
    by_cases c : e.1 = q
    · rw [List.map_cons, valV_pos (show (rkI g e).1 = kI g q by show kI g e.1 = _; rw [c]), valV_pos c]
      rfl
    · rw [List.map_cons, valV_neg (show ¬ (rkI g e).1 = kI g q from fun z => c (h e List.mem_cons_self z)), valV_neg c]
      exact val_ren fun x hx => h x (List.mem_cons_of_mem _ hx)
theorem bump_ren {g : List Nat} {q : Int × Int} {l : GL} (h : ∀ e ∈ l, kI g e.1 = kI g q → e.1 = q) : bump (l.map (rkI g)) (kI g q) = (bump l q).map (rkI g) := by
  unfold bump
  rw [val_ren h]
  by_cases c : q ∈ l.map (·.1)
  · have c2 : kI g q ∈ (l.map (rkI g)).map (·.1) := by
      obtain ⟨e, he, e2⟩ := List.mem_map.mp c
      rw [List.map_map]
      exact List.mem_map.mpr ⟨e, he, by show kI g e.1 = _; rw [← e2]⟩
    rw [put_in c, put_in c2, List.map_map, List.map_map]
    refine List.map_congr_left fun e he => ?_
    show (if kI g e.1 = kI g q then (kI g e.1, _) else rkI g e) = rkI g (if e.1 = q then (e.1, _) else e)
    by_cases z : e.1 = q
    · rw [if_pos z, if_pos (by rw [z])]; rfl
    · rw [if_neg z, if_neg fun y => z (h e he y)]
  · have c2 : kI g q ∉ (l.map (rkI g)).map (·.1) := fun z => c (by
      rw [List.map_map] at z
      obtain ⟨e, he, e2⟩ := List.mem_map.mp z
      exact List.mem_map.mpr ⟨e, he, h e he e2⟩)
    rw [put_out c, put_out c2, List.map_append]
    rfl
theorem tgt_lt {p : Prog} (g : Good p) {b t : Nat} (h : t ∈ tgt (p.rows.getD b .stop)) : t < p.rows.length := nx_lt (row_ok g b) t ((tgt_mem _ _).mp h)
structure RR (p q : Prog) (f g : List Nat) (k : Nat) : Prop where
  m : MR f p.ws.length (runS p k).m (runS q k).m
  here : (runS q k).here = (runS p k).here.map fun x => g.getD x 0
  goes : (runS q k).goes = (runS p k).goes.map (rkI g)
theorem run_ren {p q : Prog} {f g : List Nat} (gp : Good p) (R : Ren p q f g) : ∀ k, RR p q f g k
  | 0 => ⟨⟨rfl, rfl, rfl, R.wl, R.ws⟩, by show some 0 = some (g.getD 0 0); rw [R.g0], rfl⟩
  | k + 1 => by
    obtain ⟨hm, hh, hg⟩ := run_ren gp R k
    obtain ⟨cur, I⟩ := runS_goes gp k
    have O := runS_ok gp k
    cases hc : (runS p k).here with
    | none =>
      have e1 : runS p (k + 1) = runS p k := runS_none hc 1
      have e2 : runS q (k + 1) = runS q k := runS_none (by rw [hh, hc]; rfl) 1
      exact ⟨by rw [e1, e2]; exact hm, by rw [e1, e2]; exact hh, by rw [e1, e2]; exact hg⟩
    | some r =>
      have hr := O.here r hc
      have e1 := runS_goE hc
      have e2 := runS_goE (p := q) (j := k) (r := g.getD r 0) (by rw [hh, hc]; rfl)
      rw [R.rows r hr] at e2
      obtain ⟨s1, s2⟩ := step_ren (g := g) R.fp hm (row_ok gp r)
      refine ⟨by rw [e1, e2]; exact s1, by rw [e1, e2]; exact s2, ?_⟩
      rw [e1, e2]
      show goesOf (runS q k).goes (g.getD r 0) _ = (goesOf (runS p k).goes r _).map (rkI g)
      rw [s2, hg]
      cases ho : (stepM (runS p k).m (p.rows.getD r .stop)).2 with
      | none => rfl
      | some n =>
        have hn := (stepM_ok O.m (by rw [O.w]; exact row_ok gp r)).2.2.2 n ho
        have key := bump_ren (g := g) (q := ((r : Int), (n : Int))) (l := (runS p k).goes) fun e he z => by
          obtain ⟨b, t, c, e3, e4, e5, _⟩ := I.key e he
          rw [e3] at z ⊢
          have z1 : g.getD b 0 = g.getD r 0 := Int.ofNat_inj.mp (congrArg Prod.fst z)
          have z2 : g.getD t 0 = g.getD n 0 := Int.ofNat_inj.mp (congrArg Prod.snd z)
          have ht : t < p.rows.length := tgt_lt gp e5
          rw [prm_inj R.gp e4 hr z1, prm_inj R.gp ht hn z2]
        exact key
end DL
namespace DL
open PySem L2 DLR
theorem behind_ren {p : Prog} {y z : Lay} {f g : List Nat} (RL : RenL p y z f g) {r : Row} {N : Nat} (ho : r.ok p.ws.length N) (t : Int) : behindF z (r.ren (fun x => f.getD x 0) (fun x => g.getD x 0)) t = behindF y r t := by
  have cm : ∀ w, w < p.ws.length → comes z (f.getD w 0) t = comes y w t := fun w hw => by
    unfold comes
    rw [RL.hm w hw, RL.wide]
  unfold behindF
  cases r with
  | load w n => show minL (comes z _ t) + _ + 1 = minL (comes y w t) + _ + 1; rw [cm w ho.1]; rfl
  | add w n => show minL (comes z _ t) + _ + 1 = minL (comes y w t) + _ + 1; rw [cm w ho.1]; rfl
  | take w n => show minL (comes z _ t) + _ + 1 = minL (comes y w t) + _ + 1; rw [cm w ho.1]; rfl
  | store w n => show maxL (comes z _ t) + _ + 1 = maxL (comes y w t) + _ + 1; rw [cm w ho.1]; rfl
  | say n => rfl
  | test a b => rfl
  | stop => rfl
theorem spin_ren {p q : Prog} {y z : Lay} {f g : List Nat} (gp : Good p) (R : Ren p q f g) (RL : RenL p y z f g) : ∀ k, (spinS q z k).now = (spinS p y k).now
  | 0 => rfl
  | k + 1 => by
    have ih := spin_ren gp R RL k
    have h := run_ren gp R k
    cases hc : (runS p k).here with
    | none =>
      have e1 : spinS p y (k + 1) = spinS p y k := spin_end (by rw [(spin_run p y k).2, hc]) 1
      have e2 : spinS q z (k + 1) = spinS q z k := spin_end (by rw [(spin_run q z k).2, h.here, hc]; rfl) 1
      rw [e1, e2, ih]
    | some r =>
      have hr := (runS_ok gp k).here r hc
      rw [spinS_go hc, spinS_go (p := q) (r := g.getD r 0) (by rw [h.here, hc]; rfl), R.rows r hr, behind_ren RL (row_ok gp r), ih, RL.pl r hr, RL.wide]
structure RunGoes (p : Prog) (G : GoL) : Prop where
  none : (runS p 5000).here = none
  ex : ∃ L : List (Int × Int), L.Perm ((runS p 5000).goes.map (·.1)) ∧ G = L.map (goOf (runS p 5000).goes)
theorem RunGoes.goes {p : Prog} {G : GoL} (g : Good p) (h : RunGoes p G) : Goes p G := by
  obtain ⟨hn, L, pm, rfl⟩ := h
  obtain ⟨cur, I⟩ := runS_goes g 5000
  exact (Goes.of (by decide) I hn pm).1
theorem RunGoes.beats {p : Prog} {y : Lay} {G : GoL} (g : Good p) (yk : LayOk p y) (h : RunGoes p G) : beatsF y p.rows G = (spinS p y 5000).now := by
  obtain ⟨hn, L, pm, rfl⟩ := h
  exact beats_spin g yk hn pm
theorem run_none {p q : Prog} {f g : List Nat} (gp : Good p) (R : Ren p q f g) (h : (runS p 5000).here = none) : (runS q 5000).here = none := by
  rw [(run_ren gp R 5000).here, h]
  rfl
theorem to_ren {p q : Prog} {f g : List Nat} {G1 G2 : GoL} (gp : Good p) (R : Ren p q f g) (h1 : RunGoes p G1) (h2 : RunGoes q G2) : (G2.map (·.1.2)).Perm ((G1.map (·.1.2)).map fun x => g.getD x 0) := by
  obtain ⟨_, L1, pm1, rfl⟩ := h1
  obtain ⟨_, L2, pm2, rfl⟩ := h2
  rw [List.map_map, List.map_map, List.map_map]
  have e : (runS q 5000).goes.map (·.1) = ((runS p 5000).goes.map (·.1)).map (kI g) := by
    rw [(run_ren gp R 5000).goes, List.map_map, List.map_map]
    rfl
  have pm : L2.Perm (L1.map (kI g)) := pm2.trans (by rw [e]; exact (pm1.map _).symm)
  have q := pm.map fun k : Int × Int => k.2.toNat
  rw [List.map_map] at q
  exact q
theorem to_lt {p : Prog} {G : GoL} (g : Good p) (gk : Goes p G) : ∀ t ∈ G.map (·.1.2), t < p.rows.length := fun t ht => by
  obtain ⟨e, he, rfl⟩ := List.mem_map.mp ht
  exact tgt_lt g (gk.key e he).2.1
theorem count_inj {h : Nat → Nat} {x : Nat} : ∀ l : List Nat, (∀ t ∈ l, h t = h x → t = x) → (l.map h).count (h x) = l.count x
  | [], _ => rfl
  | t :: l, hi => by
    rw [List.map_cons, List.count_cons, List.count_cons, count_inj l fun t ht => hi t (List.mem_cons_of_mem _ ht)]
    by_cases e : t = x
    · rw [e]; simp
    · have e2 : h t ≠ h x := fun z => e (hi t List.mem_cons_self z)
      simp [e, e2]
theorem len_same {a b : List Nat} (na : a.Nodup) (nb : b.Nodup) (h : ∀ x, x ∈ a ↔ x ∈ b) : a.length = b.length := ((List.perm_ext_iff_of_nodup na nb).mpr h).length_eq
theorem nodup_up {l : List Nat} (h : l.Pairwise (· < ·)) : l.Nodup := h.imp fun a b => by omega
theorem nodup_inj {h : Nat → Nat} : ∀ {l : List Nat}, (∀ a ∈ l, ∀ b ∈ l, h a = h b → a = b) → l.Nodup → (l.map h).Nodup
  | [], _, _ => List.nodup_nil
  | x :: l, hi, nd => by
    have nd := List.nodup_cons.mp nd
    rw [List.map_cons]
    refine List.nodup_cons.mpr ⟨fun z => ?_, nodup_inj (fun a ha b hb => hi a (List.mem_cons_of_mem _ ha) b (List.mem_cons_of_mem _ hb)) nd.2⟩
    obtain ⟨y, hy, e⟩ := List.mem_map.mp z
    have := hi y (List.mem_cons_of_mem _ hy) x List.mem_cons_self e
    exact nd.1 (this ▸ hy)
theorem rowsOf_ren {p q : Prog} {f g : List Nat} {G1 G2 : GoL} {rs1 rs2 : List Nat} (gp : Good p) (R : Ren p q f g) (h1 : RunGoes p G1) (h2 : RunGoes q G2) (r1 : RowsOf G1 rs1) (r2 : RowsOf G2 rs2) : rs2.length = rs1.length := by
  have lt := to_lt gp (h1.goes gp)
  have pm := to_ren gp R h1 h2
  have N0 : 0 < p.rows.length := gp.r1
  have in1 : ∀ x, x ∈ rs1 → x < p.rows.length := fun x hx => lt x (List.count_pos_iff.mp (by have := ((r1.2 x).mp hx).2; omega))
  have cnt : ∀ x, x < p.rows.length → (G2.map (·.1.2)).count (g.getD x 0) = (G1.map (·.1.2)).count x := fun x hx => by
    rw [pm.count_eq]
    exact count_inj (h := fun x => g.getD x 0) _ fun t ht e => prm_inj R.gp (lt t ht) hx e
  have z0 : ∀ x, x < p.rows.length → (g.getD x 0 ≠ 0 ↔ x ≠ 0) := fun x hx => ⟨fun h e => h (by rw [e, R.g0]), fun h e => h (prm_inj R.gp hx N0 (by rw [e, R.g0]))⟩
  rw [← List.length_map (f := fun x => g.getD x 0) (as := rs1)]
  refine len_same (nodup_up r2.1) (nodup_inj (fun a ha b hb e => prm_inj R.gp (in1 a ha) (in1 b hb) e) (nodup_up r1.1)) fun x => ?_
  rw [r2.2 x, List.mem_map]
  constructor
  · rintro ⟨x0, c⟩
    have hm : x ∈ G2.map (·.1.2) := List.count_pos_iff.mp (by omega)
    obtain ⟨t, ht, rfl⟩ := List.mem_map.mp (pm.mem_iff.mp hm)
    have tl := lt t ht
    refine ⟨t, (r1.2 t).mpr ⟨(z0 t tl).mp x0, ?_⟩, rfl⟩
    have e := cnt t tl
    have c : 2 ≤ (G2.map (·.1.2)).count (g.getD t 0) := c
    omega
  · rintro ⟨t, ht, rfl⟩
    have tl := in1 t ht
    obtain ⟨a, b⟩ := (r1.2 t).mp ht
    refine ⟨(z0 t tl).mpr a, ?_⟩
    have e := cnt t tl
    show 2 ≤ (G2.map (·.1.2)).count (g.getD t 0)
    omega
theorem uses_ren {f g : Nat → Nat} {W N : Nat} {r : Row} (ho : r.ok W N) (x : Nat) : ((r.ren f g).uses = true ∧ (rowVs (r.ren f g))[1]? = some (nI x)) ↔ ∃ w, w < W ∧ (r.uses = true ∧ (rowVs r)[1]? = some (nI w)) ∧ f w = x := by
  have key : ∀ {w n : Nat} {s : Str}, w < W → ((some (V.int ((f w : Nat) : Int)) = some (nI x)) ↔ ∃ v, v < W ∧ (some (V.int (w : Int)) = some (nI v)) ∧ f v = x) := fun {w n s} hw => by
    constructor
    · intro e
      exact ⟨w, hw, rfl, Int.ofNat_inj.mp (V.int.inj (Option.some.inj e))⟩
    · rintro ⟨v, _, e, rfl⟩
      rw [Int.ofNat_inj.mp (V.int.inj (Option.some.inj e))]
      rfl
  cases r with
  | load w n => have k := key (n := n) (s := "") ho.1; exact ⟨fun h => (k.mp h.2).elim fun v q => ⟨v, q.1, ⟨rfl, q.2.1⟩, q.2.2⟩, fun ⟨v, a, b, c⟩ => ⟨rfl, k.mpr ⟨v, a, b.2, c⟩⟩⟩
  | add w n => have k := key (n := n) (s := "") ho.1; exact ⟨fun h => (k.mp h.2).elim fun v q => ⟨v, q.1, ⟨rfl, q.2.1⟩, q.2.2⟩, fun ⟨v, a, b, c⟩ => ⟨rfl, k.mpr ⟨v, a, b.2, c⟩⟩⟩
  | take w n => have k := key (n := n) (s := "") ho.1; exact ⟨fun h => (k.mp h.2).elim fun v q => ⟨v, q.1, ⟨rfl, q.2.1⟩, q.2.2⟩, fun ⟨v, a, b, c⟩ => ⟨rfl, k.mpr ⟨v, a, b.2, c⟩⟩⟩
  | store w n => have k := key (n := n) (s := "") ho.1; exact ⟨fun h => (k.mp h.2).elim fun v q => ⟨v, q.1, ⟨rfl, q.2.1⟩, q.2.2⟩, fun ⟨v, a, b, c⟩ => ⟨rfl, k.mpr ⟨v, a, b.2, c⟩⟩⟩
  | say n => exact ⟨fun h => Bool.noConfusion h.1, fun ⟨_, _, b, _⟩ => Bool.noConfusion b.1⟩
  | test a b => exact ⟨fun h => Bool.noConfusion h.1, fun ⟨_, _, b, _⟩ => Bool.noConfusion b.1⟩
  | stop => exact ⟨fun h => Bool.noConfusion h.1, fun ⟨_, _, b, _⟩ => Bool.noConfusion b.1⟩
theorem done_ren {p q : Prog} {f g : List Nat} {G1 G2 : GoL} (gp : Good p) (R : Ren p q f g) (h1 : RunGoes p G1) (h2 : RunGoes q G2) (x : Nat) : doneBy G2 x ↔ ∃ r, r < p.rows.length ∧ doneBy G1 r ∧ g.getD r 0 = x := by
  have lt := to_lt gp (h1.goes gp)
  have pm := to_ren gp R h1 h2
  have mem : ∀ {G : GoL} {y : Nat}, (∃ e ∈ G, e.1.2 = y) ↔ y ∈ G.map (·.1.2) := fun {G y} => List.mem_map.symm
  constructor
  · rintro (rfl | h)
    · exact ⟨0, gp.r1, .inl rfl, R.g0⟩
    · obtain ⟨t, ht, e⟩ := List.mem_map.mp (pm.mem_iff.mp (mem.mp h))
      exact ⟨t, lt t ht, .inr (mem.mpr ht), e⟩
  · rintro ⟨r, _, h | h, rfl⟩
    · rw [h]
      exact .inl R.g0
    · exact .inr (mem.mpr (pm.mem_iff.mpr (List.mem_map.mpr ⟨r, mem.mp h, rfl⟩)))
theorem usesV_lt {W N x : Nat} {r : Row} (ho : r.ok W N) (a : r.uses = true) (b : (rowVs r)[1]? = some (nI x)) : x < W := by
  cases r <;> first | exact Bool.noConfusion a | (have e := Int.ofNat_inj.mp (V.int.inj (Option.some.inj b)); rw [← e]; exact ho.1)
theorem worthsOf_ren {p q : Prog} {f g : List Nat} {G1 G2 : GoL} {ws1 ws2 : List Nat} (gp : Good p) (R : Ren p q f g) (h1 : RunGoes p G1) (h2 : RunGoes q G2) (r1 : WorthsOf p G1 ws1) (r2 : WorthsOf q G2 ws2) : ws2.length = ws1.length := by
  have in1 : ∀ x, x ∈ ws1 → x < p.ws.length := fun x hx => by
    obtain ⟨r, _, a, b⟩ := (r1.2 x).mp hx
    exact usesV_lt (row_ok gp r) a b
  rw [← List.length_map (f := fun x => f.getD x 0) (as := ws1)]
  refine len_same (nodup_up r2.1) (nodup_inj (fun a ha b hb e => prm_inj R.fp (in1 a ha) (in1 b hb) e) (nodup_up r1.1)) fun x => ?_
  rw [r2.2 x, List.mem_map]
  constructor
  · rintro ⟨r, hd, hu⟩
    obtain ⟨r0, hr0, hd0, rfl⟩ := (done_ren gp R h1 h2 r).mp hd
    rw [R.rows r0 hr0] at hu
    obtain ⟨w, hw, hu0, e⟩ := (uses_ren (row_ok gp r0) x).mp hu
    exact ⟨w, (r1.2 w).mpr ⟨r0, hd0, hu0⟩, e⟩
  · rintro ⟨w, hw, e⟩
    obtain ⟨r0, hd0, hu0⟩ := (r1.2 w).mp hw
    have hr0 : r0 < p.rows.length := by
      rcases hd0 with z | ⟨e, he, z⟩
      · rw [z]; exact gp.r1
      · exact to_lt gp (h1.goes gp) _ (List.mem_map.mpr ⟨e, he, z⟩)
    refine ⟨g.getD r0 0, (done_ren gp R h1 h2 _).mpr ⟨r0, hr0, hd0, rfl⟩, ?_⟩
    rw [R.rows r0 hr0]
    exact (uses_ren (row_ok gp r0) x).mpr ⟨w, in1 w hw, hu0, e⟩
def backL (z : Lay) (f g : List Nat) : Lay := ⟨z.wide, g.map fun x => z.places.getD x 0, f.map fun x => z.homes.getD x []⟩
structure Bk (l b : List Nat) (n : Nat) : Prop where
  len : b.length = n
  at_ : ∀ x, x < n → b.getD x 0 < n ∧ l.getD (b.getD x 0) 0 = x
theorem getD_mapN {α : Type} {h : Nat → α} {l : List Nat} {i : Nat} {d : α} (hi : i < l.length) : (l.map h).getD i d = h (l.getD i 0) := by
  rw [List.getD_eq_getElem?_getD, List.getD_eq_getElem?_getD, List.getElem?_map, List.getElem?_eq_getElem hi]
  rfl
theorem home_in {p : Prog} {y : Lay} (k : LayOk p y) {w : Nat} (hw : w < p.ws.length) : y.homes.getD w [] ∈ y.homes := by
  have hw : w < y.homes.length := by rw [k.hl]; exact hw
  rw [List.getD_eq_getElem?_getD, List.getElem?_eq_getElem hw]
  exact List.getElem_mem hw
theorem lay_to {p q : Prog} {y : Lay} {f g a b : List Nat} (R : Ren p q f g) (k : LayOk p y) (fb : Bk f a p.ws.length) (gb : Bk g b p.rows.length) : LayOk q (backL y a b) ∧ RenL p y (backL y a b) f g ∧ ∀ h ∈ (backL y a b).homes, h ∈ y.homes := by
  have mh : ∀ h ∈ (backL y a b).homes, h ∈ y.homes := fun h hh => by
    obtain ⟨x, hx, rfl⟩ := List.mem_map.mp hh
    obtain ⟨i, hi, rfl⟩ := List.getElem_of_mem hx
    have := (fb.at_ i (by rw [← fb.len]; exact hi)).1
    rw [List.getD_eq_getElem?_getD, List.getElem?_eq_getElem hi] at this
    exact home_in k this
  refine ⟨⟨k.w2, k.w24, by rw [R.rl]; show (b.map _).length = _; rw [List.length_map, gb.len], fun x hx => ?_, by rw [R.wl]; show (a.map _).length = _; rw [List.length_map, fb.len], fun h hh => k.hok h (mh h hh)⟩, ⟨rfl, fun i hi => ?_, fun w hw => ?_⟩, mh⟩
  · obtain ⟨u, _, rfl⟩ := List.mem_map.mp hx
    exact pl_lt k u
  · have hg := prm_lt R.gp hi
    show (b.map _).getD _ 0 = _
    rw [getD_mapN (by rw [gb.len]; exact hg)]
    obtain ⟨h1, h2⟩ := gb.at_ _ hg
    rw [prm_inj R.gp h1 hi h2]
  · have hf := prm_lt R.fp hw
    show (a.map _).getD _ [] = _
    rw [getD_mapN (by rw [fb.len]; exact hf)]
    obtain ⟨h1, h2⟩ := fb.at_ _ hf
    rw [prm_inj R.fp h1 hw h2]
theorem lay_back {p q : Prog} {z : Lay} {f g : List Nat} (R : Ren p q f g) (k : LayOk q z) : LayOk p (backL z f g) ∧ RenL p (backL z f g) z f g ∧ ∀ h ∈ (backL z f g).homes, h ∈ z.homes := by
  have fl : f.length = p.ws.length := by rw [R.fp.length_eq, List.length_range]
  have gl : g.length = p.rows.length := by rw [R.gp.length_eq, List.length_range]
  have mh : ∀ h ∈ (backL z f g).homes, h ∈ z.homes := fun h hh => by
    obtain ⟨x, hx, rfl⟩ := List.mem_map.mp hh
    exact home_in k (by rw [R.wl]; exact List.mem_range.mp (R.fp.mem_iff.mp hx))
  refine ⟨⟨k.w2, k.w24, by show (g.map _).length = _; rw [List.length_map, gl], fun x hx => ?_, by show (f.map _).length = _; rw [List.length_map, fl], fun h hh => k.hok h (mh h hh)⟩, ⟨rfl, fun i hi => ?_, fun w hw => ?_⟩, mh⟩
  · obtain ⟨u, _, rfl⟩ := List.mem_map.mp hx
    exact pl_lt k u
  · show _ = (g.map _).getD _ 0
    rw [getD_mapN (by rw [gl]; exact hi)]
  · show _ = (f.map _).getD _ []
    rw [getD_mapN (by rw [fl]; exact hw)]
theorem bk_of {l : List Nat} {n : Nat} (h : l.Perm (List.range n)) : ∃ b, Bk l b n := by
  refine ⟨(List.range n).map fun x => l.idxOf x, by rw [List.length_map, List.length_range], fun x hx => ?_⟩
  have e : ((List.range n).map fun x => l.idxOf x).getD x 0 = l.idxOf x := by
    rw [getD_mapN (by rw [List.length_range]; exact hx), List.getD_eq_getElem?_getD, List.getElem?_range hx]
    rfl
  have hm : x ∈ l := h.mem_iff.mpr (List.mem_range.mpr hx)
  have hi : l.idxOf x < l.length := List.idxOf_lt_length_of_mem hm
  rw [e]
  refine ⟨by rw [h.length_eq, List.length_range] at hi; exact hi, ?_⟩
  rw [List.getD_eq_getElem?_getD, List.getElem?_eq_getElem hi]
  exact List.getElem_idxOf hi
theorem few_ren {p q : Prog} {f g : List Nat} {G1 G2 : GoL} {y1 y2 : Lay} (gp : Good p) (gq : Good q) (R : Ren p q f g) (h1 : RunGoes p G1) (h2 : RunGoes q G2) (k1 : LayOk p y1) (k2 : LayOk q y2) (hw : y1.wide = y2.wide)
    (o1 : ∀ h ∈ y1.homes, h.length = 1) (o2 : ∀ h ∈ y2.homes, h.length = 1)
    (l1 : ∀ y, LayOk p y → (∀ h ∈ y.homes, h.length = 1) → y.wide = y1.wide → beatsF y1 p.rows G1 ≤ beatsF y p.rows G1)
    (l2 : ∀ y, LayOk q y → (∀ h ∈ y.homes, h.length = 1) → y.wide = y2.wide → beatsF y2 q.rows G2 ≤ beatsF y q.rows G2) : beatsF y1 p.rows G1 = beatsF y2 q.rows G2 := by
  obtain ⟨a, fa⟩ := bk_of R.fp
  obtain ⟨b, gb⟩ := bk_of R.gp
  obtain ⟨t1, t2, t3⟩ := lay_to R k1 fa gb
  obtain ⟨s1, s2, s3⟩ := lay_back R k2
  have e1 := l1 _ s1 (fun h hh => o2 h (s3 h hh)) hw.symm
  have e2 := l2 _ t1 (fun h hh => o1 h (t3 h hh)) hw
  rw [h1.beats gp s1, ← spin_ren gp R s2, ← h2.beats gq k2] at e1
  rw [h2.beats gq t1, spin_ren gp R t2, ← h1.beats gp k1] at e2
  omega
/-! ### turned places -/
theorem turned_own {p : Prog} {y z : Lay} {c : Int} (N0 : 0 < p.rows.length) (h : Turned p y z c) : Turned p y z (((z.places.getD 0 0 : Nat) : Int) - ((y.places.getD 0 0 : Nat) : Int)) := by
  obtain ⟨k0, e0⟩ := h.pl 0 N0
  refine ⟨h.wide, fun i hi => ?_, fun w hw x hx => ?_, fun w hw x hx => ?_⟩
  · obtain ⟨k, e⟩ := h.pl i hi
    exact ⟨k - k0, by rw [e, e0, Int.sub_mul]; omega⟩
  · obtain ⟨x0, h1, k, e⟩ := h.to w hw x hx
    exact ⟨x0, h1, k - k0, by rw [e, e0, Int.sub_mul]; omega⟩
  · obtain ⟨x0, h1, k, e⟩ := h.fro w hw x hx
    exact ⟨x0, h1, k - k0, by rw [e, e0, Int.sub_mul]; omega⟩
theorem fb_zero {P W : Nat} (h : P < W) : fb 0 P W = (P : Int) := by
  unfold fb
  rw [Int.sub_zero, Int.emod_eq_of_lt (by omega) (by omega)]
  omega
theorem spin_tr {p : Prog} {y z : Lay} {c : Int} (g : Good p) (ky : LayOk p y) (kz : LayOk p z) (h : Turned p y z c) (c0 : ((z.places.getD 0 0 : Nat) : Int) = ((y.places.getD 0 0 : Nat) : Int) + c) : ∀ k, (spinS p z (k + 1)).now = (spinS p y (k + 1)).now + c
  | 0 => by
    have e : (runS p 0).here = some 0 := rfl
    rw [spinS_go e, spinS_go e]
    show behindF z _ (fb 0 _ _) = behindF y _ (fb 0 _ _) + c
    rw [fb_zero (pl_lt kz 0), fb_zero (pl_lt ky 0), c0]
    unfold behindF
    have u := use_tr ky h (row_ok g 0) ((y.places.getD 0 0 : Nat) : Int) 0
    rw [Int.zero_mul, Int.add_zero] at u
    rw [u]
    omega
  | k + 1 => by
    have ih := spin_tr g ky kz h c0 k
    cases hc : (runS p (k + 1)).here with
    | none =>
      have e1 : spinS p y (k + 1 + 1) = spinS p y (k + 1) := spin_end (by rw [(spin_run p y (k + 1)).2, hc]) 1
      have e2 : spinS p z (k + 1 + 1) = spinS p z (k + 1) := spin_end (by rw [(spin_run p z (k + 1)).2, hc]) 1
      rw [e1, e2, ih]
    | some r =>
      have hr := (runS_ok g (k + 1)).here r hc
      obtain ⟨k1, e1⟩ := h.pl r hr
      rw [spinS_go hc, spinS_go hc, ih, h.wide, fbP_shift e1]
      unfold behindF
      have u := use_tr ky h (row_ok g r) (fb (spinS p y (k + 1)).now (y.places.getD r 0) y.wide) 0
      rw [Int.zero_mul, Int.add_zero] at u
      rw [u]
      omega
end DL
namespace DL
open PySem L2 DLR
/-! ### a program and a laying, numbered otherwise -/
def renR (p : Prog) (f g : List Nat) (i : Nat) : Row := (p.rows.getD i .stop).ren (fun x => f.getD x 0) (fun x => g.getD x 0)
structure OthAt (K : Frg) (H0 : Hp) (d sa : Addr) (ns : List Int) (D1 ln lf : Addr) (ks nums : List Nat) (rw_ : Nat → Row) (N : Nat) (i : Nat) (H : Hp) : Prop where
  dc : Dc K H0 H d sa ns
  nf : H0 lf = none
  ne1 : D1 ≠ lf
  ne2 : ln ≠ lf
  names : H D1 = some (.lst (ks.map nI))
  numbers : H ln = some (.lst (nums.map nI))
  found : ∃ fs : List V, H lf = some (.lst fs) ∧ fs.length = N ∧ ∀ j, j < i → ∃ b, fs[nums.getD j 0]? = some (.ref b) ∧ H b = some (.tup (rowVs (rw_ j)))
theorem OthAt.same {K : Frg} {H0 H H' : Hp} {d sa : Addr} {ns : List Int} {D1 ln lf : Addr} {ks nums : List Nat} {rw_ : Nat → Row} {N i : Nat} (m : OthAt K H0 d sa ns D1 ln lf ks nums rw_ N i H) (s : Same1 H H') : OthAt K H0 d sa ns D1 ln lf ks nums rw_ N i H' := by
  obtain ⟨fs, h1, h2, h3⟩ := m.found
  refine ⟨m.dc.same s, m.nf, m.ne1, m.ne2, s _ _ m.names, s _ _ m.numbers, fs, s _ _ h1, h2, fun j hj => ?_⟩
  obtain ⟨b, q1, q2⟩ := h3 j hj
  exact ⟨b, q1, s _ _ q2⟩
theorem OthAt.put {K : Frg} {H0 H : Hp} {d sa : Addr} {ns : List Int} {D1 ln lf : Addr} {ks nums : List Nat} {rw_ : Nat → Row} {N i y : Nat} {t : Addr} {fs : List V} (m : OthAt K H0 d sa ns D1 ln lf ks nums rw_ N i H) (nd : nums.Nodup) (hf : H lf = some (.lst fs)) (hy : nums[i]? = some y) (hyN : y < N)
    (ht : H t = some (.tup (rowVs (rw_ i)))) : OthAt K H0 d sa ns D1 ln lf ks nums rw_ N (i + 1) (upd H lf (.lst (fs.set y (.ref t)))) := by
  obtain ⟨fs', h1, h2, h3⟩ := m.found
  rw [hf] at h1
  have e : fs = fs' := by injection (Option.some.inj h1)
  subst e
  have kp : Kp H (upd H lf (.lst (fs.set y (.ref t)))) := Kp.lst hf
  refine ⟨m.dc.mut m.nf, m.nf, m.ne1, m.ne2, by rw [upd_ne m.ne1]; exact m.names, by rw [upd_ne m.ne2]; exact m.numbers, fs.set y (.ref t), upd_same, by rw [List.length_set]; exact h2, fun j hj => ?_⟩
  have hil := (List.getElem?_eq_some_iff.mp hy).1
  by_cases e : j = i
  · subst e
    exact ⟨t, by rw [List.getD_eq_getElem?_getD, hy]; show (fs.set y _)[y]? = _; rw [List.getElem?_set_self (by omega)], kp _ _ ht⟩
  · have hji : j < i := by omega
    obtain ⟨b, q1, q2⟩ := h3 j hji
    have ne : y ≠ nums.getD j 0 := fun z => by
      have hjl : j < nums.length := by omega
      rw [List.getD_eq_getElem?_getD, List.getElem?_eq_getElem hjl] at z
      have z2 : nums[i] = nums[j] := (List.getElem?_eq_some_iff.mp hy).2.trans z
      exact e ((List.getElem_inj nd).mp z2).symm
    exact ⟨b, by rw [List.getElem?_set_ne ne]; exact q1, kp _ _ q2⟩
theorem getD_mapR {α : Type} {h : Nat → α} {n i : Nat} {d : α} (hi : i < n) : ((List.range n).map h).getD i d = h i := by
  rw [getD_mapN (by rw [List.length_range]; exact hi), List.getD_eq_getElem?_getD, List.getElem?_range hi]
  rfl
theorem paired_of {F : Addr → Row → Prop} : ∀ {l : List V} {rs : List Row}, l.length = rs.length → (∀ i, i < l.length → ∃ b, l[i]? = some (.ref b) ∧ F b (rs.getD i .stop)) → ∃ bs, l = bs.map V.ref ∧ Paired F bs rs
  | [], [], _, _ => ⟨[], rfl, .nil⟩
  | x :: l, r :: rs, e, h => by
    obtain ⟨b, h1, h2⟩ := h 0 (by simp)
    obtain ⟨bs, h3, h4⟩ := paired_of (l := l) (rs := rs) (Nat.succ.inj e) fun i hi => by
      obtain ⟨b, q1, q2⟩ := h (i + 1) (by simp; omega)
      exact ⟨b, by simpa using q1, q2⟩
    have e : x = .ref b := by simpa using h1
    exact ⟨b :: bs, by rw [e, h3]; rfl, .cons h2 h4⟩
structure BkUp (l b : List Nat) (i : Nat) : Prop where
  len : b.length = i
  at_ : ∀ x, x < i → b.getD x 0 < l.length ∧ l.getD (b.getD x 0) 0 = x
theorem BkUp.zero (l : List Nat) : BkUp l [] 0 := ⟨rfl, fun x h => absurd h (Nat.not_lt_zero _)⟩
theorem BkUp.snoc {l b : List Nat} {i j : Nat} (h : BkUp l b i) (hj : j < l.length) (e : l[j]? = some i) : BkUp l (b ++ [j]) (i + 1) := by
  refine ⟨by rw [List.length_append, h.len]; rfl, fun x hx => ?_⟩
  by_cases c : x < i
  · have e2 : (b ++ [j]).getD x 0 = b.getD x 0 := by rw [List.getD_eq_getElem?_getD, List.getD_eq_getElem?_getD, List.getElem?_append_left (by rw [h.len]; exact c)]
    rw [e2]
    exact h.at_ x c
  · have xi : x = i := by omega
    subst xi
    have e2 : (b ++ [j]).getD x 0 = j := by rw [List.getD_eq_getElem?_getD, List.getElem?_append_right (by rw [h.len]; exact Nat.le_refl _), h.len, Nat.sub_self]; rfl
    rw [e2]
    exact ⟨hj, by rw [List.getD_eq_getElem?_getD, e]; rfl⟩
theorem BkUp.bk {l b : List Nat} {n : Nat} (h : BkUp l b n) (e : l.length = n) : Bk l b n := ⟨h.len, fun x hx => ⟨e ▸ (h.at_ x hx).1, (h.at_ x hx).2⟩⟩
abbrev sOtherwise : Stmt := top 87
abbrev pOtherwise : List Str := ["_law_d", "_law_program", "_law_laying_here"]
abbrev nOtherwise : List Str := ["_law_d","_law_program","_law_laying_here","_law_worths","_law_rows","_law_left","_law_names","_law_row","_law_numbers","_law_found","_law_number","_law_told_here","_law_k","_law_is_worth","_law_order","_law_worth","_law_places","_law_other","_law_homes"]
abbrev FOtherwise (K : Frg) (mg : Str → Option Value) := Fd K mg "_law_otherwise" sOtherwise pOtherwise
def spOtherwise (K : Frg) : Sp := fun vs H Q _ => ∃ (d sa : Addr) (ns : List Int) (a ya : Addr) (p : Prog) (y : Lay), vs = [.ref d, .ref a, .ref ya] ∧ Ent K H d sa ns ∧ ProgAt H a p ∧ Good p ∧ LayAt H ya y ∧ LayOk p y ∧
  ∀ (t qa za : Addr) (q : Prog) (f g a b : List Nat) (H' : Hp), Dc K H H' d sa ns → H' t = some (.tup [.ref qa, .ref za]) → ProgAt H' qa q → Good q → Ren p q f g → Bk f a p.ws.length → Bk g b p.rows.length → LayAt H' za (backL y a b) → Q (.ref t) H'
section
variable {P : Program} {w : World} {K : PySem.W.Frag} {mg : Str → Option Value} {base : Heap}
theorem scOtherwise : FnScope nOtherwise pOtherwise (defScope sOtherwise) := ⟨rfl, rfl, rfl, by decide +kernel, rfl, by decide +kernel, by decide +kernel⟩
theorem ok_otherwise (cOtherwise : FOtherwise K mg) (cNext : FNext K mg) (T : Bt mg) : FnOk P w K mg base CX0 2 cOtherwise.f cOtherwise.fd pOtherwise (spOtherwise K) := by
  have GNext : FnOk P w K mg base CX0 1 cNext.f cNext.fd ["_law_dice_here", "_law_many"] (spNext K) := ok_next cNext.F T
  refine cOtherwise.F.ok scOtherwise (fun vs H Q E h => ?_) (fun cdv A outer s H vs Q E hr h => ?_)
  · obtain ⟨d, sa, ns, a, ya, p, y, rfl, _⟩ := h
    rfl
  · obtain ⟨d, sa, ns, a, ya, p, y, rfl, hE, ⟨wa, ra, bs, ha, hwa, hra, hR⟩, g, ⟨pl, hl, cs, hya, hpl, hhl, hHm⟩, yk, kq⟩ := h
    refine ⟨_, (pss_cons (ps_asg (pv 1) (pg_tup rfl (pgs_cons (pg_name (i := 3) scOtherwise.nd rfl (Or.inr rfl)) (pgs_cons (pg_name (i := 4) scOtherwise.nd rfl (Or.inl rfl)) pgs_nil))))
      (pss_cons (ps_set (i := 5) scOtherwise.nd rfl (Or.inr rfl) (pe_listRg rfl (by rfl) T.list (prg_1 (by rfl) T.range (pe_callB call_len_seq (by rfl) T.len PySem.boot_len (pa_cons (pv 3) pa_nil)))))
      (pss_cons (ps_set (i := 6) scOtherwise.nd rfl (Or.inr rfl) (pe_lc (own := [("_law_worth", 15)]) (g := gName 15) (tt := tYes) rfl scOtherwise.nd (pi_tup (pv 3)) (blkOk_by (N := nOtherwise) (sc := defScope sOtherwise) (by decide +kernel)) (fun _ _ _ _ _ => (pg_name (i := 15) scOtherwise.nd rfl (Or.inl rfl))) (fun _ _ _ _ _ => pts_nil) (fun _ _ _ _ _ => (pe_bmK K rfl PySem.F.plainAttrs_list PySem.F.slot_list_pop PySem.F.type_list_pop mt_popAt (pv 5) (pa_cons (pe_call GNext (hr.mono (by first | omega | decide)) (by rfl) cNext.m cNext.F.kp cNext.b .nil pass0 (pa_cons (pv 0) (pa_cons (pe_callB (call_lenK K rfl) (by rfl) T.len PySem.boot_len (pa_cons (pv 5) pa_nil)) pa_nil))) pa_nil)))))
      (pss_cons (ps_set (i := 5) scOtherwise.nd rfl (Or.inr rfl) (pe_listRg rfl (by rfl) T.list (prg_2 (by rfl) T.range pe_int (pe_callB call_len_seq (by rfl) T.len PySem.boot_len (pa_cons (pv 4) pa_nil)))))
      (pss_cons (ps_set (i := 8) scOtherwise.nd rfl (Or.inr rfl) (pe_op op_cat (pe_lst (pa_cons pe_int pa_nil)) (pe_lc (own := [("_law_row", 7)]) (g := gName 7) (tt := tYes) rfl scOtherwise.nd (pi_tup (pe_slice sl_tupS (pv 4) (po_some pe_int) po_none)) (blkOk_by (N := nOtherwise) (sc := defScope sOtherwise) (by decide +kernel)) (fun _ _ _ _ _ => (pg_name (i := 7) scOtherwise.nd rfl (Or.inl rfl))) (fun _ _ _ _ _ => pts_nil) (fun _ _ _ _ _ => (pe_bmK K rfl PySem.F.plainAttrs_list PySem.F.slot_list_pop PySem.F.type_list_pop mt_popAt (pv 5) (pa_cons (pe_call GNext (hr.mono (by first | omega | decide)) (by rfl) cNext.m cNext.F.kp cNext.b .nil pass0 (pa_cons (pv 0) (pa_cons (pe_callB (call_lenK K rfl) (by rfl) T.len PySem.boot_len (pa_cons (pv 5) pa_nil)) pa_nil))) pa_nil))))))
      (pss_cons (ps_set (i := 9) scOtherwise.nd rfl (Or.inl rfl) (pe_op op_rep (pe_lst (pa_cons pe_non pa_nil)) (pe_callB call_len_seq (by rfl) T.len PySem.boot_len (pa_cons (pv 4) pa_nil))))
      (pss_cons (ps_for PassesOwn.never rfl (pi_enumT (by rfl) T.enumerate (pa_cons (pv 4) pa_nil)) (pg_tup rfl (pgs_cons (pg_name (i := 10) scOtherwise.nd rfl (Or.inl rfl)) (pgs_cons (pg_name (i := 7) scOtherwise.nd rfl (Or.inl rfl)) pgs_nil)))
          (pss_cons (ps_set (i := 11) scOtherwise.nd rfl (Or.inl rfl) (pe_slice sl_tupS (pv 7) po_none (po_some pe_int)))
          (pss_cons (ps_for PassesOwn.never rfl (pi_range2 rfl T.range (pa_cons pe_int (pa_cons (pe_callB call_len_seq (by rfl) T.len PySem.boot_len (pa_cons (pv 7) pa_nil)) pa_nil))) (pg_name (i := 12) scOtherwise.nd rfl (Or.inl rfl))
              (pss_cons (ps_set (i := 13) scOtherwise.nd rfl (Or.inl rfl) (pe_and (pe_cmpR op_eq (pv 12) pe_int (nomark _)) (pe_one (pe_cmpR op_in_seq (pe_ix ix_tup (pv 7) pe_int (fun _ _ => rfl)) (pe_tup (pa_cons pe_str (pa_cons pe_str (pa_cons pe_str (pa_cons pe_str pa_nil))))) rfl))))
              (pss_one (ps_set (i := 11) scOtherwise.nd rfl (Or.inl rfl) (pe_op op_catS (pv 11) (pe_tup (pa_cons (pe_ix ix_list (pe_ifExp (pt_val (pv 13)) (pv 6) (pv 8)) (pe_ix ix_tup (pv 7) (pv 12) (fun _ _ => rfl)) (fun _ _ => rfl)) pa_nil)))))))
          (pss_one (ps_asg (pv 11) (pg_sub (pv 9) (pe_ix ix_list (pv 8) (pv 10) (fun _ _ => rfl)) set_list))))))
      (pss_cons (ps_setLc (i := 14) (own := [("_law_worth", 15)]) (g := gName 15) (tt := tYes) rfl scOtherwise.nd rfl rfl (sw_true rfl rfl rfl (by decide +kernel)) (pi_range1 rfl T.range (pa_cons (pe_callB call_len_seq (by rfl) T.len PySem.boot_len (pa_cons (pv 3) pa_nil)) pa_nil)) (blkOk_by (N := nOtherwise) (sc := defScope sOtherwise) (by decide +kernel)) (fun _ _ _ _ _ => (pg_name (i := 15) scOtherwise.nd rfl (Or.inl rfl))) (fun _ _ _ _ _ => pts_nil) (fun _ _ _ _ _ => (pe_bmK K rfl PySem.F.plainAttrs_list PySem.F.slot_list_index PySem.F.type_list_index (mt_indexK K rfl) (pv 6) (pa_cons (pv 15) pa_nil))))
      (pss_cons (ps_setLc (i := 16) (own := [("_law_row", 7)]) (g := gName 7) (tt := tYes) rfl scOtherwise.nd rfl rfl (sw_true rfl rfl rfl (by decide +kernel)) (pi_range1 rfl T.range (pa_cons (pe_callB call_len_seq (by rfl) T.len PySem.boot_len (pa_cons (pv 4) pa_nil)) pa_nil)) (blkOk_by (N := nOtherwise) (sc := defScope sOtherwise) (by decide +kernel)) (fun _ _ _ _ _ => (pg_name (i := 7) scOtherwise.nd rfl (Or.inl rfl))) (fun _ _ _ _ _ => pts_nil) (fun _ _ _ _ _ => (pe_bmK K rfl PySem.F.plainAttrs_list PySem.F.slot_list_index PySem.F.type_list_index (mt_indexK K rfl) (pv 8) (pa_cons (pv 7) pa_nil))))
      (pss_cons (ps_set (i := 17) scOtherwise.nd rfl (Or.inl rfl) (pe_tup (pa_cons (pe_callTy call_tuple_of (by rfl) T.tuple (by decide +kernel) (pa_cons (pe_lc (own := [("_law_k", 12)]) (g := gName 12) (tt := tYes) rfl scOtherwise.nd (pi_list (pv 14)) (blkOk_by (N := nOtherwise) (sc := defScope sOtherwise) (by decide +kernel)) (fun _ _ _ _ _ => (pg_name (i := 12) scOtherwise.nd rfl (Or.inl rfl))) (fun _ _ _ _ _ => pts_nil) (fun _ _ _ _ _ => (pe_ix (ix_tupK K rfl) (pv 3) (pv 12) (fun _ _ => rfl)))) pa_nil)) (pa_cons (pe_callTy call_tuple_of (by rfl) T.tuple (by decide +kernel) (pa_cons (pv 9) pa_nil)) pa_nil))))
      (pss_cons (ps_set (i := 18) scOtherwise.nd rfl (Or.inl rfl) (pe_callTy call_tuple_of (by rfl) T.tuple (by decide +kernel) (pa_cons (pe_lc (own := [("_law_k", 12)]) (g := gName 12) (tt := tYes) rfl scOtherwise.nd (pi_list (pv 14)) (blkOk_by (N := nOtherwise) (sc := defScope sOtherwise) (by decide +kernel)) (fun _ _ _ _ _ => (pg_name (i := 12) scOtherwise.nd rfl (Or.inl rfl))) (fun _ _ _ _ _ => pts_nil) (fun _ _ _ _ _ => (pe_ix (ix_tupK K rfl) (pe_ix (ix_tupK K rfl) (pv 2) pe_int (fun _ _ => rfl)) (pv 12) (fun _ _ => rfl)))) pa_nil)))
      (pss_one (ps_ret (pe_tup (pa_cons (pv 17) (pa_cons (pe_tup (pa_cons (pe_ix ix_tup (pv 2) pe_int (fun _ _ => rfl)) (pa_cons (pe_callTy call_tuple_of (by rfl) T.tuple (by decide +kernel) (pa_cons (pe_lc (own := [("_law_k", 12)]) (g := gName 12) (tt := tYes) rfl scOtherwise.nd (pi_list (pv 16)) (blkOk_by (N := nOtherwise) (sc := defScope sOtherwise) (by decide +kernel)) (fun _ _ _ _ _ => (pg_name (i := 12) scOtherwise.nd rfl (Or.inl rfl))) (fun _ _ _ _ _ => pts_nil) (fun _ _ _ _ _ => (pe_ix (ix_tupK K rfl) (pe_ix (ix_tupK K rfl) (pv 2) pe_int (fun _ _ => rfl)) (pv 12) (fun _ _ => rfl)))) pa_nil)) (pa_cons (pv 18) pa_nil)))) pa_nil)))))))))))))))), ?_⟩
    have hK0 := Dc.refl hE
    have hbr := Paired.length hR
    refine ⟨_, rfl, a, _, rfl, SqT.of ha, rfl, .ref wa, _, rfl, .ref ra, _, rfl, rfl, ?_⟩
    have hW8 := g.w8
    have hR40 := g.r40
    have hR1 := g.r1
    refine ⟨_, rfl, wa, _, rfl, .inr (SqT.of hwa), _, rfl, RgOk.of_le (Int.le_refl _) (by rw [List.length_map]; omega) (by omega) (by omega), fun l1 hl1 => ?_⟩
    refine alloc hl1 fun H1 s1 e1 => ?_
    rw [List.length_map, rgV_nI] at e1
    have C1 := hK0.same s1
    refine ⟨_, rfl, wa, rfl, ⟨_, SqT.of (s1 _ _ hwa)⟩, fun D1 hD1 => ?_⟩
    have nDl : D1 ≠ l1 := (ne_of_none e1 hD1).symm
    refine lc_tup (K := K) (a := wa) (xs := p.ws.map V.int) (PopAt K H d sa ns D1 l1 (List.range p.ws.length))
      ⟨[], _, C1.new hD1, C1.here hD1, hl1, nDl, upd_same, by rw [upd_ne nDl.symm]; exact e1, List.Perm.refl _, rfl⟩ (fun i H2 _ ⟨_, _, C, _⟩ => SqT.of (C.kp _ _ hwa)) ?_ ?_
    · rintro i x H2 hi ⟨ks, ls, C2, nD, nl, ne, hD, hl, hp, hk⟩
      have hiW : i < p.ws.length := by
        have q := (List.getElem?_eq_some_iff.mp hi).1
        rwa [List.length_map] at q
      have hle := hp.length_eq
      rw [List.length_append, hk, List.length_range] at hle
      refine ⟨rfl, _, rfl, .inl ⟨rfl, _, SqL.of hl⟩, _, rfl, _, rfl, l1, _, rfl, .inl (SqL.of hl), d, sa, ns, _, rfl, C2.ent, ?_, ?_, fun n H3 n0 n1 C3 => ?_⟩
      · rw [List.length_map]; omega
      · rw [List.length_map]; omega
      · rw [List.length_map] at n1
        obtain ⟨j, hj⟩ : ∃ j : Nat, n = (j : Int) := ⟨n.toNat, by omega⟩
        subst hj
        have hjl : j < ls.length := by omega
        have hl3 := C3.but _ _ (C2.ned nl) hl
        have hD3 := C3.but _ _ (C2.ned nD) hD
        refine ⟨l1, _, _, j, _, rfl, rfl, hl3, by omega, by omega, ?_, nI_get hjl, _, ?_, szl (show (ks.map nI).length < 100000 by rw [List.length_map]; omega), ?_⟩
        · rw [List.length_map, seqIndex_of (by omega) (by omega)]
          rfl
        · rw [upd_ne ne]; exact hD3
        · refine ⟨ks ++ [ls[j]], ls.eraseIdx j, ((C2.trans C3).mut nl).mut nD, nD, nl, ne, ?_, ?_, pop_perm hp (List.getElem?_eq_getElem hjl), by rw [List.length_append, hk]; rfl⟩
          · rw [upd_same, List.map_append]; rfl
          · rw [upd_ne ne.symm, upd_same, map_erase]
    · intro H2 h2
      rw [List.length_map] at h2
      obtain ⟨ks, C2, nD1, hks, hkp⟩ := PopAt.perm (all := List.range p.ws.length) (by rw [List.length_range]; exact h2)
      have hra2 := C2.kp _ _ hra
      refine ⟨_, rfl, ra, _, rfl, .inr (SqT.of hra2), _, _, rfl, rfl, RgOk.of_le (by decide) (by rw [List.length_map]; omega) (by decide) (by omega), fun l2 hl2 => ?_⟩
      refine alloc hl2 fun H3 s3 e3 => ?_
      rw [List.length_map, hbr, rgV_nI1] at e3
      have C3 := C2.same s3
      refine ⟨(by show 1 ≤ sizeLine; decide), fun l0 hl0 => ?_⟩
      refine alloc hl0 fun H4 s4 e4 => ?_
      have C4 := C3.same s4
      refine ⟨_, rfl, _, rfl, ra, _, rfl, C4.kp _ _ hra, fun p2 H5 s5 e5 => ?_⟩
      rw [drop1] at e5
      have C5 := C4.same s5
      refine ⟨p2, rfl, ⟨_, SqT.of e5⟩, fun D2 hD2 => ?_⟩
      have hxl : ((bs.map V.ref).drop 1).length = p.rows.length - 1 := by rw [List.length_drop, List.length_map, hbr]
      have el2 : H5 l2 = some (.lst (((List.range (p.rows.length - 1)).map (· + 1)).map nI)) := (s4.trans s5) _ _ e3
      have el0 : H5 l0 = some (.lst [.int 0]) := s5 _ _ e4
      have hks5 : H5 D1 = some (.lst (ks.map nI)) := ((s3.trans s4).trans s5) _ _ hks
      have nDl2 : D2 ≠ l2 := (ne_of_none el2 hD2).symm
      have nl2 : H l2 = none := C2.here hl2
      have nl0 : H l0 = none := C3.here hl0
      have nDa : D1 ≠ l2 := ne_of_none hks hl2
      have nDb : D1 ≠ D2 := ne_of_none hks5 hD2
      have nl02 : l0 ≠ l2 := (ne_of_none e3 hl0).symm
      have nl0D : l0 ≠ D2 := ne_of_none el0 hD2
      refine lc_tup (K := K) (a := p2) (xs := (bs.map V.ref).drop 1)
        (fun i H6 => PopAt K H d sa ns D2 l2 ((List.range (p.rows.length - 1)).map (· + 1)) i H6 ∧ H6 D1 = some (.lst (ks.map nI)) ∧ H6 l0 = some (.lst [.int 0]) ∧ H6 p2 = some (.tup ((bs.map V.ref).drop 1)))
        ⟨⟨[], _, C5.new hD2, C5.here hD2, nl2, nDl2, upd_same, by rw [upd_ne nDl2.symm]; exact el2, List.Perm.refl _, rfl⟩, by rw [upd_ne nDb]; exact hks5, by rw [upd_ne nl0D]; exact el0,
          by rw [upd_ne (ne_of_none e5 hD2)]; exact e5⟩ (fun i H2 _ ⟨_, _, _, q⟩ => SqT.of q) ?_ ?_
      · rintro i x H2 hi ⟨⟨ks2, ls, C2, nD, nl, ne, hD, hl, hp, hk⟩, g1, g0, g2⟩
        have hiW : i < p.rows.length - 1 := by
          have q := (List.getElem?_eq_some_iff.mp hi).1
          rwa [hxl] at q
        have hle := hp.length_eq
        rw [List.length_append, hk, List.length_map, List.length_range] at hle
        refine ⟨rfl, _, rfl, .inl ⟨rfl, _, SqL.of hl⟩, _, rfl, _, rfl, l2, _, rfl, .inl (SqL.of hl), d, sa, ns, _, rfl, C2.ent, ?_, ?_, fun n H3 n0 n1 C3 => ?_⟩
        · rw [List.length_map]; omega
        · rw [List.length_map]; omega
        · rw [List.length_map] at n1
          obtain ⟨j, hj⟩ : ∃ j : Nat, n = (j : Int) := ⟨n.toNat, by omega⟩
          subst hj
          have hjl : j < ls.length := by omega
          have hl3 := C3.but _ _ (C2.ned nl) hl
          have hD3 := C3.but _ _ (C2.ned nD) hD
          refine ⟨l2, _, _, j, _, rfl, rfl, hl3, by omega, by omega, ?_, nI_get hjl, _, ?_, szl (show (ks2.map nI).length < 100000 by rw [List.length_map]; omega), ?_⟩
          · rw [List.length_map, seqIndex_of (by omega) (by omega)]
            rfl
          · rw [upd_ne ne]; exact hD3
          · refine ⟨⟨ks2 ++ [ls[j]], ls.eraseIdx j, ((C2.trans C3).mut nl).mut nD, nD, nl, ne, ?_, ?_, pop_perm hp (List.getElem?_eq_getElem hjl), by rw [List.length_append, hk]; rfl⟩, ?_, ?_, ?_⟩
            · rw [upd_same, List.map_append]; rfl
            · rw [upd_ne ne.symm, upd_same, map_erase]
            · rw [upd_ne nDb, upd_ne nDa]; exact C3.but _ _ (C2.ned nD1) g1
            · rw [upd_ne nl0D, upd_ne nl02]; exact C3.but _ _ (C2.ned nl0) g0
            · exact ((C3.kp.trans (Kp.lst hl3)).trans (Kp.lst (by rw [upd_ne ne]; exact hD3))) _ _ g2
      · rintro H6 ⟨h6, g1, g0, g2⟩
        rw [hxl] at h6
        obtain ⟨ms, C6, nD2, hms, hmp⟩ := PopAt.perm (all := (List.range (p.rows.length - 1)).map (· + 1)) (by rw [List.length_map, List.length_range]; exact h6)
        have hml := hmp.length_eq
        rw [List.length_map, List.length_range] at hml
        refine ⟨l0, D2, _, _, rfl, rfl, g0, hms, sz (by rw [List.length_map]; show 1 + _ ≤ _; omega), fun ln hln => ?_⟩
        refine alloc hln fun H7 s7 e7 => ?_
        have e7 : H7 ln = some (.lst ((0 :: ms).map nI)) := e7
        have C7 := C6.same s7
        refine ⟨(by show 1 ≤ sizeLine; decide), fun l7 hl7 => ?_⟩
        refine alloc hl7 fun H8 s8 e8 => ?_
        have C8 := C7.same s8
        have hra8 := C8.kp _ _ hra
        refine ⟨_, rfl, ra, _, rfl, .inr (SqT.of hra8), l7, _, _, rfl, rfl, e8, ?_, ?_, ?_, fun lf hlf => ?_⟩
        · rw [List.length_map]; omega
        · rw [List.length_map]; omega
        · refine sz ?_
          show 1 * _ ≤ _
          rw [List.length_map]; omega
        refine alloc hlf fun H9 s9 e9 => ?_
        rw [List.flatten_replicate_singleton, List.length_map, hbr] at e9
        have C9 := C8.same s9
        have n1f : D1 ≠ lf := ne_of_none ((s7.trans s8) _ _ g1) hlf
        have n2f : ln ≠ lf := ne_of_none (s8 _ _ e7) hlf
        have hmem : ∀ x, x ∈ (0 :: ms) ↔ x < p.rows.length := fun x => by
          rw [List.mem_cons, hmp.mem_iff, List.mem_map]
          constructor
          · rintro (q | ⟨y, q1, q2⟩)
            · omega
            · have := List.mem_range.mp q1; omega
          · intro q
            cases x with
            | zero => exact .inl rfl
            | succ x => exact .inr ⟨x, List.mem_range.mpr (by omega), rfl⟩
        have hpm : (0 :: ms).Perm (List.range p.rows.length) := by
          have e : List.range p.rows.length = 0 :: (List.range (p.rows.length - 1)).map (· + 1) := by
            rw [show p.rows.length = (p.rows.length - 1) + 1 by omega, List.range_succ_eq_map]
            rfl
          rw [e]
          exact hmp.cons 0
        have hkm : ∀ x, x ∈ ks ↔ x < p.ws.length := fun x => by rw [hkp.mem_iff, List.mem_range]
        have hnl : (0 :: ms).length = p.rows.length := by show ms.length + 1 = _; omega
        have hkl : ks.length = p.ws.length := by rw [hkp.length_eq, List.length_range]
        have hf : ∀ x, x < p.ws.length → ks.getD x 0 < p.ws.length := fun x hx => by
          rw [List.getD_eq_getElem?_getD, List.getElem?_eq_getElem (by omega)]
          exact (hkm _).mp (List.getElem_mem _)
        have hg : ∀ x, x < p.rows.length → (0 :: ms).getD x 0 < p.rows.length := fun x hx => by
          rw [List.getD_eq_getElem?_getD, List.getElem?_eq_getElem (by omega)]
          exact (hmem _).mp (List.getElem_mem _)
        have nd0 : (0 :: ms).Nodup := hpm.nodup_iff.mpr List.nodup_range
        refine ⟨_, rfl, ra, _, rfl, SqT.of (C9.kp _ _ hra), for_enumT (K := K) (a := ra) (xs := bs.map V.ref)
          (fun i σ H' => ∃ x6 x9 x10 x11 x12 : Option V, σ = [some (.ref d), some (.ref a), some (.ref ya), some (.ref wa), some (.ref ra), some (.ref l2), some (.ref D1), x6, some (.ref ln), some (.ref lf), x9, x10, x11, x12, none, none, none, none, none] ∧
            OthAt K H d sa ns D1 ln lf ks (0 :: ms) (renR p ks (0 :: ms)) p.rows.length i H')
          ⟨_, _, _, _, _, rfl, C9, C8.here hlf, n1f, n2f, ((s7.trans s8).trans s9) _ _ g1, (s8.trans s9) _ _ e7, _, e9, List.length_replicate, fun j hj => absurd hj (Nat.not_lt_zero _)⟩
          (fun i σ H' ⟨_, _, _, _, _, _, m⟩ => SqT.of (m.dc.kp _ _ hra)) ?_ ?_⟩
        · rintro i x T' σ H' hi ⟨x6, x9, x10, x11, x12, rfl, m⟩ hT'
          have hiR : i < p.rows.length := by
            have q := (List.getElem?_eq_some_iff.mp hi).1
            rwa [List.length_map, hbr] at q
          obtain ⟨r, hr1⟩ : ∃ r, p.rows[i]? = some r := ⟨_, List.getElem?_eq_getElem hiR⟩
          obtain ⟨b, hb1, hb2⟩ := Paired.getR hR hr1
          have hrm : r ∈ p.rows := List.mem_of_getElem? hr1
          have hro := g.ok r hrm
          have ex : x = V.ref b := by
            rw [List.getElem?_map, hb1] at hi
            exact (Option.some.inj hi).symm
          subst ex
          refine alloc hT' fun H2 s2 e2 => ?_
          have m2 := m.same s2
          have hb3 := m2.dc.kp _ _ hb2
          refine ⟨T', _, rfl, SqT.of e2, rfl, _, _, rfl, _, _, rfl, rfl, ?_⟩
          refine ⟨_, rfl, _, rfl, b, _, rfl, hb3, fun t H3 s3 e3 => ?_⟩
          have rl := Row.vs_len r
          rw [sl1 rl.1, Row.ren_w (fun x => ks.getD x 0) (fun x => (0 :: ms).getD x 0)] at e3
          have m3 := m2.same s3
          have hb4 := s3 _ _ hb3
          refine ⟨_, rfl, b, _, rfl, .inr (SqT.of hb4), _, _, rfl, ⟨by decide, by decide, by omega, by omega⟩, ?_⟩
          refine for_range (lo := 1) (n := (((rowVs r).length : Int) - 1).toNat) (fun j σ H' => ∃ (x11 x12 : Option V) (t : Addr), σ = [some (.ref d), some (.ref a), some (.ref ya), some (.ref wa), some (.ref ra), some (.ref l2), some (.ref D1), some (.ref b), some (.ref ln), some (.ref lf), some (.int (i : Int)), some (.ref t), x11, x12, none, none, none, none, none] ∧
            Same1 H3 H' ∧ H' t = some (.tup ((rowVs (r.ren (fun x => ks.getD x 0) (fun x => (0 :: ms).getD x 0))).take (1 + j)))) ⟨_, _, t, rfl, Same.refl _, e3⟩ ?_ ?_
          · rintro j σ H4 hj ⟨x11, x12, t, rfl, S4, ht⟩
            have hj1 : j + 1 < (rowVs r).length := by omega
            obtain ⟨x, hx, hx1, hx2⟩ := Row.ren_at (f := fun x => ks.getD x 0) (g := fun x => (0 :: ms).getD x 0) hro hj1
            have hb5 := S4 _ _ hb4
            have ej : (1 : Int) + (j : Int) = ((j + 1 : Nat) : Int) := by omega
            refine asg_elim (fun v H' => v = .bl (j == 0 && r.uses) ∧ Same1 H4 H') ?_ ?_
            · rintro v H5 ⟨rfl, s5⟩
              have S5 := S4.trans s5
              have m5 := m3.same S5
              have fin : ∀ (y : Nat) (t5 t6 : Addr) (H6 H7 : Hp) (c : Bool), (rowVs (r.ren (fun x => ks.getD x 0) (fun x => (0 :: ms).getD x 0)))[j + 1]? = some (.int (y : Int)) → Same1 H5 H6 → Same1 H6 H7 →
                  H7 t6 = some (.tup ((rowVs (r.ren (fun x => ks.getD x 0) (fun x => (0 :: ms).getD x 0))).take (1 + j) ++ [.int (y : Int)])) →
                  Same1 H3 H7 ∧ H7 t6 = some (.tup ((rowVs (r.ren (fun x => ks.getD x 0) (fun x => (0 :: ms).getD x 0))).take (1 + (j + 1)))) := by
                intro y t5 t6 H6 H7 c q1 q2 q3 q4
                refine ⟨(S5.trans q2).trans q3, q4.trans ?_⟩
                rw [show 1 + (j + 1) = (1 + j) + 1 by omega, List.take_add_one, show 1 + j = j + 1 by omega, q1]
                rfl
              cases hc : (j == 0 && r.uses) with
              | true =>
                obtain ⟨q1, q2⟩ := hx1 hc
                refine ⟨_, rfl, _, rfl, _, rfl, _, rfl, _, rfl, _, rfl, b, _, _, .int (x : Int), rfl, rfl, SqT.of (s5 _ _ hb5), by rw [ej]; exact atI_nat hx, D1, _, _, _, rfl, rfl, SqL.of m5.names, atI_nat (nI_getD (by rw [hkl]; exact q1)), (by show 1 ≤ sizeLine; decide), fun t5 ht5 => ?_⟩
                refine alloc ht5 fun H6 s6 e6 => ?_
                refine ⟨t, t5, _, _, rfl, rfl, (s5.trans s6) _ _ ht, e6, sz (by rw [List.length_take]; show _ + 1 ≤ _; omega), fun t6 H7 s7 e7 => ?_⟩
                exact ⟨_, _, t6, rfl, fin _ t5 t6 H6 H7 true q2 s6 s7 e7⟩
              | false =>
                obtain ⟨q1, q2⟩ := hx2 hc
                refine ⟨_, rfl, _, rfl, _, rfl, _, rfl, _, rfl, _, rfl, b, _, _, .int (x : Int), rfl, rfl, SqT.of (s5 _ _ hb5), by rw [ej]; exact atI_nat hx, ln, _, _, _, rfl, rfl, SqL.of m5.numbers, atI_nat (nI_getD (by rw [hnl]; exact q1)), (by show 1 ≤ sizeLine; decide), fun t5 ht5 => ?_⟩
                refine alloc ht5 fun H6 s6 e6 => ?_
                refine ⟨t, t5, _, _, rfl, rfl, (s5.trans s6) _ _ ht, e6, sz (by rw [List.length_take]; show _ + 1 ≤ _; omega), fun t6 H7 s7 e7 => ?_⟩
                exact ⟨_, _, t6, rfl, fin _ t5 t6 H6 H7 true q2 s6 s7 e7⟩
            · intro Q' hQ
              refine ⟨_, rfl, rfl, _, rfl, ite2 (fun c => ?_) (fun c => ?_)⟩
              · have c := of_decide_eq_true c
                have c : (1 : Int) + (j : Int) = 1 := by injection c
                have j0 : j = 0 := by omega
                subst j0
                refine ⟨_, rfl, b, _, _, _, rfl, rfl, SqT.of hb5, atI_nat (j := 0) (Row.w0 r), (by show 4 ≤ sizeLine; decide), fun t4 ht4 => ?_⟩
                refine alloc ht4 fun H5 s5 e5 => ?_
                refine ⟨t4, _, rfl, .inr (SqT.of e5), rfl, rfl, hQ _ _ ⟨?_, s5⟩⟩
                show V.bl (inV (.str r.word) [.str "load", .str "add", .str "take", .str "store"]) = V.bl (0 == 0 && r.uses)
                rw [Row.in4]
                rfl
              · refine hQ _ _ ⟨?_, Same.refl _⟩
                have hj0 : j ≠ 0 := fun e => by subst e; exact c (decide_eq_true rfl)
                rw [beq_false_of_ne hj0]
                rfl
          · rintro σ H4 ⟨x11, x12, t, rfl, S4, ht⟩
            have m4 := m3.same S4
            rw [List.take_of_length_le (by rw [Row.ren_len]; omega)] at ht
            obtain ⟨fs, hf1, hf2, hf3⟩ := m4.found
            have hy := nI_getD (l := 0 :: ms) (j := i) (by rw [hnl]; exact hiR)
            have hy2 : (0 :: ms)[i]? = some ((0 :: ms).getD i 0) := by
              rw [List.getD_eq_getElem?_getD, List.getElem?_eq_getElem (by rw [hnl]; exact hiR)]
              rfl
            have hyN := hg i hiR
            refine ⟨_, rfl, _, rfl, _, rfl, _, rfl, ln, _, _, _, rfl, rfl, SqL.of m4.numbers, atI_nat hy, lf, fs, _, (0 :: ms).getD i 0, rfl, rfl, hf1, ixN_nat (by rw [hf2]; exact hyN), ?_⟩
            exact ⟨_, _, _, _, _, rfl, m4.put nd0 hf1 hy2 hyN (by unfold renR; rw [List.getD_eq_getElem?_getD, hr1]; exact ht)⟩
        · rintro σ H' ⟨x6, x9, x10, x11, x12, rfl, m⟩
          rw [List.length_map, hbr] at m
          obtain ⟨fs, hf1, hf2, hf3⟩ := m.found
          have hwa2 := m.dc.kp _ _ hwa
          have hra2 := m.dc.kp _ _ hra
          have hya2 := m.dc.kp _ _ hya
          refine ⟨_, rfl, wa, _, rfl, .inr (SqT.of hwa2), _, rfl, by rw [List.length_map]; omega, by rw [List.length_map]; omega, fun D3 hD3 => ?_⟩
          refine lc_range (lo := 0) (n := (((p.ws.map V.int).length : Nat) : Int).toNat) (fun i H2 => ∃ js : List Nat, Same1 H' H2 ∧ H2 D3 = some (.lst (js.map nI)) ∧ BkUp ks js i) ⟨[], Same.new hD3, upd_same, BkUp.zero _⟩ ?_ ?_
          · rintro i H2 hi ⟨js, s2, hj, hb⟩
            have hiW : i < p.ws.length := by rw [List.length_map] at hi; omega
            obtain ⟨j, j1, j2, j3⟩ := first_of ((hkm i).mpr hiW)
            have e0 : (0 : Int) + (i : Int) = (i : Int) := Int.zero_add _
            rw [e0]
            have g1 := s2 _ _ m.names
            refine ⟨rfl, _, rfl, .inl ⟨rfl, _, SqL.of g1⟩, _, rfl, D1, _, _, j, .int (i : Int), rfl, rfl, SqL.of g1, rfl, nI_flat ks, ?_, ?_, fun m z hm e => nI_none (j3 m hm) e, _, hj, szl (by rw [List.length_map, hb.len]; omega), ?_⟩
            · rw [List.getElem?_map, j2]; rfl
            · show ((i : Int) == (i : Int)) = true
              exact beq_self_eq_true _
            · exact ⟨js ++ [j], Same.mut s2 hD3, by rw [upd_same, List.map_append]; rfl, hb.snoc j1 j2⟩
          rintro H2 ⟨js, s2, hj2, hb⟩
          rw [List.length_map, Int.toNat_natCast] at hb
          have bk1 : Bk ks js p.ws.length := hb.bk hkl
          have jsl := bk1.len
          dsimp only [gName]
          refine ⟨_, rfl, ra, _, rfl, .inr (SqT.of (s2 _ _ hra2)), _, rfl, by rw [List.length_map]; omega, by rw [List.length_map]; omega, fun D4 hD4 => ?_⟩
          refine lc_range (lo := 0) (n := (((bs.map V.ref).length : Nat) : Int).toNat) (fun i H3 => ∃ qs : List Nat, Same1 H2 H3 ∧ H3 D4 = some (.lst (qs.map nI)) ∧ BkUp (0 :: ms) qs i) ⟨[], Same.new hD4, upd_same, BkUp.zero _⟩ ?_ ?_
          · rintro i H3 hi ⟨qs, s3, hj, hb⟩
            have hiW : i < p.rows.length := by rw [List.length_map] at hi; omega
            obtain ⟨j, j1, j2, j3⟩ := first_of ((hmem i).mpr hiW)
            have e0 : (0 : Int) + (i : Int) = (i : Int) := Int.zero_add _
            rw [e0]
            have g1 := (s2.trans s3) _ _ m.numbers
            refine ⟨rfl, _, rfl, .inl ⟨rfl, _, SqL.of g1⟩, _, rfl, ln, _, _, j, .int (i : Int), rfl, rfl, SqL.of g1, rfl, nI_flat (0 :: ms), ?_, ?_, fun m z hm e => nI_none (j3 m hm) e, _, hj, szl (by rw [List.length_map, hb.len]; omega), ?_⟩
            · rw [List.getElem?_map, j2]; rfl
            · show ((i : Int) == (i : Int)) = true
              exact beq_self_eq_true _
            · exact ⟨qs ++ [j], Same.mut s3 hD4, by rw [upd_same, List.map_append]; rfl, hb.snoc j1 j2⟩
          rintro H3 ⟨qs, s3, hq3, hb⟩
          rw [List.length_map, Int.toNat_natCast, hbr] at hb
          have bk2 : Bk (0 :: ms) qs p.rows.length := hb.bk hnl
          have qsl := bk2.len
          dsimp only [gName]
          have hj3 := s3 _ _ hj2
          refine ⟨_, rfl, D3, rfl, ⟨_, SqL.of hj3⟩, fun D5 hD5 => ?_⟩
          refine lc_list (K := K) (a := D3) (xs := js.map nI) (fun i H4 => Same1 H3 H4 ∧ H4 D5 = some (.lst (((js.take i).map fun x => p.ws.getD x 0).map V.int))) ⟨Same.new hD5, upd_same⟩ (fun i H4 _ ⟨q, _⟩ => SqL.of (q _ _ hj3)) ?_ ?_
          · rintro i x H4 hi ⟨s4, hu⟩
            have hij : i < js.length := by
              have q := (List.getElem?_eq_some_iff.mp hi).1
              rwa [List.length_map] at q
            have ex : x = .int ((js[i] : Nat) : Int) := by
              rw [nI_get hij] at hi
              exact (Option.some.inj hi).symm
            subst ex
            have hjw : js[i] < p.ws.length := by
              have q := (bk1.at_ i (by rw [← bk1.len]; exact hij)).1
              rwa [List.getD_eq_getElem?_getD, List.getElem?_eq_getElem hij] at q
            have hat : (p.ws.map V.int)[js[i]]? = some (.int (p.ws.getD js[i] 0)) := by
              rw [List.getElem?_map, List.getD_eq_getElem?_getD, List.getElem?_eq_getElem hjw]
              rfl
            refine ⟨rfl, _, rfl, _, rfl, wa, _, _, _, rfl, rfl, SqT.of (((s2.trans s3).trans s4) _ _ hwa2), atI_nat hat, _, hu, szl (by rw [List.length_map, List.length_map, List.length_take]; omega), Same.mut s4 hD5, ?_⟩
            rw [upd_same, List.take_add_one, List.getElem?_eq_getElem hij, List.map_append, List.map_append]
            rfl
          rintro H4 ⟨s4, hu4⟩
          rw [List.length_map, List.take_length] at hu4
          refine ⟨D5, _, rfl, .inl ⟨SqL.of hu4, fun t1 ht1 => ?_⟩⟩
          refine alloc ht1 fun H5 s5 e5 => ?_
          have s15 := ((s2.trans s3).trans s4).trans s5
          refine ⟨_, rfl, lf, _, rfl, .inl ⟨SqL.of (s15 _ _ hf1), fun t2 ht2 => ?_⟩⟩
          refine alloc ht2 fun H6 s6 e6 => ?_
          refine ⟨(by show 2 ≤ sizeLine; decide), fun t3 ht3 => ?_⟩
          refine alloc ht3 fun H7 s7 e7 => ?_
          dsimp only [gName]
          have s17 := (s15.trans s6).trans s7
          have hj7 := ((s4.trans s5).trans (s6.trans s7)) _ _ hj3
          have hya7 := s17 _ _ hya2
          have hhl7 := s17 _ _ (m.dc.kp _ _ hhl)
          have hpl7 := s17 _ _ (m.dc.kp _ _ hpl)
          have hcl : cs.length = p.ws.length := by rw [Paired.length hHm]; exact yk.hl
          have hplen := yk.pl
          refine ⟨_, rfl, D3, rfl, ⟨_, SqL.of hj7⟩, fun D6 hD6 => ?_⟩
          refine lc_list (K := K) (a := D3) (xs := js.map nI) (fun i H8 => Same1 H7 H8 ∧ H8 D6 = some (.lst (((js.take i).map fun x => cs.getD x 0).map V.ref))) ⟨Same.new hD6, upd_same⟩ (fun i H8 _ ⟨q, _⟩ => SqL.of (q _ _ hj7)) ?_ ?_
          · rintro i x H8 hi ⟨s8, hu⟩
            have hij : i < js.length := by
              have q := (List.getElem?_eq_some_iff.mp hi).1
              rwa [List.length_map] at q
            have ex : x = .int ((js[i] : Nat) : Int) := by
              rw [nI_get hij] at hi
              exact (Option.some.inj hi).symm
            subst ex
            have hjw : js[i] < cs.length := by
              have q := (bk1.at_ i (by rw [← bk1.len]; exact hij)).1
              rw [List.getD_eq_getElem?_getD, List.getElem?_eq_getElem hij] at q
              rw [hcl]
              exact q
            have hat : (cs.map V.ref)[js[i]]? = some (.ref (cs.getD js[i] 0)) := by
              rw [List.getElem?_map, List.getD_eq_getElem?_getD, List.getElem?_eq_getElem hjw]
              rfl
            have hil : i < p.ws.length := by rw [← bk1.len]; exact hij
            refine ⟨rfl, _, rfl, ya, _, _, _, rfl, rfl, SqT.of (s8 _ _ hya7), at2, _, rfl, hl, _, _, _, rfl, rfl, SqT.of (s8 _ _ hhl7), atI_nat hat, _, hu, szl (by rw [List.length_map, List.length_map, List.length_take]; omega), Same.mut s8 hD6, ?_⟩
            rw [upd_same, List.take_add_one, List.getElem?_eq_getElem hij, List.map_append, List.map_append]
            rfl
          rintro H8 ⟨s8, hu8⟩
          rw [List.length_map, List.take_length] at hu8
          refine ⟨D6, _, rfl, .inl ⟨SqL.of hu8, fun t4 ht4 => ?_⟩⟩
          refine alloc ht4 fun H9 s9 e9 => ?_
          dsimp only [gName]
          have s79 := s8.trans s9
          have hq9 := (((s4.trans s5).trans (s6.trans s7)).trans s79) _ _ hq3
          refine ⟨_, rfl, _, rfl, ya, _, _, _, rfl, rfl, SqT.of (s79 _ _ hya7), at0, _, rfl, D4, rfl, ⟨_, SqL.of hq9⟩, fun D7 hD7 => ?_⟩
          refine lc_list (K := K) (a := D4) (xs := qs.map nI) (fun i H10 => Same1 H9 H10 ∧ H10 D7 = some (.lst (((qs.take i).map fun x => y.places.getD x 0).map nI))) ⟨Same.new hD7, upd_same⟩ (fun i H10 _ ⟨q, _⟩ => SqL.of (q _ _ hq9)) ?_ ?_
          · rintro i x H10 hi ⟨s10, hu⟩
            have hij : i < qs.length := by
              have q := (List.getElem?_eq_some_iff.mp hi).1
              rwa [List.length_map] at q
            have ex : x = .int ((qs[i] : Nat) : Int) := by
              rw [nI_get hij] at hi
              exact (Option.some.inj hi).symm
            subst ex
            have hil : i < p.rows.length := by rw [← bk2.len]; exact hij
            have hjw : qs[i] < y.places.length := by
              have q := (bk2.at_ i hil).1
              rw [List.getD_eq_getElem?_getD, List.getElem?_eq_getElem hij] at q
              rw [hplen]
              exact q
            have hat : (y.places.map nI)[qs[i]]? = some (nI (y.places.getD qs[i] 0)) := by
              rw [List.getElem?_map, List.getD_eq_getElem?_getD, List.getElem?_eq_getElem hjw]
              rfl
            refine ⟨rfl, _, rfl, ya, _, _, _, rfl, rfl, SqT.of ((s79.trans s10) _ _ hya7), at1, _, rfl, pl, _, _, _, rfl, rfl, SqT.of ((s79.trans s10) _ _ hpl7), atI_nat hat, _, hu, szl (by rw [List.length_map, List.length_map, List.length_take]; omega), Same.mut s10 hD7, ?_⟩
            rw [upd_same, List.take_add_one, List.getElem?_eq_getElem hij, List.map_append, List.map_append]
            rfl
          rintro H10 ⟨s10, hu10⟩
          rw [List.length_map, List.take_length] at hu10
          refine ⟨D7, _, rfl, .inl ⟨SqL.of hu10, fun t5 ht5 => ?_⟩⟩
          refine alloc ht5 fun H11 s11 e11 => ?_
          refine ⟨_, rfl, (by show 3 ≤ sizeLine; decide), fun t6 ht6 => ?_⟩
          refine alloc ht6 fun H12 s12 e12 => ?_
          refine ⟨(by show 2 ≤ sizeLine; decide), fun t7 ht7 => ?_⟩
          refine alloc ht7 fun H13 s13 e13 => ?_
          have s913 := ((s10.trans s11).trans s12).trans s13
          have s713 := s79.trans s913
          have s013 := s17.trans s713
          obtain ⟨bs', hfs, hF⟩ := paired_of (F := fun b r => H' b = some (.tup (rowVs r))) (l := fs) (rs := (List.range p.rows.length).map fun x => renR p ks (0 :: ms) (qs.getD x 0)) (by rw [hf2, List.length_map, List.length_range]) (fun i hi => by
            have hiN : i < p.rows.length := by omega
            obtain ⟨q1, q2⟩ := bk2.at_ i hiN
            obtain ⟨b, z1, z2⟩ := hf3 _ q1
            rw [q2] at z1
            refine ⟨b, z1, ?_⟩
            rw [getD_mapR hiN]
            exact z2)
          have qwl : (js.map fun x => p.ws.getD x 0).length = p.ws.length := by rw [List.length_map, bk1.len]
          have qrl : ((List.range p.rows.length).map fun x => renR p ks (0 :: ms) (qs.getD x 0)).length = p.rows.length := by rw [List.length_map, List.length_range]
          have kF := m.dc.kp
          have RN : Ren p ⟨js.map fun x => p.ws.getD x 0, (List.range p.rows.length).map fun x => renR p ks (0 :: ms) (qs.getD x 0)⟩ ks (0 :: ms) := by
            refine ⟨hkp, hpm, rfl, qwl, qrl, fun v hv => ?_, fun i hi => ?_⟩
            · have h1 := prm_lt hkp hv
              show (js.map _).getD _ 0 = _
              rw [getD_mapN (by rw [bk1.len]; exact h1)]
              obtain ⟨h2, h3⟩ := bk1.at_ _ h1
              rw [prm_inj hkp h2 hv h3]
            · have h1 := prm_lt hpm hi
              show ((List.range p.rows.length).map _).getD _ Row.stop = _
              rw [getD_mapR h1]
              obtain ⟨h2, h3⟩ := bk2.at_ _ h1
              rw [prm_inj hpm h2 hi h3]
              rfl
          have GQ : Good ⟨js.map fun x => p.ws.getD x 0, (List.range p.rows.length).map fun x => renR p ks (0 :: ms) (qs.getD x 0)⟩ := by
            refine ⟨by rw [qrl]; exact hR1, by rw [qrl]; exact hR40, by rw [qwl]; exact hW8, fun x hx => ?_, fun r hr => ?_⟩
            · obtain ⟨u, hu, rfl⟩ := List.mem_map.mp hx
              obtain ⟨i, hi, rfl⟩ := List.getElem_of_mem hu
              have q := (bk1.at_ i (by rw [← bk1.len]; exact hi)).1
              rw [List.getD_eq_getElem?_getD, List.getElem?_eq_getElem hi] at q
              have q : js[i] < p.ws.length := q
              rw [List.getD_eq_getElem?_getD, List.getElem?_eq_getElem q]
              exact g.num _ (List.getElem_mem q)
            · obtain ⟨u, hu, rfl⟩ := List.mem_map.mp hr
              rw [qwl, qrl]
              exact Row.ren_ok (fun x hx => prm_lt hkp hx) (fun x hx => prm_lt hpm hx) (row_ok g _)
          refine kq t7 t3 t6 _ ks (0 :: ms) js qs H13 (m.dc.same s013) e13 ⟨t1, t2, bs', s713 _ _ e7, (s6.trans (s7.trans s713)) _ _ e5, ?_, ?_⟩ GQ RN bk1 bk2 ⟨t5, t4, js.map fun x => cs.getD x 0, s13 _ _ e12, (s12.trans s13) _ _ e11, s913 _ _ e9, ?_⟩
          · rw [← hfs]; exact (s7.trans s713) _ _ e6
          · exact Paired.mapP hF fun b r q => s013 _ _ q
          · have hH := hHm.kp (kF.trans (Kp.same s013))
            have all : ∀ l : List Nat, (∀ x ∈ l, x < p.ws.length) → HomesAt H13 (l.map fun x => cs.getD x 0) (l.map fun x => y.homes.getD x []) := by
              intro l
              induction l with
              | nil => exact fun _ => .nil
              | cons x l ih =>
                intro hl
                have hx := hl x List.mem_cons_self
                have hxc : x < cs.length := by rw [hcl]; exact hx
                obtain ⟨h0, q1, q2⟩ := Paired.get hH (List.getElem?_eq_getElem hxc)
                refine .cons ?_ (ih fun z hz => hl z (List.mem_cons_of_mem _ hz))
                show H13 (cs.getD x 0) = some (.tup ((y.homes.getD x []).map nI))
                rw [List.getD_eq_getElem?_getD, List.getD_eq_getElem?_getD, List.getElem?_eq_getElem hxc, q1]
                exact q2
            refine all js fun x hx => ?_
            obtain ⟨i, hi, rfl⟩ := List.getElem_of_mem hx
            have q := (bk1.at_ i (by rw [← bk1.len]; exact hi)).1
            rwa [List.getD_eq_getElem?_getD, List.getElem?_eq_getElem hi] at q
end
end DL
namespace DL
open PySem L2 DLR LamX
theorem home_tr {W n : Nat} {h : List Nat} (w2 : 2 ≤ W) (k : HomeOk W h) {ms : List Int} (pm : ms.Perm (h.map fun x : Nat => (((x + n) % W : Nat) : Int))) (up : ms.Pairwise (· ≤ ·)) :
    ∃ h2 : List Nat, ms.map V.int = h2.map nI ∧ HomeOk W h2 ∧ (∀ x ∈ h2, ∃ x0 ∈ h, ∃ k : Int, (x : Int) = (x0 : Int) + (n : Int) + k * (W : Int)) ∧ ∀ x0 ∈ h, ∃ x ∈ h2, ∃ k : Int, (x : Int) = (x0 : Int) + (n : Int) + k * (W : Int) := by
  have kk : ∀ x0 : Nat, ∃ k : Int, (((x0 + n) % W : Nat) : Int) = (x0 : Int) + (n : Int) + k * (W : Int) := fun x0 => by
    refine ⟨-(((x0 + n) / W : Nat) : Int), ?_⟩
    have e := Nat.div_add_mod (x0 + n) W
    have e2 : ((W * ((x0 + n) / W) : Nat) : Int) = (((x0 + n) / W : Nat) : Int) * (W : Int) := by rw [Int.natCast_mul, Int.mul_comm]
    rw [Int.neg_mul, ← e2]
    omega
  have inj : (h.map fun x : Nat => (((x + n) % W : Nat) : Int)).Nodup := by
    refine List.pairwise_map.mpr (k.up.imp_of_mem fun {a b} ha hb lt e => ?_)
    have a1 := k.lt a ha
    have b1 := k.lt b hb
    have e : (a + n) % W = (b + n) % W := Int.ofNat.inj e
    have e1 := Nat.div_add_mod (a + n) W
    have e3 := Nat.div_add_mod (b + n) W
    rcases Nat.lt_trichotomy ((a + n) / W) ((b + n) / W) with q | q | q
    · have := Nat.mul_le_mul_left W q
      rw [Nat.mul_succ] at this
      omega
    · rw [q] at e1
      omega
    · have := Nat.mul_le_mul_left W q
      rw [Nat.mul_succ] at this
      omega
  have nd : ms.Nodup := pm.nodup_iff.mpr inj
  have st : ms.Pairwise (· < ·) := List.Pairwise.imp₂ (fun a b h1 h2 => by omega) up nd
  have h0 : ∀ x ∈ ms, 0 ≤ x := fun x hx => by
    obtain ⟨z, _, rfl⟩ := List.mem_map.mp (pm.mem_iff.mp hx)
    omega
  obtain ⟨h2, e1, e2, e3, e4⟩ := rise_nat h0 st
  have e5 : ∀ x : Nat, (x : Int) ∈ ms → x ∈ h2 := fun x hx => by
    have q : V.int (x : Int) ∈ ms.map V.int := List.mem_map.mpr ⟨_, hx, rfl⟩
    rw [e1] at q
    obtain ⟨z, hz, e⟩ := List.mem_map.mp q
    have := V.int.inj e
    have : z = x := by omega
    exact this ▸ hz
  have ln : ms.length = h.length := by rw [pm.length_eq, List.length_map]
  refine ⟨h2, e1, ⟨by rw [e2, ln]; exact k.l1, by rw [e2, ln]; exact k.l3, e3, fun x hx => ?_⟩, fun x hx => ?_, fun x0 hx0 => ?_⟩
  · obtain ⟨z, _, e⟩ := List.mem_map.mp (pm.mem_iff.mp (e4 x hx))
    have := Nat.mod_lt (z + n) (show 0 < W by omega)
    omega
  · obtain ⟨z, hz, e⟩ := List.mem_map.mp (pm.mem_iff.mp (e4 x hx))
    obtain ⟨k0, hk0⟩ := kk z
    exact ⟨z, hz, k0, e ▸ hk0⟩
  · obtain ⟨k0, hk0⟩ := kk x0
    exact ⟨(x0 + n) % W, e5 _ (pm.mem_iff.mpr (List.mem_map.mpr ⟨x0, hx0, rfl⟩)), k0, hk0⟩
def HomeTr (W m : Nat) (h h2 : List Nat) : Prop := HomeOk W h2 ∧ (∀ x ∈ h2, ∃ x0 ∈ h, ∃ k : Int, (x : Int) = (x0 : Int) + (m : Int) + k * (W : Int)) ∧ ∀ x0 ∈ h, ∃ x ∈ h2, ∃ k : Int, (x : Int) = (x0 : Int) + (m : Int) + k * (W : Int)
theorem turned_of {p : Prog} {y : Lay} {m : Nat} (yk : LayOk p y) {hz : List (List Nat)} (hh : Paired (HomeTr y.wide m) y.homes hz) :
    LayOk p ⟨y.wide, y.places.map fun x => (x + m) % y.wide, hz⟩ ∧ Turned p y ⟨y.wide, y.places.map fun x => (x + m) % y.wide, hz⟩ (m : Int) := by
  have w2 := yk.w2
  have hlen := Paired.length hh
  have kk : ∀ x0 : Nat, ∃ k : Int, (((x0 + m) % y.wide : Nat) : Int) = (x0 : Int) + (m : Int) + k * (y.wide : Int) := fun x0 => by
    refine ⟨-(((x0 + m) / y.wide : Nat) : Int), ?_⟩
    have e := Nat.div_add_mod (x0 + m) y.wide
    have e2 : ((y.wide * ((x0 + m) / y.wide) : Nat) : Int) = (((x0 + m) / y.wide : Nat) : Int) * (y.wide : Int) := by rw [Int.natCast_mul, Int.mul_comm]
    rw [Int.neg_mul, ← e2]
    omega
  have atH : ∀ w, w < p.ws.length → HomeTr y.wide m (y.homes.getD w []) (hz.getD w []) := fun w hw => by
    have hw : w < y.homes.length := by rw [yk.hl]; exact hw
    obtain ⟨h2, q1, q2⟩ := Paired.get hh (List.getElem?_eq_getElem hw)
    rw [List.getD_eq_getElem?_getD, List.getD_eq_getElem?_getD, q1, List.getElem?_eq_getElem hw]
    exact q2
  refine ⟨⟨yk.w2, yk.w24, by rw [List.length_map]; exact yk.pl, fun x hx => ?_, by show hz.length = _; rw [← hlen]; exact yk.hl, fun h hm => ?_⟩, rfl, fun i hi => ?_, fun w hw => (atH w hw).2.1, fun w hw => (atH w hw).2.2⟩
  · obtain ⟨x0, _, rfl⟩ := List.mem_map.mp hx
    exact Nat.mod_lt _ (show 0 < y.wide by omega)
  · obtain ⟨j, hj, rfl⟩ := List.getElem_of_mem hm
    obtain ⟨h0, q1, q2⟩ := Paired.getR hh (List.getElem?_eq_getElem hj)
    exact q2.1
  · have hi : i < y.places.length := by rw [yk.pl]; exact hi
    show ∃ k : Int, (((y.places.map fun x => (x + m) % y.wide).getD i 0 : Nat) : Int) = _
    rw [List.getD_eq_getElem?_getD, List.getElem?_map, List.getD_eq_getElem?_getD, List.getElem?_eq_getElem hi]
    exact kk _
/-! ### what spun and costs tell, as data -/
def saidD (l : List Int) : PyData := .list (l.map PyData.int)
def endD (b : Prop) [Decidable b] : PyData := .tuple [.str (if b then "stop" else "long")]
theorem ints_lay : ∀ l : List Int, PyData.canLayAll0 (l.map PyData.int) = true
  | [] => by decide +kernel
  | x :: l => by
    show (PyData.canLay0 (PyData.int x) && PyData.canLayAll0 (l.map PyData.int)) = true
    rw [ints_lay l]
    rfl
theorem ints_dep : ∀ l : List Int, PyData.depthAll (l.map PyData.int) ≤ 1
  | [] => by decide
  | x :: l => by
    have h := ints_dep l
    show max (PyData.int x).depth (PyData.depthAll (l.map PyData.int)) ≤ 1
    have : (PyData.int x).depth ≤ 1 := by simp [PyData.depth]
    omega
def spunD (l : List Int) (b : Prop) [Decidable b] : PyData := .tuple [saidD l, endD b]
def spun3D (l : List Int) (b : Prop) [Decidable b] (now : Int) : PyData := .tuple [saidD l, endD b, .int now]
theorem spunD_shaped (l : List Int) (b : Prop) [Decidable b] : SeqAt.shaped (spunD l b) = true := by
  show (PyData.canLayAll0 [saidD l, endD b] && decide (PyData.depth (.tuple [saidD l, endD b]) ≤ 64)) = true
  have h1 : PyData.canLayAll0 [saidD l, endD b] = true := by
    show (PyData.canLayAll0 (l.map PyData.int) && (PyData.canLayAll0 [PyData.str _] && true)) = true
    rw [ints_lay]
    by_cases c : b
    · rw [if_pos c]; decide +kernel
    · rw [if_neg c]; decide +kernel
  rw [h1]
  refine decide_eq_true ?_
  have := ints_dep l
  simp only [PyData.depth, PyData.depthAll, saidD, endD]
  omega
theorem spun3D_shaped (l : List Int) (b : Prop) [Decidable b] (now : Int) : SeqAt.shaped (spun3D l b now) = true := by
  show (PyData.canLayAll0 [saidD l, endD b, .int now] && decide (PyData.depth (.tuple [saidD l, endD b, .int now]) ≤ 64)) = true
  have h1 : PyData.canLayAll0 [saidD l, endD b, .int now] = true := by
    show (PyData.canLayAll0 (l.map PyData.int) && (PyData.canLayAll0 [PyData.str _] && (true && true))) = true
    rw [ints_lay]
    by_cases c : b
    · rw [if_pos c]; decide +kernel
    · rw [if_neg c]; decide +kernel
  rw [h1]
  refine decide_eq_true ?_
  have := ints_dep l
  simp only [PyData.depth, PyData.depthAll, saidD, endD]
  omega
theorem intsDp {K : Frg} {H : Hp} : ∀ l : List Int, DpAll K H (l.map V.int) (l.map PyData.int)
  | [] => .nil
  | x :: l => .cons (.int _) (intsDp l)
theorem spunD_at {K : Frg} {H : Hp} {a ls le : Addr} {l : List Int} {b : Prop} [Decidable b] (ha : H a = some (.tup [.ref ls, .ref le])) (hs : H ls = some (.lst (l.map V.int))) (he : H le = some (.tup [.str (if b then "stop" else "long")])) :
    Dp K H (.ref a) (spunD l b) := .tup (SqT.of ha) (.cons (.lst (SqL.of hs) (intsDp l)) (.cons (.tup (SqT.of he) (.cons (.str _) .nil)) .nil))
theorem spun3D_at {K : Frg} {H : Hp} {a ls le : Addr} {l : List Int} {b : Prop} [Decidable b] {now : Int} (ha : H a = some (.tup [.ref ls, .ref le, .int now])) (hs : H ls = some (.lst (l.map V.int))) (he : H le = some (.tup [.str (if b then "stop" else "long")])) :
    Dp K H (.ref a) (spun3D l b now) := .tup (SqT.of ha) (.cons (.lst (SqL.of hs) (intsDp l)) (.cons (.tup (SqT.of he) (.cons (.str _) .nil)) (.cons (.int _) .nil)))
def costP (y : Lay) (rows : List Row) (g : Nat × Nat) : PyData := .tuple [.int (g.1 : Int), .int (g.2 : Int), .int (costF y rows g.1 g.2)]
def costsP (y : Lay) (rows : List Row) (L : List (Nat × Nat)) : PyData := .list (L.map (costP y rows))
theorem costsP_at {K : Frg} {H : Hp} {y : Lay} {rows : List Row} : ∀ {bs : List Addr} {L : List (Nat × Nat)}, Paired (fun b g => H b = some (.tup (costVs y rows g))) bs L → DpAll K H (bs.map V.ref) (L.map (costP y rows))
  | [], [], .nil => .nil
  | _ :: _, _ :: _, .cons h t => .cons (.tup (SqT.of h) (.cons (.int _) (.cons (.int _) (.cons (.int _) .nil)))) (costsP_at t)
theorem costsP_lay (y : Lay) (rows : List Row) : ∀ L : List (Nat × Nat), PyData.canLayAll0 (L.map (costP y rows)) = true
  | [] => (show PyData.canLayAll0 [] = true by decide +kernel)
  | x :: l => by
    show (true && PyData.canLayAll0 (l.map (costP y rows))) = true
    rw [costsP_lay y rows l]
    rfl
theorem costsP_dep (y : Lay) (rows : List Row) : ∀ L : List (Nat × Nat), PyData.depthAll (L.map (costP y rows)) ≤ 3
  | [] => (show PyData.depthAll [] ≤ 3 by decide)
  | x :: l => by
    have a := costsP_dep y rows l
    have c : (costP y rows x).depth ≤ 3 := by
      unfold costP
      simp only [PyData.depth, PyData.depthAll]
      omega
    show max (costP y rows x).depth (PyData.depthAll (l.map (costP y rows))) ≤ 3
    omega
theorem costsP_shaped (y : Lay) (rows : List Row) (L : List (Nat × Nat)) : SeqAt.shaped (costsP y rows L) = true := by
  have d := costsP_dep y rows L
  refine Bool.and_eq_true_iff.mpr ⟨costsP_lay y rows L, decide_eq_true ?_⟩
  unfold costsP
  simp only [PyData.depth]
  omega
theorem RunGoes.len {p q : Prog} {f g : List Nat} {G1 G2 : GoL} (gp : Good p) (R : Ren p q f g) (h1 : RunGoes p G1) (h2 : RunGoes q G2) : G2.length = G1.length := by
  have e := (to_ren gp R h1 h2).length_eq
  rwa [List.length_map, List.length_map, List.length_map] at e
theorem eq_same {K : Frg} {H : Hp} {x y : V} {d : PyData} {Q : VK} (h1 : Dp K H x d) (h2 : Dp K H y d) (hs : SeqAt.shaped d = true) (q : Q (.bl true) H) : rEqD K x y H Q := by
  refine ⟨d, d, h1, h2, hs, hs, ?_⟩
  rw [PySem.SeqAt.eqv_refl _ (SeqAt.canLay_of_shaped hs)]
  exact q
theorem ne_same {K : Frg} {H : Hp} {x y : V} {d : PyData} {Q : VK} (h1 : Dp K H x d) (h2 : Dp K H y d) (hs : SeqAt.shaped d = true) (q : Q (.bl false) H) : rNeD K x y H Q := by
  refine ⟨d, d, h1, h2, hs, hs, ?_⟩
  rw [PySem.SeqAt.eqv_refl _ (SeqAt.canLay_of_shaped hs)]
  exact q
end DL
namespace DL
open PySem L2 DLR LamX
abbrev sLaw : Stmt := top 88
abbrev nLaw : List Str := ["_law_script","_law_d","_law_turn","_law_program","_law_laying_here","_law_fuel","_law_due","_law_other","_law_again","_law_wide","_law_places","_law_homes","_law_by","_law_turned","_law_some","_law_found","_law_goes","_law_done","_law_home","_law_place"]
abbrev scTurn : Scope := lcS (defScope sLaw) (callA (asgV ((forB ((defBody sLaw).getD 1 (.Pass ⟨0, 0, 0, 0⟩))).getD 8 (.Pass ⟨0, 0, 0, 0⟩))))
def spLaw (K : Frg) (Pt : Addr) : Sp := fun vs H Q _ => ∃ (sa : Addr) (ns : List Int), vs = [.ref sa] ∧ SqL K H sa (ns.map V.int) ∧ ns.length ≤ 63 ∧ H Pt = some (.tbl #[]) ∧ ∀ H', Q (.bl true) H'
abbrev FDice (K : Frg) (mg : Str → Option Value) := Fd K mg "_law_dice" sDice ["_law_script"]
abbrev FTold (K : Frg) (mg : Str → Option Value) := Fd K mg "_law_told" sTold ["_law_work"]
section
variable {P : Program} {w : World} {K : PySem.W.Frag} {mg : Str → Option Value} {base : Heap}
theorem scLaw : FnScope nLaw ["_law_script"] (defScope sLaw) := ⟨rfl, rfl, rfl, by decide +kernel, rfl, by decide +kernel, by decide +kernel⟩
theorem ok_law {fa cc Pt : Addr} {oc kV doc pm ct : Value} {an od : Option Addr} {osl : Array (Option Value)}
    (lk : K.lookup fa = some ⟨oc, od, .func (PySem.W.fnOf "law" "law" (defArgs sLaw) (defBody sLaw) (defScope sLaw) .none kV doc pm an (.ref cc) ct), osl⟩) (hcd : PySem.W.codeIn K (.ref cc) "law" = true) (TB : TabB base mg cc Pt)
    (cDice : FDice K mg) (cNext : FNext K mg) (cAny : FAny K mg) (cLaying : FLaying K mg) (cOtherwise : FOtherwise K mg) (cSpun : FSpun K mg) (cPCosts : FCosts K mg) (cEnded : FEnded K mg) (cTold : FTold K mg) (cBest : FBest K mg) (cPRun : FPRun K mg) (T : Bt mg) (TS : Bs mg) (E : Er mg) (kTM : Knd K E E.TM 5)
    (GAny : FnOk P w K mg base CX0 8 cAny.f cAny.fd ["_law_d"] (spAny K)) (GLaying : FnOk P w K mg base CX0 2 cLaying.f cLaying.fd pLaying (spLaying K)) (GSpun : FnOk P w K mg base CX0 8 cSpun.f cSpun.fd pSpun spSpun) (GPCosts : FnOk P w K mg base CX0 6 cPCosts.f cPCosts.fd ["program", "laying"] spCosts)
    (GEnded : FnOk P w K mg base CX0 8 cEnded.f cEnded.fd ["_law_d"] (spEnded K)) (GBest : FnOk P w K mg base (L2.CX P w) 7 cBest.f cBest.fd ["program","wide","goes"] (fun vs H Q F => spBest vs H Q F ∨ spBestT E.TM vs H Q F)) (GPRun : FnOk P w K mg base CX0 5 cPRun.f cPRun.fd pPRun spRun) :
    FnOk P w K mg base CX0 10 fa (PySem.W.fnOf "law" "law" (defArgs sLaw) (defBody sLaw) (defScope sLaw) .none kV doc pm an (.ref cc) ct) ["_law_script"] (spLaw K Pt) := by
  have GDice : FnOk P w K mg base CX0 1 cDice.f cDice.fd ["_law_script"] (spDice K) := ok_dice cDice.F T
  have GNext : FnOk P w K mg base CX0 1 cNext.f cNext.fd ["_law_dice_here", "_law_many"] (spNext K) := ok_next cNext.F T
  have GOtherwise : FnOk P w K mg base CX0 2 cOtherwise.f cOtherwise.fd pOtherwise (spOtherwise K) := ok_otherwise cOtherwise cNext T
  obtain ⟨ft, fdt, FT, bTo, mTo⟩ := cTold
  have kpTo := FT.kp
  obtain ⟨ocT, odT, kVT, docT, pmT, anT, cdvT, ctT, oslT, rfl, lkTo, hcdTo⟩ := FT.ex
  refine fn_of lk hcd scLaw (fun vs H Q E h => ?_) (fun A outer s H vs Q E' hr h => ?_)
  · obtain ⟨sa, ns, rfl, _⟩ := h
    rfl
  · obtain ⟨sa, ns, rfl, hS, hlen, hPt, kq⟩ := h
    refine ⟨_, PSs.nox (pss_cons (ps_set (i := 1) scLaw.nd rfl (Or.inl rfl) (pe_call GDice (hr.mono (by first | omega | decide)) (by rfl) cDice.m cDice.F.kp cDice.b .nil pass0 (pa_cons (pv 0) pa_nil)))
      (pss_cons (ps_for PassesOwn.never rfl (pi_range1 rfl T.range (pa_cons pe_int pa_nil)) (pg_name (i := 2) scLaw.nd rfl (Or.inl rfl))
          (pss_cons (ps_set (i := 3) scLaw.nd rfl (Or.inr rfl) (pe_call GAny (hr.mono (by first | omega | decide)) (by rfl) cAny.m cAny.F.kp cAny.b .nil pass0 (pa_cons (pv 1) pa_nil)))
          (pss_cons (ps_set (i := 4) scLaw.nd rfl (Or.inl rfl) (pe_call GLaying (hr.mono (by first | omega | decide)) (by rfl) cLaying.m cLaying.F.kp cLaying.b .nil pass0 (pa_cons (pv 1) (pa_cons (pv 3) (pa_cons pe_int pa_nil)))))
          (pss_cons (ps_set (i := 5) scLaw.nd rfl (Or.inl rfl) (pe_ix ix_list (pe_lst (pa_cons pe_int (pa_cons (pe_call GNext (hr.mono (by first | omega | decide)) (by rfl) cNext.m cNext.F.kp cNext.b .nil pass0 (pa_cons (pv 1) (pa_cons pe_int pa_nil))) pa_nil))) (pe_callTy call_int1 (by rfl) T.int (by decide +kernel) (pa_cons (pe_cmpR op_eq (pe_call GNext (hr.mono (by first | omega | decide)) (by rfl) cNext.m cNext.F.kp cNext.b .nil pass0 (pa_cons (pv 1) (pa_cons pe_int pa_nil))) pe_int (nomark _)) pa_nil)) (fun _ _ => rfl)))
          (pss_cons (ps_set (i := 6) scLaw.nd rfl (Or.inl rfl) (pe_call GSpun (hr.mono (by first | omega | decide)) (by rfl) cSpun.m cSpun.F.kp cSpun.b .nil pass0 (pa_cons (pv 3) (pa_cons (pv 4) (pa_cons (pv 5) pa_nil)))))
          (pss_cons (ps_asg (pe_call GOtherwise (hr.mono (by first | omega | decide)) (by rfl) cOtherwise.m cOtherwise.F.kp cOtherwise.b .nil pass0 (pa_cons (pv 1) (pa_cons (pv 3) (pa_cons (pv 4) pa_nil)))) (pg_tup rfl (pgs_cons (pg_name (i := 7) scLaw.nd rfl (Or.inr rfl)) (pgs_cons (pg_name (i := 8) scLaw.nd rfl (Or.inl rfl)) pgs_nil))))
          (pss_cons (ps_if (pt_cmpR (op_neD hr.units) (pe_call GSpun (hr.mono (by first | omega | decide)) (by rfl) cSpun.m cSpun.F.kp cSpun.b .nil pass0 (pa_cons (pv 7) (pa_cons (pv 8) (pa_cons (pv 5) pa_nil)))) (pv 6) (nomark _))
              (pss_one (ps_ret pe_bl))
              pss_nil)
          (pss_cons (ps_asg (pv 4) (pg_tup rfl (pgs_cons (pg_name (i := 9) scLaw.nd rfl (Or.inr rfl)) (pgs_cons (pg_name (i := 10) scLaw.nd rfl (Or.inl rfl)) (pgs_cons (pg_name (i := 11) scLaw.nd rfl (Or.inl rfl)) pgs_nil)))))
          (pss_cons (ps_set (i := 12) scLaw.nd rfl (Or.inr rfl) (pe_call GNext (hr.mono (by first | omega | decide)) (by rfl) cNext.m cNext.F.kp cNext.b .nil pass0 (pa_cons (pv 1) (pa_cons (pv 9) pa_nil))))
          (pss_cons (ps_set (i := 13) scLaw.nd rfl (Or.inl rfl) (pe_callTy call_tuple_of (by rfl) T.tuple (by decide +kernel) (pa_cons (pe_lc (own := [("_law_home", 18)]) (g := gName 18) (tt := tYes) rfl scLaw.nd (pi_tup (pv 11)) (blkOk_by (N := nLaw) (sc := defScope sLaw) (by decide +kernel)) (fun _ _ _ _ _ => (pg_name (i := 18) scLaw.nd rfl (Or.inl rfl))) (fun _ _ _ _ _ => pts_nil) (fun _ _ _ _ _ => (pe_callTy (call_tuple_ofK K rfl) (by rfl) T.tuple (by decide +kernel) (pa_cons (pe_callB (cr_sortedIK K rfl) (by rfl) T.sorted (by decide +kernel) (pa_cons (pe_lc (own := [("_law_place", 19)]) (g := gName 19) (tt := tYes) rfl scLaw.nd (pi_tupK K rfl (pv 18)) (blkRel (blkOk_by (N := nLaw) (sc := scTurn) (by decide +kernel))) (fun _ _ _ _ _ => (pg_name (i := 19) scLaw.nd rfl (Or.inl rfl))) (fun _ _ _ _ _ => pts_nil) (fun _ _ _ _ _ => (pe_op op_mod (pe_op op_add (pv 19) (pv 12)) (pv 9)))) pa_nil)) pa_nil)))) pa_nil)))
          (pss_cons (ps_set (i := 14) scLaw.nd rfl (Or.inl rfl) (pe_tup (pa_cons (pv 9) (pa_cons (pe_callTy call_tuple_of (by rfl) T.tuple (by decide +kernel) (pa_cons (pe_lc (own := [("_law_place", 19)]) (g := gName 19) (tt := tYes) rfl scLaw.nd (pi_tup (pv 10)) (blkOk_by (N := nLaw) (sc := defScope sLaw) (by decide +kernel)) (fun _ _ _ _ _ => (pg_name (i := 19) scLaw.nd rfl (Or.inl rfl))) (fun _ _ _ _ _ => pts_nil) (fun _ _ _ _ _ => (pe_op op_mod (pe_op op_add (pv 19) (pv 12)) (pv 9)))) pa_nil)) (pa_cons (pv 13) pa_nil)))))
          (pss_cons (ps_set (i := 15) scLaw.nd rfl (Or.inl rfl) (pe_call GSpun (hr.mono (by first | omega | decide)) (by rfl) cSpun.m cSpun.F.kp cSpun.b .nil pass0 (pa_cons (pv 3) (pa_cons (pv 14) (pa_cons (pv 5) pa_nil)))))
          (pss_cons (ps_if (PW.pt (pw_or (pt_cmpR (op_neD hr.units) (pe_slice sl_tupS (pv 15) po_none (po_some pe_int)) (pe_slice sl_tupS (pv 6) po_none (po_some pe_int)) (nomark _)) (pw_or1 (pt_cmpR (op_neD hr.units) (pe_call GPCosts (hr.mono (by first | omega | decide)) (by rfl) cPCosts.m cPCosts.F.kp cPCosts.b .nil pass0 (pa_cons (pv 3) (pa_cons (pv 14) pa_nil))) (pe_call GPCosts (hr.mono (by first | omega | decide)) (by rfl) cPCosts.m cPCosts.F.kp cPCosts.b .nil pass0 (pa_cons (pv 3) (pa_cons (pv 4) pa_nil))) (nomark _)))))
              (pss_one (ps_ret pe_bl))
              pss_nil)
          (pss_one (ps_if (PW.pt (pw_and (pt_cmpR op_gt (pv 5) pe_int (nomark _)) (pw_and1 (pt_cmpR op_ne (pe_op op_sub (pe_ix ix_tup (pv 15) pe_int (fun _ _ => rfl)) (pe_ix ix_tup (pe_ix ix_tup (pv 14) pe_int (fun _ _ => rfl)) pe_int (fun _ _ => rfl))) (pe_op op_sub (pe_ix ix_tup (pv 6) pe_int (fun _ _ => rfl)) (pe_ix ix_tup (pv 10) pe_int (fun _ _ => rfl))) (nomark _)))))
              (pss_one (ps_ret pe_bl))
              pss_nil)))))))))))))))
      (pss_cons (ps_asg (pe_call GEnded (hr.mono (by first | omega | decide)) (by rfl) cEnded.m cEnded.F.kp cEnded.b .nil pass0 (pa_cons (pv 1) pa_nil)) (pg_tup rfl (pgs_cons (pg_name (i := 3) scLaw.nd rfl (Or.inr rfl)) (pgs_cons (pg_name (i := 16) scLaw.nd rfl (Or.inr rfl)) (pgs_cons (pg_name (i := 17) scLaw.nd rfl (Or.inl rfl)) pgs_nil)))))
      (pss_cons (ps_asg (pe_call GOtherwise (hr.mono (by first | omega | decide)) (by rfl) cOtherwise.m cOtherwise.F.kp cOtherwise.b .nil pass0 (pa_cons (pv 1) (pa_cons (pv 3) (pa_cons (pe_call GLaying (hr.mono (by first | omega | decide)) (by rfl) cLaying.m cLaying.F.kp cLaying.b .nil pass0 (pa_cons (pv 1) (pa_cons (pv 3) (pa_cons pe_int pa_nil)))) pa_nil)))) (pg_tup rfl (pgs_cons (pg_name (i := 7) scLaw.nd rfl (Or.inr rfl)) (pgs_cons (pg_name (i := 8) scLaw.nd rfl (Or.inl rfl)) pgs_nil))))
      (pss_cons (ps_set (i := 15) scLaw.nd rfl (Or.inl rfl) (pe_lst (pa_cons (pe_told (k := 7) (by rfl) mTo kpTo lkTo hcdTo bTo scTold rfl (Or.inl rfl) (told_ok E T) (hr.mono (by first | omega | decide)) (pe_lam0 (k := 7) (T := [(Pt, qL)]) TB rfl (tab_mem (by rfl)) (tab_one (by rfl)) (lamN_by (N := nLaw) (sc := defScope sLaw) (by decide +kernel)) rfl (fun _ _ _ _ _ => rfl) (fun A2 outer2 s2 H2 E2 f2 c2 hr2 => (pe_call GBest (hr2.mono (by first | omega | decide)) (by rfl) cBest.m cBest.F.kp cBest.b .nil (L2.passes_call (takes_of rfl rfl rfl rfl) (fun _ _ _ _ h => h)) (pa_cons (pv 3) (pa_cons pe_int (pa_cons (pv 16) pa_nil))))))) (pa_cons (pe_told (k := 7) (by rfl) mTo kpTo lkTo hcdTo bTo scTold rfl (Or.inl rfl) (told_ok E T) (hr.mono (by first | omega | decide)) (pe_lam1 (k := 7) (T := [(Pt, qL)]) TB rfl (tab_mem (by rfl)) (tab_one (by rfl)) (lamN_by (N := nLaw) (sc := defScope sLaw) (by decide +kernel)) rfl rfl (fun D => ⟨_, (by decide +kernel), fun cl doc pm cdv ct u => ⟨_, rfl, rfl⟩⟩) (fun A2 outer2 s2 H2 E2 f2 c2 hr2 => (pe_call GBest (hr2.mono (by first | omega | decide)) (by rfl) cBest.m cBest.F.kp cBest.b .nil (L2.passes_call (takes_of rfl rfl rfl rfl) (fun _ _ _ _ h => h)) (pa_cons (pv 7) (pa_cons pe_int (pa_cons (pe_ix (ix_tupK K rfl) (pe_call GPRun (hr2.mono (by first | omega | decide)) (by rfl) cPRun.m cPRun.F.kp cPRun.b .nil pass0 (pa_cons (pv 7) (pa_cons pe_int pa_nil))) pe_int (fun _ _ => rfl)) pa_nil))))))) pa_nil))))
      (pss_one (ps_ret (pe_cmpR (op_eqD hr.units) (pe_slice sl_tupS (pe_ix ix_list (pv 15) pe_int (fun _ _ => rfl)) po_none (po_some pe_int)) (pe_slice sl_tupS (pe_ix ix_list (pv 15) pe_int (fun _ _ => rfl)) po_none (po_some pe_int)) (nomark _))))))))), ?_⟩
    refine ⟨_, rfl, sa, ns, rfl, hS, hlen, fun d H1 s1 hd hE => ?_⟩
    have L1 : Ct K (noTb H1) H1 d sa Pt ns := ⟨⟨hE.noTb, fun x o _ g => (noTb_of g).1, hE.dice⟩, TabS.nil (s1 _ _ hPt)⟩
    refine ⟨3, rfl, by decide, by decide, ?_⟩
    refine for_range (lo := 0) (n := (3 : Int).toNat) (fun i σ H' => ∃ (x2 x3 x4 x5 x6 x7 x8 x9 x10 x11 x12 x13 x14 x15 : Option V), σ = [some (.ref sa), some (.ref d), x2, x3, x4, x5, x6, x7, x8, x9, x10, x11, x12, x13, x14, x15, none, none, none, none] ∧ Ct K (noTb H1) H' d sa Pt ns)
      ⟨none, none, none, none, none, none, none, none, none, none, none, none, none, none, rfl, L1⟩ ?_ ?_
    · rintro i σ H2 hi ⟨x2, x3, x4, x5, x6, x7, x8, x9, x10, x11, x12, x13, x14, x15, rfl, L2⟩
      refine ⟨_, rfl, d, sa, ns, rfl, L2.ent.ent, fun pa p H3 C3 hP g => ?_⟩
      have L3 := L2.dice C3
      refine ⟨_, rfl, _, rfl, d, sa, ns, pa, p, 3, rfl, L3.ent.ent, hP, g, by decide, by decide, fun ya y H4 C4 hY yk _ => ?_⟩
      have L4 := L3.dice C4
      have w2 := yk.w2
      have w24 := yk.w24
      refine ⟨_, rfl, d, sa, ns, _, rfl, L4.ent.ent, by decide, by decide, fun n1 H5 a0 a1 C5 => ?_⟩
      have L5 := L4.dice C5
      refine ⟨(by show 2 ≤ sizeLine; decide), fun l5 hl5 => ?_⟩
      refine alloc hl5 fun H6 s6 e6 => ?_
      have L6 := L5.same s6
      refine ⟨_, rfl, d, sa, ns, _, rfl, L6.ent.ent, by decide, by decide, fun n2 H7 b0 b1 C7 => ?_⟩
      have L7 := L6.dice C7
      obtain ⟨fuel, f5, hf⟩ : ∃ fuel : Nat, fuel ≤ 5000 ∧ atI ([V.int 5000, V.int n1] : List V) (if decide (V.int n2 = V.int 3) = true then 1 else 0) = some (.int (fuel : Int)) := by
        by_cases c : decide (V.int n2 = V.int 3) = true
        · rw [if_pos c]
          exact ⟨n1.toNat, by omega, by rw [Int.toNat_of_nonneg a0]; exact at1⟩
        · rw [if_neg c]
          exact ⟨5000, by omega, at0⟩
      refine ⟨rfl, .inr ⟨_, rfl, l5, _, _, _, rfl, rfl, SqL.of (C7.but _ _ (L5.ent.ned (L5.ent.here hl5)) e6), hf, ?_⟩⟩
      have kp37 : Kp H3 H7 := (C4.kp.trans C5.kp).trans ((Kp.same s6).trans C7.kp)
      have kp47 : Kp H4 H7 := C5.kp.trans ((Kp.same s6).trans C7.kp)
      have hP7 := hP.kp kp37
      have hY7 := hY.kp kp47
      refine ⟨_, rfl, _, rfl, _, rfl, pa, ya, p, y, fuel, rfl, hP7, g, hY7, yk, f5, fun da ls le H8 s8 nls eda els ele => ?_⟩
      have L8 := L7.same s8
      have hP8 := hP7.kp (Kp.same s8)
      have hY8 := hY7.kp (Kp.same s8)
      refine ⟨_, rfl, _, rfl, _, rfl, d, sa, ns, pa, ya, p, y, rfl, L8.ent.ent, hP8, g, hY8, yk, fun ot qa za q f gg a b H9 C9 eot hQ gq R fa_ gb hZ => ?_⟩
      have L9 := L8.dice C9
      obtain ⟨zk, RL, _⟩ := lay_to R yk fa_ gb
      refine ⟨ot, _, rfl, SqT.of eot, rfl, _, _, rfl, _, _, rfl, rfl, ?_⟩
      have nls7 : ls ≠ d := L8.ent.ned (L7.ent.here nls)
      have els9 := C9.but _ _ nls7 els
      have hP9 := hP8.kp C9.kp
      have hY9 := hY8.kp C9.kp
      refine ⟨_, rfl, _, rfl, _, rfl, qa, za, q, backL y a b, fuel, rfl, hQ, gq, hZ, zk, f5, fun db ls2 le2 H10 s10 nls2 edb els2 ele2 => ?_⟩
      have L10 := L9.same s10
      rw [spin_ren g R RL fuel] at edb
      rw [(run_ren g R fuel).m.said] at els2
      have hnone : ((runS q fuel).here = none) = ((runS p fuel).here = none) := propext (by rw [(run_ren g R fuel).here]; exact Option.map_eq_none_iff)
      have ele2' : H10 le2 = some (.tup [.str (if (runS p fuel).here = none then "stop" else "long")]) := by
        rw [ele2]
        by_cases c : (runS p fuel).here = none
        · rw [if_pos c, if_pos (hnone ▸ c)]
        · rw [if_neg c, if_neg fun z => c (hnone ▸ z)]
      refine ⟨_, rfl, ne_same (spun3D_at edb els2 ele2') (spun3D_at (s10 _ _ (C9.kp _ _ eda)) (s10 _ _ els9) (s10 _ _ (C9.kp _ _ ele))) (spun3D_shaped _ _ _) ?_⟩
      refine ⟨_, rfl, iteF ?_⟩
      have hP10 := hP9.kp (Kp.same s10)
      have hY10 := hY9.kp (Kp.same s10)
      obtain ⟨pl, hl, cs, hya, hpl, hhl, hH⟩ := id hY10
      refine ⟨_, rfl, ya, _, rfl, SqT.of hya, rfl, _, _, rfl, _, _, rfl, _, _, rfl, rfl, ?_⟩
      refine ⟨_, rfl, _, rfl, d, sa, ns, (y.wide : Int), rfl, L10.ent.ent, by omega, by omega, fun n H11 n0 n1' C11 => ?_⟩
      obtain ⟨m, rfl⟩ : ∃ m : Nat, n = (m : Int) := ⟨n.toNat, by omega⟩
      have L11 := L10.dice C11
      have hpl11 := C11.kp _ _ hpl
      have hhl11 := C11.kp _ _ hhl
      have hH11 := hH.kp C11.kp
      have hmod : ∀ x : Nat, V.int (((x : Int) + (m : Int)) % (y.wide : Int)) = V.int ((((x + m) % y.wide : Nat)) : Int) := fun x => by rw [Int.natCast_emod, Int.natCast_add]
      dsimp only [gName]
      refine ⟨_, rfl, hl, rfl, ⟨_, SqT.of hhl11⟩, fun D2 hD2 => ?_⟩
      have hcl := Paired.length hH11
      have hh8 : y.homes.length ≤ 8 := by rw [yk.hl]; exact g.w8
      refine lc_tup (K := K) (a := hl) (xs := cs.map V.ref) (fun j H' => ∃ (us : List Addr) (hz : List (List Nat)), Same1 H11 H' ∧ H' D2 = some (.lst (us.map V.ref)) ∧ HomesAt H' us hz ∧ Paired (HomeTr y.wide m) (y.homes.take j) hz) ⟨[], [], Same.new hD2, upd_same, .nil, .nil⟩ (fun j H' _ ⟨_, _, q, _⟩ => SqT.of (q _ _ hhl11)) ?_ ?_
      · rintro j x H13 hj ⟨us, hz, s13, hd13, hu13, hz13⟩
        have hjc : j < cs.length := by
          have q := (List.getElem?_eq_some_iff.mp hj).1
          rwa [List.length_map] at q
        have ex : x = .ref cs[j] := by
          rw [List.getElem?_map, List.getElem?_eq_getElem hjc] at hj
          exact (Option.some.inj hj).symm
        subst ex
        obtain ⟨h0, hq1, hq2⟩ := Paired.get hH11 (List.getElem?_eq_getElem hjc)
        have hk0 := yk.hok h0 (List.mem_of_getElem? hq1)
        have l3 := hk0.l3
        have hul := Paired.length hu13
        have hzl := Paired.length hz13
        rw [List.length_take] at hzl
        have c13 := s13 _ _ hq2
        refine ⟨rfl, _, rfl, cs[j], rfl, ⟨_, SqT.of c13⟩, fun D3 hD3 => ?_⟩
        refine lc_tup (K := K) (a := cs[j]) (xs := h0.map nI) (fun q H' => Same1 H13 H' ∧ H' D3 = some (.lst (((h0.take q).map fun x : Nat => (((x + m) % y.wide : Nat) : Int)).map V.int))) ⟨Same.new hD3, upd_same⟩ (fun q H' _ ⟨z, _⟩ => SqT.of (z _ _ c13)) ?_ ?_
        · rintro q x H14 hq ⟨s14, hd14⟩
          rw [List.getElem?_map] at hq
          cases hz0 : h0[q]? with
          | none => rw [hz0] at hq; cases hq
          | some y0 =>
            rw [hz0] at hq
            have e : nI y0 = x := Option.some.inj hq
            subst e
            refine ⟨rfl, _, rfl, _, rfl, _, _, rfl, rfl, _, rfl, _, _, rfl, rfl, by omega, ?_⟩
            refine ⟨_, hd14, szl (by rw [List.length_map, List.length_map, List.length_take]; omega), Same.mut s14 hD3, ?_⟩
            rw [upd_same, show (fun i j : Int => V.int (i % j)) ((y0 : Int) + (m : Int)) (y.wide : Int) = V.int (((y0 + m) % y.wide : Nat) : Int) from hmod y0, List.take_add_one, hz0, List.map_append, List.map_append]
            rfl
        rintro H14 ⟨s14, hd14⟩
        rw [List.length_map, List.take_length] at hd14
        refine ⟨D3, _, rfl, SqL.of hd14, fun ms q3 pm up hq3 => ?_⟩
        refine alloc hq3 fun H15 s15 e15 => ?_
        refine ⟨q3, _, rfl, .inl ⟨SqL.of e15, fun t3 ht3 => ?_⟩⟩
        refine alloc ht3 fun H16 s16 e16 => ?_
        obtain ⟨h2, m1, m2, m3, m4⟩ := home_tr w2 hk0 pm up
        have s1316 : Same1 H13 H16 := (s14.trans s15).trans s16
        have hd16 := s1316 _ _ hd13
        refine ⟨_, hd16, szl (by rw [List.length_map]; omega), us ++ [t3], hz ++ [h2], Same.mut (s13.trans s1316) hD2, by rw [upd_same, List.map_append]; rfl, ?_, ?_⟩
        · exact HomesAt.kp (Paired.app (HomesAt.kp hu13 (Kp.same s1316)) (Paired.one (by rw [e16, m1]))) (Kp.lst hd16)
        · rw [List.take_add_one, hq1]
          exact Paired.app hz13 (Paired.one ⟨m2, m3, m4⟩)
      rintro H13 ⟨us, hz, s13, hd13, hu13, hz13⟩
      rw [List.length_map, hcl, List.take_length] at hz13
      refine ⟨D2, _, rfl, .inl ⟨SqL.of hd13, fun tz htz => ?_⟩⟩
      refine alloc htz fun H14 s14 e14 => ?_
      dsimp only [gName]
      have s1114 : Same1 H11 H14 := s13.trans s14
      have L14 := L11.same s1114
      have r40 := g.r40
      have ypl := yk.pl
      have hpl14 := s1114 _ _ hpl11
      refine ⟨_, rfl, _, rfl, pl, rfl, ⟨_, SqT.of hpl14⟩, fun D4 hD4 => ?_⟩
      refine lc_tup (K := K) (a := pl) (xs := y.places.map nI) (fun q H' => Same1 H14 H' ∧ H' D4 = some (.lst (((y.places.take q).map fun x : Nat => (x + m) % y.wide).map nI))) ⟨Same.new hD4, upd_same⟩ (fun q H' _ ⟨z, _⟩ => SqT.of (z _ _ hpl14)) ?_ ?_
      · rintro q x H15 hq ⟨s15, hd15⟩
        rw [List.getElem?_map] at hq
        cases hz0 : y.places[q]? with
        | none => rw [hz0] at hq; cases hq
        | some y0 =>
          rw [hz0] at hq
          have e : nI y0 = x := Option.some.inj hq
          subst e
          refine ⟨rfl, _, rfl, _, rfl, _, _, rfl, rfl, _, rfl, _, _, rfl, rfl, by omega, ?_⟩
          refine ⟨_, hd15, szl (by rw [List.length_map, List.length_map, List.length_take]; omega), Same.mut s15 hD4, ?_⟩
          rw [upd_same, show (fun i j : Int => V.int (i % j)) ((y0 : Int) + (m : Int)) (y.wide : Int) = V.int (((y0 + m) % y.wide : Nat) : Int) from hmod y0, List.take_add_one, hz0, List.map_append, List.map_append]
          rfl
      rintro H15 ⟨s15, hd15⟩
      rw [List.length_map, List.take_length] at hd15
      refine ⟨D4, _, rfl, .inl ⟨SqL.of hd15, fun tp htp => ?_⟩⟩
      refine alloc htp fun H16 s16 e16 => ?_
      refine ⟨_, rfl, (by show 3 ≤ sizeLine; decide), fun zt hzt => ?_⟩
      refine alloc hzt fun H17 s17 e17 => ?_
      have s1417 : Same1 H14 H17 := (s15.trans s16).trans s17
      have L17 := L14.same s1417
      obtain ⟨tk, tr⟩ := turned_of (m := m) yk hz13
      have s1117 := s1114.trans s1417
      have hP17 := (hP10.kp C11.kp).kp (Kp.same s1117)
      have hY17 := (hY10.kp C11.kp).kp (Kp.same s1117)
      have e16' := s17 _ _ e16
      have hT17 : LayAt H17 zt ⟨y.wide, y.places.map fun x => (x + m) % y.wide, hz⟩ := ⟨tp, tz, us, e17, e16', s1417 _ _ e14, HomesAt.kp hu13 (Kp.same (s14.trans s1417))⟩
      generalize hzz : (⟨y.wide, y.places.map fun x => (x + m) % y.wide, hz⟩ : Lay) = z at tk tr hT17
      refine ⟨_, rfl, _, rfl, _, rfl, pa, zt, p, z, fuel, rfl, hP17, g, hT17, tk, f5, fun dc ls3 le3 H18 s18 nls3 edc els3 ele3 => ?_⟩
      have L18 := L17.same s18
      have eda18 := s18 _ _ ((Kp.same s1117) _ _ (C11.kp _ _ (s10 _ _ (C9.kp _ _ eda))))
      have ele18 := s18 _ _ ((Kp.same s1117) _ _ (C11.kp _ _ (s10 _ _ (C9.kp _ _ ele))))
      have els18 := (s1117.trans s18) _ _ (C11.but _ _ nls7 (s10 _ _ els9))
      refine ⟨_, rfl, _, rfl, dc, _, rfl, edc, fun t1 H19 s19 e19 => ?_⟩
      have e19 : H19 t1 = some (.tup [.ref ls3, .ref le3]) := e19
      refine ⟨_, rfl, _, rfl, da, _, rfl, s19 _ _ eda18, fun t2 H20 s20 e20 => ?_⟩
      have e20 : H20 t2 = some (.tup [.ref ls, .ref le]) := e20
      have s1820 := s19.trans s20
      refine ne_same (spunD_at (s20 _ _ e19) (s1820 _ _ els3) (s1820 _ _ ele3)) (spunD_at e20 (s1820 _ _ els18) (s1820 _ _ ele18)) (spunD_shaped _ _) ?_
      refine ⟨_, rfl, iteF ?_⟩
      have hP20 := hP17.kp (Kp.same (s18.trans s1820))
      have hT20 := hT17.kp (Kp.same (s18.trans s1820))
      have hY20 := hY17.kp (Kp.same (s18.trans s1820))
      refine ⟨_, rfl, _, rfl, pa, zt, p, z, rfl, hP20, g, hT20, tk, fun c1 cb1 H21 s21 _ ec1 hc1 => ?_⟩
      refine ⟨_, rfl, _, rfl, pa, ya, p, y, rfl, hP20.kp (Kp.same s21), g, hY20.kp (Kp.same s21), yk, fun c2 cb2 H22 s22 _ ec2 hc2 => ?_⟩
      have hcc : Paired (fun b g => H21 b = some (.tup (costVs y p.rows g))) cb1 (goesN p.rows p.rows.length) := by
        have all : ∀ {bs : List Addr} {L : List (Nat × Nat)}, (∀ e ∈ L, e ∈ goesN p.rows p.rows.length) → Paired (fun b g => H21 b = some (.tup (costVs z p.rows g))) bs L → Paired (fun b g => H21 b = some (.tup (costVs y p.rows g))) bs L := by
          intro bs L hL h
          induction h with
          | nil => exact .nil
          | @cons x e _ _ h _ ih =>
            refine .cons ?_ (ih fun e he => hL e (List.mem_cons_of_mem _ he))
            obtain ⟨q1, q2⟩ := goesN_lt g (hL e List.mem_cons_self)
            rw [h]
            unfold costVs
            rw [cost_tr g yk tr q1 q2]
        exact all (fun e he => he) hc1
      refine ne_same (.lst (SqL.of (s22 _ _ ec1)) (costsP_at (Paired.mapP hcc fun b e h => s22 _ _ h))) (.lst (SqL.of ec2) (costsP_at hc2)) (costsP_shaped y p.rows _) ?_
      refine ⟨_, rfl, iteF ?_⟩
      have s1822 := (s1820.trans s21).trans s22
      have L22 := (L18.same s1822)
      have N0 := g.r1
      refine ⟨_, rfl, _, _, rfl, rfl, _, rfl, ite2 (fun c => ?_) (fun c => ?_)⟩
      · have f0 : 0 < fuel := by
          have := of_decide_eq_true c
          omega
        obtain ⟨k, rfl⟩ : ∃ k, fuel = k + 1 := ⟨fuel - 1, by omega⟩
        obtain ⟨tp', tz', us', t1', t2', _, _⟩ := hT17.kp (Kp.same (s18.trans s1822))
        have zpl := tk.pl
        have k0 := spin_tr g yk tk (turned_own N0 tr) (by omega) k
        refine ⟨_, rfl, dc, _, _, _, rfl, rfl, SqT.of (s1822 _ _ edc), at2, _, rfl, zt, _, _, _, rfl, rfl, SqT.of t1', at1, tp', _, _, _, rfl, rfl, SqT.of t2', atI_nat (j := 0) (nI_getD (by omega)), _, _, rfl, rfl, ?_⟩
        refine ⟨_, rfl, da, _, _, _, rfl, rfl, SqT.of (s1822 _ _ eda18), at2, _, rfl, pl, _, _, _, rfl, rfl, SqT.of (((s1417.trans s18).trans s1822) _ _ hpl14), atI_nat (j := 0) (nI_getD (by omega)), _, _, rfl, rfl, rfl, _, rfl, ?_⟩
        rw [show (!decide (V.int ((spinS p z (k + 1)).now - ((z.places.getD 0 0 : Nat) : Int)) = V.int ((spinS p y (k + 1)).now - ((y.places.getD 0 0 : Nat) : Int)))) = false by rw [k0, show (spinS p y (k + 1)).now + (((z.places.getD 0 0 : Nat) : Int) - ((y.places.getD 0 0 : Nat) : Int)) - ((z.places.getD 0 0 : Nat) : Int) = (spinS p y (k + 1)).now - ((y.places.getD 0 0 : Nat) : Int) by omega]; simp]
        refine iteF ?_
        exact ⟨_, _, _, _, _, _, _, _, _, _, _, _, _, _, rfl, L22⟩
      · exact iteF ⟨_, _, _, _, _, _, _, _, _, _, _, _, _, _, rfl, L22⟩
    · rintro σ H2 ⟨x2, x3, x4, x5, x6, x7, x8, x9, x10, x11, x12, x13, x14, x15, rfl, L2⟩
      refine ⟨_, rfl, d, sa, ns, rfl, L2.ent.ent, fun ea pa la da p G bs H3 C3 e3 hP g hT hla hG gk cs hda hcl hcp hrun => ?_⟩
      have L3 := L2.dice C3
      have h1 : RunGoes p G := ⟨hrun.1, hrun.2⟩
      have g60 := gk.few g hT
      refine ⟨ea, _, rfl, SqT.of e3, rfl, _, _, rfl, _, _, rfl, _, _, rfl, rfl, ?_⟩
      refine ⟨_, rfl, _, rfl, _, rfl, _, rfl, d, sa, ns, pa, p, 1, rfl, L3.ent.ent, hP, g, by decide, by decide, fun ya y H4 C4 hY yk _ => ?_⟩
      have L4 := L3.dice C4
      have hP4 := hP.kp C4.kp
      refine ⟨d, sa, ns, pa, ya, p, y, rfl, L4.ent.ent, hP4, g, hY, yk, fun ot qa za q f gg a b H5 C5 eot hQ gq R fa_ gb hZ => ?_⟩
      have L5 := L4.dice C5
      have hla4 := C4.but _ _ (refs_ne_dice L3.ent.dice hla) hla
      have hla5 := C5.but _ _ (refs_ne_dice L4.ent.dice hla4) hla4
      have hG5 := (hG.kp C4.kp).kp C5.kp
      have hP5 := hP4.kp C5.kp
      refine ⟨ot, _, rfl, SqT.of eot, rfl, _, _, rfl, _, _, rfl, rfl, ?_⟩
      refine ⟨L5.tabs, fun v H6 e6 T6 LV => ?_⟩
      obtain ⟨f1, c1, o1, sc1, dT1, rfl, l1, l2, l3, l4, l5⟩ := LV
      have L6 := L5.ext e6 T6
      have k6 := Kp.ext e6
      have hla6 := e6 _ _ hla5 (fun ps z => by cases z)
      refine ⟨f1, c1, o1, sc1, dT1, _, rfl, l2, l4, l5, l1, l3, ?_⟩
      by_cases big : ∃ ws rs, WorthsOf p G ws ∧ RowsOf G rs ∧ 5000 < 3 ^ (ws.length + rs.length)
      · obtain ⟨ws, rs, hws, hrs, hb⟩ := big
        refine ⟨_, rfl, _, rfl, .inr ⟨pa, la, bs, p, 3, G, rfl, hP5.kp k6, g, by decide, by decide, hla6, hG5.kp k6, gk, g60, fun ws' rs' z1 z2 => ?_, fun H7 s7 => ⟨E.TM, 5, kTM, rfl, rfl, fun t1 H8 s8 e8 => ?_⟩⟩⟩
        · rw [len_same (nodup_up z1.1) (nodup_up hws.1) fun x => (z1.2 x).trans (hws.2 x).symm, len_same (nodup_up z2.1) (nodup_up hrs.1) fun x => (z2.2 x).trans (hrs.2 x).symm]
          exact hb
        have s68 := s7.trans s8
        have L8 := L6.same s68
        refine ⟨L8.tabs, fun v H9 e9 T9 LV => ?_⟩
        obtain ⟨f2, c2, o2, sc2, dT2, rfl, m1, m2, m3, m4, m5⟩ := LV
        have L9 := L8.ext e9 T9
        have k59 : Kp H5 H9 := (k6.trans (Kp.same s68)).trans (Kp.ext e9)
        refine ⟨f2, c2, o2, sc2, dT2, _, rfl, m2, m4, m5, m1, m3, ?_⟩
        refine ⟨_, rfl, _, rfl, qa, q, 5000, rfl, hQ.kp k59, gq, by decide, fun ra ls le ld lg ys L H10 r10 => ?_⟩
        obtain ⟨G2, eG, hG2, gk2, _⟩ := r10.goes_at gq (by decide) (run_none g R h1.none)
        have h2 : RunGoes q G2 := ⟨run_none g R h1.none, L, r10.stb.perm, eG⟩
        refine ⟨ra, _, _, _, rfl, rfl, SqT.of r10.top, at3, .inr ⟨qa, lg, ys, q, 3, G2, rfl, (hQ.kp k59).kp (Kp.same r10.same), gq, by decide, by decide, r10.goes, hG2, gk2, by rw [RunGoes.len g R h1 h2]; exact g60, fun ws' rs' z1 z2 => ?_, fun H11 s11 => ⟨E.TM, 5, kTM, rfl, rfl, fun t2 H12 s12 e12 => ?_⟩⟩⟩
        · rw [worthsOf_ren g R h1 h2 hws z1, rowsOf_ren g R h1 h2 hrs z2]
          exact hb
        have e8' := (r10.same.trans (s11.trans s12)) _ _ (e9 _ _ e8 (fun ps z => by cases z))
        refine ⟨(by show 2 ≤ sizeLine; decide), fun lf hlf => ?_⟩
        refine alloc hlf fun H13 s13 e13 => ?_
        refine ⟨_, rfl, lf, _, _, _, rfl, rfl, SqL.of e13, at0, _, rfl, t1, _, rfl, s13 _ _ e8', fun ta H14 s14 e14 => ?_⟩
        refine ⟨_, rfl, lf, _, _, _, rfl, rfl, SqL.of (s14 _ _ e13), at1, _, rfl, t2, _, rfl, (s13.trans s14) _ _ e12, fun tb H15 s15 e15 => ?_⟩
        have e14 : H14 ta = some (.tup [.str (wordJ 5)]) := e14
        have e15 : H15 tb = some (.tup [.str (wordJ 5)]) := e15
        exact eq_same (d := .tuple [.str (wordJ 5)]) (.tup (SqT.of (s15 _ _ e14)) (.cons (.str _) .nil)) (.tup (SqT.of e15) (.cons (.str _) .nil)) (by decide +kernel) (kq _)
      · have small : ∀ ws rs, WorthsOf p G ws → RowsOf G rs → 3 ^ (ws.length + rs.length) ≤ 5000 := fun ws rs z1 z2 => Nat.le_of_not_lt fun z => big ⟨ws, rs, z1, z2, z⟩
        refine ⟨_, rfl, _, rfl, .inl ⟨pa, la, bs, p, 3, G, rfl, hP5.kp k6, g, by decide, by decide, hla6, hG5.kp k6, gk, g60, fun ws rs hws hrs => ⟨small ws rs hws hrs, fun Lk lk t1 y1 i1 H8 s68 et1 hy1 hi1 hmin1 => ?_⟩⟩⟩
        have L8 := L6.same s68
        refine ⟨L8.tabs, fun v H9 e9 T9 LV => ?_⟩
        obtain ⟨f2, c2, o2, sc2, dT2, rfl, m1, m2, m3, m4, m5⟩ := LV
        have L9 := L8.ext e9 T9
        have k59 : Kp H5 H9 := (k6.trans (Kp.same s68)).trans (Kp.ext e9)
        refine ⟨f2, c2, o2, sc2, dT2, _, rfl, m2, m4, m5, m1, m3, ?_⟩
        refine ⟨_, rfl, _, rfl, qa, q, 5000, rfl, hQ.kp k59, gq, by decide, fun ra ls le ld lg ys L H10 r10 => ?_⟩
        obtain ⟨G2, eG, hG2, gk2, _⟩ := r10.goes_at gq (by decide) (run_none g R h1.none)
        have h2 : RunGoes q G2 := ⟨run_none g R h1.none, L, r10.stb.perm, eG⟩
        refine ⟨ra, _, _, _, rfl, rfl, SqT.of r10.top, at3, .inl ⟨qa, lg, ys, q, 3, G2, rfl, (hQ.kp k59).kp (Kp.same r10.same), gq, by decide, by decide, r10.goes, hG2, gk2, by rw [RunGoes.len g R h1 h2]; exact g60, fun ws2 rs2 z1 z2 => ⟨?_, fun Lk2 lk2 t2 y2 i2 H12 s12 et2 hy2 hi2 hmin2 => ?_⟩⟩⟩
        · rw [worthsOf_ren g R h1 h2 hws z1, rowsOf_ren g R h1 h2 hrs z2]
          exact small ws rs hws hrs
        have e8' := (r10.same.trans s12) _ _ (e9 _ _ et1 (fun ps z => by cases z))
        obtain ⟨b1k, b1o⟩ := bestL_ok (p := p) (W := 3) (ws := ws) (rs := rs) (L := Lk) (i := i1) (by decide) (by decide)
        obtain ⟨b2k, b2o⟩ := bestL_ok (p := q) (W := 3) (ws := ws2) (rs := rs2) (L := Lk2) (i := i2) (by decide) (by decide)
        have few : beatsF (bestL p 3 ws rs Lk i1) p.rows G = beatsF (bestL q 3 ws2 rs2 Lk2 i2) q.rows G2 := by
          refine few_ren g gq R h1 h2 b1k b2k rfl b1o b2o (fun y yk one hw => ?_) (fun y yk one hw => ?_)
          · obtain ⟨j, j1, j2⟩ := best_least (W := 3) g gk hws hrs lk yk one hw
            have := hmin1 j j1
            omega
          · obtain ⟨j, j1, j2⟩ := best_least (W := 3) gq gk2 z1 z2 lk2 yk one hw
            have := hmin2 j j1
            omega
        refine ⟨(by show 2 ≤ sizeLine; decide), fun lf hlf => ?_⟩
        refine alloc hlf fun H13 s13 e13 => ?_
        refine ⟨_, rfl, lf, _, _, _, rfl, rfl, SqL.of e13, at0, _, rfl, t1, _, rfl, s13 _ _ e8', fun ta H14 s14 e14 => ?_⟩
        refine ⟨_, rfl, lf, _, _, _, rfl, rfl, SqL.of (s14 _ _ e13), at1, _, rfl, t2, _, rfl, (s13.trans s14) _ _ et2, fun tb H15 s15 e15 => ?_⟩
        have e14 : H14 ta = some (.tup [.int (beatsF (bestL p 3 ws rs Lk i1) p.rows G)]) := e14
        have e15 : H15 tb = some (.tup [.int (beatsF (bestL q 3 ws2 rs2 Lk2 i2) q.rows G2)]) := e15
        rw [← few] at e15
        exact eq_same (d := .tuple [.int (beatsF (bestL p 3 ws rs Lk i1) p.rows G)]) (.tup (SqT.of (s15 _ _ e14)) (.cons (.int _) .nil)) (.tup (SqT.of e15) (.cons (.int _) .nil)) rfl (kq _)
end
end DL
namespace DL
open PySem L2 DLR
theorem tup_lit {K : Frg} {H : Hp} {t : Addr} {dd : Option Addr} {its : Array Value} {n : Nat} {sl : Array (Option Value)} {l : List Str} (h : K.lookup t = some ⟨.type "tuple", dd, .seq its n, sl⟩) (e : Vals (l.map V.str) its.toList) (hl : l.length ≤ 1000) : SqT K H t (l.map V.str) := by
  refine .inr ⟨_, its, n, h, rfl, rfl, ?_, e⟩
  have q : its.size = l.length := by
    have z := e.length
    rw [List.length_map] at z
    exact z.symm
  rw [q]
  exact sz (by omega)
theorem kit_cls' {K : Frg} {t : Value} {C : Addr} {b : Bool} (i : PySem.W.isClsIn K C = true) (ty : PySem.W.typeIn K (.ref C) = some (.type "type")) (s : PySem.W.subIn K t (.ref C) = some b) : PySem.W.kitCls K t (.ref C) = some b := by
  unfold PySem.W.kitCls
  have h : ((PySem.W.clsIn K C).isSome && PySem.W.typeIn K (.ref C) == some (.type "type")) = true := by
    rw [ty, show (PySem.W.clsIn K C).isSome = true from i]
    rfl
  dsimp only
  rw [if_pos h]
  exact s
theorem kit_no {K : Frg} {D C : Addr} {b : Bool} (n : (D == C) = false) (i : PySem.W.isClsIn K C = true) (ty : PySem.W.typeIn K (.ref C) = some (.type "type")) (s : PySem.W.subIn K (.ref D) (.ref C) = some b) : PySem.W.kitOne K (.ref D) (.ref C) = some b := by
  unfold PySem.W.kitOne
  have ne : ¬ (Value.ref D == Value.ref C) = true := fun z => by
    have e : Value.ref D = Value.ref C := by simpa using z
    injection e with e
    exact ne_of_beq_false n e
  rw [if_neg ne]
  exact kit_cls' i ty s
theorem kit_self {K : Frg} {D : Addr} : PySem.W.kitOne K (.ref D) (.ref D) = some true := by
  unfold PySem.W.kitOne
  rw [if_pos (by simp)]
theorem kit_type {K : Frg} {D : Addr} {T : String} {b : Bool} (m : PySem.W.kitMeta T = true) (s : PySem.W.subIn K (.ref D) (.type T) = some b) : PySem.W.kitOne K (.ref D) (.type T) = some b := by
  unfold PySem.W.kitOne
  have ne : ¬ (Value.ref D == Value.type T) = true := fun z => by
    have e : Value.ref D = Value.type T := by simpa using z
    cases e
  rw [if_neg ne]
  unfold PySem.W.kitCls
  dsimp only
  rw [if_pos m]
  exact s
theorem exm_sub {K : Frg} {D C : Addr} {b : Bool} (bb : PySem.W.subIn K (.ref C) (.type "BaseException") = some true) (i : PySem.W.isClsIn K C = true) (ty : PySem.W.typeIn K (.ref C) = some (.type "type")) (s : PySem.W.subIn K (.ref D) (.ref C) = some b) : PySem.W.exmOne K (.ref D) (.ref C) = some b := by
  unfold PySem.W.exmOne
  rw [bb, if_pos (by rfl)]
  exact kit_cls' i ty s
theorem all_mk {P : Program} {w : World} {K : PySem.W.Frag} {h : Heap} {mg : Str → Option Value} {fa : Addr} (X : K.In h) (G : h.Ns mainGlobals mg) (hfa : mg "law" = some (.ref fa))
    {af0 af1 af2 af3 af4 af5 af6 af7 af8 af9 af10 af11 af12 af13 af14 af15 af16 af17 af18 af19 af20 af21 af22 af23 af24 af25 af26 af27 af28 af29 af30 af31 af32 af33 af34 af35 af36 af37 af38 af39 af40 af41 af42 af43 af44 af45 af46 af47 af48 af49 af50 af51 af52 af53 af54 af55 af56 af57 C amC0 amC1 amC2 amC3 U amU0 amU1 amU2 amU3 amU4 eBP eBL eBF eBG eBE eTM_ eOV eBT eDE cc tP d p_load p_add p_take p_store p_say p_test p_stop e : Addr} {odf0 anf0 odf1 anf1 odf2 anf2 odf3 anf3 odf4 anf4 odf5 anf5 odf6 anf6 odf7 anf7 odf8 anf8 odf9 anf9 odf10 anf10 odf11 anf11 odf12 anf12 odf13 anf13 odf14 anf14 odf15 anf15 odf16 anf16 odf17 anf17 odf18 anf18 odf19 anf19 odf20 anf20 odf21 anf21 odf22 anf22 odf23 anf23 odf24 anf24 odf25 anf25 odf26 anf26 odf27 anf27 odf28 anf28 odf29 anf29 odf30 anf30 odf31 anf31 odf32 anf32 odf33 anf33 odf34 anf34 odf35 anf35 odf36 anf36 odf37 anf37 odf38 anf38 odf39 anf39 odf40 anf40 odf41 anf41 odf42 anf42 odf43 anf43 odf44 anf44 odf45 anf45 odf46 anf46 odf47 anf47 odf48 anf48 odf49 anf49 odf50 anf50 odf51 anf51 odf52 anf52 odf53 anf53 odf54 anf54 odf55 anf55 odf56 anf56 odf57 anf57 odmC0 anmC0 odmC1 anmC1 odmC2 anmC2 odmC3 anmC3 odmU0 anmU0 odmU1 anmU1 odmU2 anmU2 odmU3 anmU3 odmU4 anmU4 ddc pd_load pd_add pd_take pd_store pd_say pd_test pd_stop : Option Addr} {slf0 slf1 slf2 slf3 slf4 slf5 slf6 slf7 slf8 slf9 slf10 slf11 slf12 slf13 slf14 slf15 slf16 slf17 slf18 slf19 slf20 slf21 slf22 slf23 slf24 slf25 slf26 slf27 slf28 slf29 slf30 slf31 slf32 slf33 slf34 slf35 slf36 slf37 slf38 slf39 slf40 slf41 slf42 slf43 slf44 slf45 slf46 slf47 slf48 slf49 slf50 slf51 slf52 slf53 slf54 slf55 slf56 slf57 slmC0 slmC1 slmC2 slmC3 slmU0 slmU1 slmU2 slmU3 slmU4 slc ps_load ps_add ps_take ps_store ps_say ps_test ps_stop : Array (Option Value)} {its_load its_add its_take its_store its_say its_test its_stop : Array Value} {ocf0 kVf0 dcf0 pmf0 cdf0 ctf0 ocf1 kVf1 dcf1 pmf1 cdf1 ctf1 ocf2 kVf2 dcf2 pmf2 cdf2 ctf2 ocf3 kVf3 dcf3 pmf3 cdf3 ctf3 ocf4 kVf4 dcf4 pmf4 cdf4 ctf4 ocf5 kVf5 dcf5 pmf5 cdf5 ctf5 ocf6 kVf6 dcf6 pmf6 cdf6 ctf6 ocf7 kVf7 dcf7 pmf7 cdf7 ctf7 ocf8 kVf8 dcf8 pmf8 cdf8 ctf8 ocf9 kVf9 dcf9 pmf9 cdf9 ctf9 ocf10 kVf10 dcf10 pmf10 cdf10 ctf10 ocf11 kVf11 dcf11 pmf11 cdf11 ctf11 ocf12 kVf12 dcf12 pmf12 cdf12 ctf12 ocf13 kVf13 dcf13 pmf13 cdf13 ctf13 ocf14 kVf14 dcf14 pmf14 cdf14 ctf14 ocf15 kVf15 dcf15 pmf15 cdf15 ctf15 ocf16 kVf16 dcf16 pmf16 cdf16 ctf16 ocf17 kVf17 dcf17 pmf17 cdf17 ctf17 ocf18 kVf18 dcf18 pmf18 cdf18 ctf18 ocf19 kVf19 dcf19 pmf19 cdf19 ctf19 ocf20 kVf20 dcf20 pmf20 cdf20 ctf20 ocf21 kVf21 dcf21 pmf21 cdf21 ctf21 ocf22 kVf22 dcf22 pmf22 cdf22 ctf22 ocf23 kVf23 dcf23 pmf23 cdf23 ctf23 ocf24 kVf24 dcf24 pmf24 cdf24 ctf24 ocf25 kVf25 dcf25 pmf25 cdf25 ctf25 ocf26 kVf26 dcf26 pmf26 cdf26 ctf26 ocf27 kVf27 dcf27 pmf27 cdf27 ctf27 ocf28 kVf28 dcf28 pmf28 cdf28 ctf28 ocf29 kVf29 dcf29 pmf29 cdf29 ctf29 ocf30 kVf30 dcf30 pmf30 cdf30 ctf30 ocf31 kVf31 dcf31 pmf31 cdf31 ctf31 ocf32 kVf32 dcf32 pmf32 cdf32 ctf32 ocf33 kVf33 dcf33 pmf33 cdf33 ctf33 ocf34 kVf34 dcf34 pmf34 cdf34 ctf34 ocf35 kVf35 dcf35 pmf35 cdf35 ctf35 ocf36 kVf36 dcf36 pmf36 cdf36 ctf36 ocf37 kVf37 dcf37 pmf37 cdf37 ctf37 ocf38 kVf38 dcf38 pmf38 cdf38 ctf38 ocf39 kVf39 dcf39 pmf39 cdf39 ctf39 ocf40 kVf40 dcf40 pmf40 cdf40 ctf40 ocf41 kVf41 dcf41 pmf41 cdf41 ctf41 ocf42 kVf42 dcf42 pmf42 cdf42 ctf42 ocf43 kVf43 dcf43 pmf43 cdf43 ctf43 ocf44 kVf44 dcf44 pmf44 cdf44 ctf44 ocf45 kVf45 dcf45 pmf45 cdf45 ctf45 ocf46 kVf46 dcf46 pmf46 cdf46 ctf46 ocf47 kVf47 dcf47 pmf47 cdf47 ctf47 ocf48 kVf48 dcf48 pmf48 cdf48 ctf48 ocf49 kVf49 dcf49 pmf49 cdf49 ctf49 ocf50 kVf50 dcf50 pmf50 cdf50 ctf50 ocf51 kVf51 dcf51 pmf51 cdf51 ctf51 ocf52 kVf52 dcf52 pmf52 cdf52 ctf52 ocf53 kVf53 dcf53 pmf53 cdf53 ctf53 ocf54 kVf54 dcf54 pmf54 cdf54 ctf54 ocf55 kVf55 dcf55 pmf55 cdf55 ctf55 ocf56 kVf56 dcf56 pmf56 cdf56 ctf56 ocf57 kVf57 dcf57 pmf57 ctf57 ocmC0 kVmC0 dcmC0 pmmC0 cdmC0 ctmC0 ocmC1 kVmC1 dcmC1 pmmC1 cdmC1 ctmC1 ocmC2 kVmC2 dcmC2 pmmC2 cdmC2 ctmC2 ocmC3 kVmC3 dcmC3 pmmC3 cdmC3 ctmC3 ocmU0 kVmU0 dcmU0 pmmU0 cdmU0 ctmU0 ocmU1 kVmU1 dcmU1 pmmU1 cdmU1 ctmU1 ocmU2 kVmU2 dcmU2 pmmU2 cdmU2 ctmU2 ocmU3 kVmU3 dcmU3 pmmU3 cdmU3 ctmU3 ocmU4 kVmU4 dcmU4 pmmU4 cdmU4 ctmU4 : Value} {es es2 : Array DictEntry} {n pn_load pn_add pn_take pn_store pn_say pn_test pn_stop n2 : Nat} {tW tR tN tF tL tC t2 t24 t3 t5 tx_load tx_add tx_take tx_store tx_say tx_test tx_stop : Tok} {vsc : Array Value} {file18 : Str} {tf18 tg7 tt10 : Tok} {fl7 tx10 : Int} {in9 : Bool}
    (nf0 : PySem.W.nsIn K mainGlobals "_law_next" = some (some (.ref af0)))
    (lf0 : K.lookup af0 = some ⟨ocf0, odf0, .func (PySem.W.fnOf "_law_next" "_law_next" (defArgs sNext) (defBody sNext) (defScope sNext) .none kVf0 dcf0 pmf0 anf0 cdf0 ctf0), slf0⟩)
    (cf0 : PySem.W.codeIn K cdf0 "_law_next" = true)
    (kf0 : PySem.W.keepIn K (.ref af0) = true)
    (nf1 : PySem.W.nsIn K mainGlobals "_law_straight" = some (some (.ref af1)))
    (lf1 : K.lookup af1 = some ⟨ocf1, odf1, .func (PySem.W.fnOf "_law_straight" "_law_straight" (defArgs sStraight) (defBody sStraight) (defScope sStraight) .none kVf1 dcf1 pmf1 anf1 cdf1 ctf1), slf1⟩)
    (cf1 : PySem.W.codeIn K cdf1 "_law_straight" = true)
    (kf1 : PySem.W.keepIn K (.ref af1) = true)
    (nf2 : PySem.W.nsIn K mainGlobals "_law_fork" = some (some (.ref af2)))
    (lf2 : K.lookup af2 = some ⟨ocf2, odf2, .func (PySem.W.fnOf "_law_fork" "_law_fork" (defArgs sFork) (defBody sFork) (defScope sFork) .none kVf2 dcf2 pmf2 anf2 cdf2 ctf2), slf2⟩)
    (cf2 : PySem.W.codeIn K cdf2 "_law_fork" = true)
    (kf2 : PySem.W.keepIn K (.ref af2) = true)
    (nf3 : PySem.W.nsIn K mainGlobals "_law_body" = some (some (.ref af3)))
    (lf3 : K.lookup af3 = some ⟨ocf3, odf3, .func (PySem.W.fnOf "_law_body" "_law_body" (defArgs sBody) (defBody sBody) (defScope sBody) .none kVf3 dcf3 pmf3 anf3 cdf3 ctf3), slf3⟩)
    (cf3 : PySem.W.codeIn K cdf3 "_law_body" = true)
    (kf3 : PySem.W.keepIn K (.ref af3) = true)
    (nf4 : PySem.W.nsIn K mainGlobals "_law_mixed" = some (some (.ref af4)))
    (lf4 : K.lookup af4 = some ⟨ocf4, odf4, .func (PySem.W.fnOf "_law_mixed" "_law_mixed" (defArgs sMixed) (defBody sMixed) (defScope sMixed) .none kVf4 dcf4 pmf4 anf4 cdf4 ctf4), slf4⟩)
    (cf4 : PySem.W.codeIn K cdf4 "_law_mixed" = true)
    (kf4 : PySem.W.keepIn K (.ref af4) = true)
    (nf5 : PySem.W.nsIn K mainGlobals "_law_stopping" = some (some (.ref af5)))
    (lf5 : K.lookup af5 = some ⟨ocf5, odf5, .func (PySem.W.fnOf "_law_stopping" "_law_stopping" (defArgs sStopping) (defBody sStopping) (defScope sStopping) .none kVf5 dcf5 pmf5 anf5 cdf5 ctf5), slf5⟩)
    (cf5 : PySem.W.codeIn K cdf5 "_law_stopping" = true)
    (kf5 : PySem.W.keepIn K (.ref af5) = true)
    (nf6 : PySem.W.nsIn K mainGlobals "_law_any" = some (some (.ref af6)))
    (lf6 : K.lookup af6 = some ⟨ocf6, odf6, .func (PySem.W.fnOf "_law_any" "_law_any" (defArgs sAny) (defBody sAny) (defScope sAny) .none kVf6 dcf6 pmf6 anf6 cdf6 ctf6), slf6⟩)
    (cf6 : PySem.W.codeIn K cdf6 "_law_any" = true)
    (kf6 : PySem.W.keepIn K (.ref af6) = true)
    (nf7 : PySem.W.nsIn K mainGlobals "_law_ring" = some (some (.ref af7)))
    (lf7 : K.lookup af7 = some ⟨ocf7, odf7, .func (PySem.W.fnOf "_law_ring" "_law_ring" (defArgs sRing) (defBody sRing) (defScope sRing) .none kVf7 dcf7 pmf7 anf7 cdf7 ctf7), slf7⟩)
    (cf7 : PySem.W.codeIn K cdf7 "_law_ring" = true)
    (kf7 : PySem.W.keepIn K (.ref af7) = true)
    (nf8 : PySem.W.nsIn K mainGlobals "_law_step" = some (some (.ref af8)))
    (lf8 : K.lookup af8 = some ⟨ocf8, odf8, .func (PySem.W.fnOf "_law_step" "_law_step" (defArgs sStep) (defBody sStep) (defScope sStep) .none kVf8 dcf8 pmf8 anf8 cdf8 ctf8), slf8⟩)
    (cf8 : PySem.W.codeIn K cdf8 "_law_step" = true)
    (kf8 : PySem.W.keepIn K (.ref af8) = true)
    (nf9 : PySem.W.nsIn K mainGlobals "_law_run" = some (some (.ref af9)))
    (lf9 : K.lookup af9 = some ⟨ocf9, odf9, .func (PySem.W.fnOf "_law_run" "_law_run" (defArgs sLRun) (defBody sLRun) (defScope sLRun) .none kVf9 dcf9 pmf9 anf9 cdf9 ctf9), slf9⟩)
    (cf9 : PySem.W.codeIn K cdf9 "_law_run" = true)
    (kf9 : PySem.W.keepIn K (.ref af9) = true)
    (nf10 : PySem.W.nsIn K mainGlobals "is_number" = some (some (.ref af10)))
    (lf10 : K.lookup af10 = some ⟨ocf10, odf10, .func (PySem.W.fnOf "is_number" "is_number" (defArgs sIsNumber) (defBody sIsNumber) (defScope sIsNumber) .none kVf10 dcf10 pmf10 anf10 cdf10 ctf10), slf10⟩)
    (cf10 : PySem.W.codeIn K cdf10 "is_number" = true)
    (kf10 : PySem.W.keepIn K (.ref af10) = true)
    (nf11 : PySem.W.nsIn K mainGlobals "is_between" = some (some (.ref af11)))
    (lf11 : K.lookup af11 = some ⟨ocf11, odf11, .func (PySem.W.fnOf "is_between" "is_between" (defArgs sIsBetween) (defBody sIsBetween) (defScope sIsBetween) .none kVf11 dcf11 pmf11 anf11 cdf11 ctf11), slf11⟩)
    (cf11 : PySem.W.codeIn K cdf11 "is_between" = true)
    (kf11 : PySem.W.keepIn K (.ref af11) = true)
    (nf12 : PySem.W.nsIn K mainGlobals "part" = some (some (.ref af12)))
    (lf12 : K.lookup af12 = some ⟨ocf12, odf12, .func (PySem.W.fnOf "part" "part" (defArgs sPart) (defBody sPart) (defScope sPart) .none kVf12 dcf12 pmf12 anf12 cdf12 ctf12), slf12⟩)
    (cf12 : PySem.W.codeIn K cdf12 "part" = true)
    (kf12 : PySem.W.keepIn K (.ref af12) = true)
    (nf13 : PySem.W.nsIn K mainGlobals "check_worths" = some (some (.ref af13)))
    (lf13 : K.lookup af13 = some ⟨ocf13, odf13, .func (PySem.W.fnOf "check_worths" "check_worths" (defArgs sCheckWorths) (defBody sCheckWorths) (defScope sCheckWorths) .none kVf13 dcf13 pmf13 anf13 cdf13 ctf13), slf13⟩)
    (cf13 : PySem.W.codeIn K cdf13 "check_worths" = true)
    (kf13 : PySem.W.keepIn K (.ref af13) = true)
    (nf14 : PySem.W.nsIn K mainGlobals "check_fuel" = some (some (.ref af14)))
    (lf14 : K.lookup af14 = some ⟨ocf14, odf14, .func (PySem.W.fnOf "check_fuel" "check_fuel" (defArgs sCheckFuel) (defBody sCheckFuel) (defScope sCheckFuel) .none kVf14 dcf14 pmf14 anf14 cdf14 ctf14), slf14⟩)
    (cf14 : PySem.W.codeIn K cdf14 "check_fuel" = true)
    (kf14 : PySem.W.keepIn K (.ref af14) = true)
    (nf15 : PySem.W.nsIn K mainGlobals "on_desk" = some (some (.ref af15)))
    (lf15 : K.lookup af15 = some ⟨ocf15, odf15, .func (PySem.W.fnOf "on_desk" "on_desk" (defArgs sOnDesk) (defBody sOnDesk) (defScope sOnDesk) .none kVf15 dcf15 pmf15 anf15 cdf15 ctf15), slf15⟩)
    (cf15 : PySem.W.codeIn K cdf15 "on_desk" = true)
    (kf15 : PySem.W.keepIn K (.ref af15) = true)
    (nf16 : PySem.W.nsIn K mainGlobals "has_shape" = some (some (.ref af16)))
    (lf16 : K.lookup af16 = some ⟨ocf16, odf16, .func (PySem.W.fnOf "has_shape" "has_shape" (defArgs sHasShape) (defBody sHasShape) (defScope sHasShape) .none kVf16 dcf16 pmf16 anf16 cdf16 ctf16), slf16⟩)
    (cf16 : PySem.W.codeIn K cdf16 "has_shape" = true)
    (kf16 : PySem.W.keepIn K (.ref af16) = true)
    (nf17 : PySem.W.nsIn K mainGlobals "check_row" = some (some (.ref af17)))
    (lf17 : K.lookup af17 = some ⟨ocf17, odf17, .func (PySem.W.fnOf "check_row" "check_row" (defArgs sCheckRow) (defBody sCheckRow) (defScope sCheckRow) .none kVf17 dcf17 pmf17 anf17 cdf17 ctf17), slf17⟩)
    (cf17 : PySem.W.codeIn K cdf17 "check_row" = true)
    (kf17 : PySem.W.keepIn K (.ref af17) = true)
    (nf18 : PySem.W.nsIn K mainGlobals "check_program" = some (some (.ref af18)))
    (lf18 : K.lookup af18 = some ⟨ocf18, odf18, .func (PySem.W.fnOf "check_program" "check_program" (defArgs sCheckProgram) (defBody sCheckProgram) (defScope sCheckProgram) .none kVf18 dcf18 pmf18 anf18 cdf18 ctf18), slf18⟩)
    (cf18 : PySem.W.codeIn K cdf18 "check_program" = true)
    (kf18 : PySem.W.keepIn K (.ref af18) = true)
    (nf19 : PySem.W.nsIn K mainGlobals "uses_worth" = some (some (.ref af19)))
    (lf19 : K.lookup af19 = some ⟨ocf19, odf19, .func (PySem.W.fnOf "uses_worth" "uses_worth" (defArgs sUsesWorth) (defBody sUsesWorth) (defScope sUsesWorth) .none kVf19 dcf19 pmf19 anf19 cdf19 ctf19), slf19⟩)
    (cf19 : PySem.W.codeIn K cdf19 "uses_worth" = true)
    (kf19 : PySem.W.keepIn K (.ref af19) = true)
    (nf20 : PySem.W.nsIn K mainGlobals "run" = some (some (.ref af20)))
    (lf20 : K.lookup af20 = some ⟨ocf20, odf20, .func (PySem.W.fnOf "run" "run" (defArgs sPRun) (defBody sPRun) (defScope sPRun) .none kVf20 dcf20 pmf20 anf20 cdf20 ctf20), slf20⟩)
    (cf20 : PySem.W.codeIn K cdf20 "run" = true)
    (kf20 : PySem.W.keepIn K (.ref af20) = true)
    (nf21 : PySem.W.nsIn K mainGlobals "_law_laying" = some (some (.ref af21)))
    (lf21 : K.lookup af21 = some ⟨ocf21, odf21, .func (PySem.W.fnOf "_law_laying" "_law_laying" (defArgs sLaying) (defBody sLaying) (defScope sLaying) .none kVf21 dcf21 pmf21 anf21 cdf21 ctf21), slf21⟩)
    (cf21 : PySem.W.codeIn K cdf21 "_law_laying" = true)
    (kf21 : PySem.W.keepIn K (.ref af21) = true)
    (nf22 : PySem.W.nsIn K mainGlobals "check_wide" = some (some (.ref af22)))
    (lf22 : K.lookup af22 = some ⟨ocf22, odf22, .func (PySem.W.fnOf "check_wide" "check_wide" (defArgs sCheckWide) (defBody sCheckWide) (defScope sCheckWide) .none kVf22 dcf22 pmf22 anf22 cdf22 ctf22), slf22⟩)
    (cf22 : PySem.W.codeIn K cdf22 "check_wide" = true)
    (kf22 : PySem.W.keepIn K (.ref af22) = true)
    (nf23 : PySem.W.nsIn K mainGlobals "check_places" = some (some (.ref af23)))
    (lf23 : K.lookup af23 = some ⟨ocf23, odf23, .func (PySem.W.fnOf "check_places" "check_places" (defArgs sCheckPlaces) (defBody sCheckPlaces) (defScope sCheckPlaces) .none kVf23 dcf23 pmf23 anf23 cdf23 ctf23), slf23⟩)
    (cf23 : PySem.W.codeIn K cdf23 "check_places" = true)
    (kf23 : PySem.W.keepIn K (.ref af23) = true)
    (nf24 : PySem.W.nsIn K mainGlobals "check_homes" = some (some (.ref af24)))
    (lf24 : K.lookup af24 = some ⟨ocf24, odf24, .func (PySem.W.fnOf "check_homes" "check_homes" (defArgs sCheckHomes) (defBody sCheckHomes) (defScope sCheckHomes) .none kVf24 dcf24 pmf24 anf24 cdf24 ctf24), slf24⟩)
    (cf24 : PySem.W.codeIn K cdf24 "check_homes" = true)
    (kf24 : PySem.W.keepIn K (.ref af24) = true)
    (nf25 : PySem.W.nsIn K mainGlobals "are_homes" = some (some (.ref af25)))
    (lf25 : K.lookup af25 = some ⟨ocf25, odf25, .func (PySem.W.fnOf "are_homes" "are_homes" (defArgs sAreHomes) (defBody sAreHomes) (defScope sAreHomes) .none kVf25 dcf25 pmf25 anf25 cdf25 ctf25), slf25⟩)
    (cf25 : PySem.W.codeIn K cdf25 "are_homes" = true)
    (kf25 : PySem.W.keepIn K (.ref af25) = true)
    (nf26 : PySem.W.nsIn K mainGlobals "check_laying" = some (some (.ref af26)))
    (lf26 : K.lookup af26 = some ⟨ocf26, odf26, .func (PySem.W.fnOf "check_laying" "check_laying" (defArgs sCheckLaying) (defBody sCheckLaying) (defScope sCheckLaying) .none kVf26 dcf26 pmf26 anf26 cdf26 ctf26), slf26⟩)
    (cf26 : PySem.W.codeIn K cdf26 "check_laying" = true)
    (kf26 : PySem.W.keepIn K (.ref af26) = true)
    (nf27 : PySem.W.nsIn K mainGlobals "nexts" = some (some (.ref af27)))
    (lf27 : K.lookup af27 = some ⟨ocf27, odf27, .func (PySem.W.fnOf "nexts" "nexts" (defArgs sNexts) (defBody sNexts) (defScope sNexts) .none kVf27 dcf27 pmf27 anf27 cdf27 ctf27), slf27⟩)
    (cf27 : PySem.W.codeIn K cdf27 "nexts" = true)
    (kf27 : PySem.W.keepIn K (.ref af27) = true)
    (nf28 : PySem.W.nsIn K mainGlobals "rows_ahead" = some (some (.ref af28)))
    (lf28 : K.lookup af28 = some ⟨ocf28, odf28, .func (PySem.W.fnOf "rows_ahead" "rows_ahead" (defArgs sAhead) (defBody sAhead) (defScope sAhead) .none kVf28 dcf28 pmf28 anf28 cdf28 ctf28), slf28⟩)
    (cf28 : PySem.W.codeIn K cdf28 "rows_ahead" = true)
    (kf28 : PySem.W.keepIn K (.ref af28) = true)
    (nf29 : PySem.W.nsIn K mainGlobals "goes_that_may_be" = some (some (.ref af29)))
    (lf29 : K.lookup af29 = some ⟨ocf29, odf29, .func (PySem.W.fnOf "goes_that_may_be" "goes_that_may_be" (defArgs sGoesMay) (defBody sGoesMay) (defScope sGoesMay) .none kVf29 dcf29 pmf29 anf29 cdf29 ctf29), slf29⟩)
    (cf29 : PySem.W.codeIn K cdf29 "goes_that_may_be" = true)
    (kf29 : PySem.W.keepIn K (.ref af29) = true)
    (nf30 : PySem.W.nsIn K mainGlobals "first_beat" = some (some (.ref af30)))
    (lf30 : K.lookup af30 = some ⟨ocf30, odf30, .func (PySem.W.fnOf "first_beat" "first_beat" (defArgs sFirstBeat) (defBody sFirstBeat) (defScope sFirstBeat) .none kVf30 dcf30 pmf30 anf30 cdf30 ctf30), slf30⟩)
    (cf30 : PySem.W.codeIn K cdf30 "first_beat" = true)
    (kf30 : PySem.W.keepIn K (.ref af30) = true)
    (nf31 : PySem.W.nsIn K mainGlobals "beats_of_use" = some (some (.ref af31)))
    (lf31 : K.lookup af31 = some ⟨ocf31, odf31, .func (PySem.W.fnOf "beats_of_use" "beats_of_use" (defArgs sBeatsOfUse) (defBody sBeatsOfUse) (defScope sBeatsOfUse) .none kVf31 dcf31 pmf31 anf31 cdf31 ctf31), slf31⟩)
    (cf31 : PySem.W.codeIn K cdf31 "beats_of_use" = true)
    (kf31 : PySem.W.keepIn K (.ref af31) = true)
    (nf32 : PySem.W.nsIn K mainGlobals "beat_of_use" = some (some (.ref af32)))
    (lf32 : K.lookup af32 = some ⟨ocf32, odf32, .func (PySem.W.fnOf "beat_of_use" "beat_of_use" (defArgs sBeatOfUse) (defBody sBeatOfUse) (defScope sBeatOfUse) .none kVf32 dcf32 pmf32 anf32 cdf32 ctf32), slf32⟩)
    (cf32 : PySem.W.codeIn K cdf32 "beat_of_use" = true)
    (kf32 : PySem.W.keepIn K (.ref af32) = true)
    (nf33 : PySem.W.nsIn K mainGlobals "beat_behind" = some (some (.ref af33)))
    (lf33 : K.lookup af33 = some ⟨ocf33, odf33, .func (PySem.W.fnOf "beat_behind" "beat_behind" (defArgs sBeatBehind) (defBody sBeatBehind) (defScope sBeatBehind) .none kVf33 dcf33 pmf33 anf33 cdf33 ctf33), slf33⟩)
    (cf33 : PySem.W.codeIn K cdf33 "beat_behind" = true)
    (kf33 : PySem.W.keepIn K (.ref af33) = true)
    (nf34 : PySem.W.nsIn K mainGlobals "cost" = some (some (.ref af34)))
    (lf34 : K.lookup af34 = some ⟨ocf34, odf34, .func (PySem.W.fnOf "cost" "cost" (defArgs sCost) (defBody sCost) (defScope sCost) .none kVf34 dcf34 pmf34 anf34 cdf34 ctf34), slf34⟩)
    (cf34 : PySem.W.codeIn K cdf34 "cost" = true)
    (kf34 : PySem.W.keepIn K (.ref af34) = true)
    (nf35 : PySem.W.nsIn K mainGlobals "costs" = some (some (.ref af35)))
    (lf35 : K.lookup af35 = some ⟨ocf35, odf35, .func (PySem.W.fnOf "costs" "costs" (defArgs sCosts) (defBody sCosts) (defScope sCosts) .none kVf35 dcf35 pmf35 anf35 cdf35 ctf35), slf35⟩)
    (cf35 : PySem.W.codeIn K cdf35 "costs" = true)
    (kf35 : PySem.W.keepIn K (.ref af35) = true)
    (nf36 : PySem.W.nsIn K mainGlobals "_law_ended" = some (some (.ref af36)))
    (lf36 : K.lookup af36 = some ⟨ocf36, odf36, .func (PySem.W.fnOf "_law_ended" "_law_ended" (defArgs sEnded) (defBody sEnded) (defScope sEnded) .none kVf36 dcf36 pmf36 anf36 cdf36 ctf36), slf36⟩)
    (cf36 : PySem.W.codeIn K cdf36 "_law_ended" = true)
    (kf36 : PySem.W.keepIn K (.ref af36) = true)
    (nf37 : PySem.W.nsIn K mainGlobals "is_go" = some (some (.ref af37)))
    (lf37 : K.lookup af37 = some ⟨ocf37, odf37, .func (PySem.W.fnOf "is_go" "is_go" (defArgs sIsGo) (defBody sIsGo) (defScope sIsGo) .none kVf37 dcf37 pmf37 anf37 cdf37 ctf37), slf37⟩)
    (cf37 : PySem.W.codeIn K cdf37 "is_go" = true)
    (kf37 : PySem.W.keepIn K (.ref af37) = true)
    (nf38 : PySem.W.nsIn K mainGlobals "rows_found" = some (some (.ref af38)))
    (lf38 : K.lookup af38 = some ⟨ocf38, odf38, .func (PySem.W.fnOf "rows_found" "rows_found" (defArgs sRowsFound) (defBody sRowsFound) (defScope sRowsFound) .none kVf38 dcf38 pmf38 anf38 cdf38 ctf38), slf38⟩)
    (cf38 : PySem.W.codeIn K cdf38 "rows_found" = true)
    (kf38 : PySem.W.keepIn K (.ref af38) = true)
    (nf39 : PySem.W.nsIn K mainGlobals "goes_agree" = some (some (.ref af39)))
    (lf39 : K.lookup af39 = some ⟨ocf39, odf39, .func (PySem.W.fnOf "goes_agree" "goes_agree" (defArgs sGoesAgree) (defBody sGoesAgree) (defScope sGoesAgree) .none kVf39 dcf39 pmf39 anf39 cdf39 ctf39), slf39⟩)
    (cf39 : PySem.W.codeIn K cdf39 "goes_agree" = true)
    (kf39 : PySem.W.keepIn K (.ref af39) = true)
    (nf40 : PySem.W.nsIn K mainGlobals "check_goes" = some (some (.ref af40)))
    (lf40 : K.lookup af40 = some ⟨ocf40, odf40, .func (PySem.W.fnOf "check_goes" "check_goes" (defArgs sCheckGoes) (defBody sCheckGoes) (defScope sCheckGoes) .none kVf40 dcf40 pmf40 anf40 cdf40 ctf40), slf40⟩)
    (cf40 : PySem.W.codeIn K cdf40 "check_goes" = true)
    (kf40 : PySem.W.keepIn K (.ref af40) = true)
    (nf41 : PySem.W.nsIn K mainGlobals "beats_by" = some (some (.ref af41)))
    (lf41 : K.lookup af41 = some ⟨ocf41, odf41, .func (PySem.W.fnOf "beats_by" "beats_by" (defArgs sBeatsBy) (defBody sBeatsBy) (defScope sBeatsBy) .none kVf41 dcf41 pmf41 anf41 cdf41 ctf41), slf41⟩)
    (cf41 : PySem.W.codeIn K cdf41 "beats_by" = true)
    (kf41 : PySem.W.keepIn K (.ref af41) = true)
    (nf42 : PySem.W.nsIn K mainGlobals "times_done" = some (some (.ref af42)))
    (lf42 : K.lookup af42 = some ⟨ocf42, odf42, .func (PySem.W.fnOf "times_done" "times_done" (defArgs sTimes) (defBody sTimes) (defScope sTimes) .none kVf42 dcf42 pmf42 anf42 cdf42 ctf42), slf42⟩)
    (cf42 : PySem.W.codeIn K cdf42 "times_done" = true)
    (kf42 : PySem.W.keepIn K (.ref af42) = true)
    (nf43 : PySem.W.nsIn K mainGlobals "core_worths" = some (some (.ref af43)))
    (lf43 : K.lookup af43 = some ⟨ocf43, odf43, .func (PySem.W.fnOf "core_worths" "core_worths" (defArgs sCoreW) (defBody sCoreW) (defScope sCoreW) .none kVf43 dcf43 pmf43 anf43 cdf43 ctf43), slf43⟩)
    (cf43 : PySem.W.codeIn K cdf43 "core_worths" = true)
    (kf43 : PySem.W.keepIn K (.ref af43) = true)
    (nf44 : PySem.W.nsIn K mainGlobals "core_rows" = some (some (.ref af44)))
    (lf44 : K.lookup af44 = some ⟨ocf44, odf44, .func (PySem.W.fnOf "core_rows" "core_rows" (defArgs sCoreR) (defBody sCoreR) (defScope sCoreR) .none kVf44 dcf44 pmf44 anf44 cdf44 ctf44), slf44⟩)
    (cf44 : PySem.W.codeIn K cdf44 "core_rows" = true)
    (kf44 : PySem.W.keepIn K (.ref af44) = true)
    (nf45 : PySem.W.nsIn K mainGlobals "cores" = some (some (.ref af45)))
    (lf45 : K.lookup af45 = some ⟨ocf45, odf45, .func (PySem.W.fnOf "cores" "cores" (defArgs sCores) (defBody sCores) (defScope sCores) .none kVf45 dcf45 pmf45 anf45 cdf45 ctf45), slf45⟩)
    (cf45 : PySem.W.codeIn K cdf45 "cores" = true)
    (kf45 : PySem.W.keepIn K (.ref af45) = true)
    (nf46 : PySem.W.nsIn K mainGlobals "core_places" = some (some (.ref af46)))
    (lf46 : K.lookup af46 = some ⟨ocf46, odf46, .func (PySem.W.fnOf "core_places" "core_places" (defArgs sCoreP) (defBody sCoreP) (defScope sCoreP) .none kVf46 dcf46 pmf46 anf46 cdf46 ctf46), slf46⟩)
    (cf46 : PySem.W.codeIn K cdf46 "core_places" = true)
    (kf46 : PySem.W.keepIn K (.ref af46) = true)
    (nf47 : PySem.W.nsIn K mainGlobals "homes_of" = some (some (.ref af47)))
    (lf47 : K.lookup af47 = some ⟨ocf47, odf47, .func (PySem.W.fnOf "homes_of" "homes_of" (defArgs sHomesOf) (defBody sHomesOf) (defScope sHomesOf) .none kVf47 dcf47 pmf47 anf47 cdf47 ctf47), slf47⟩)
    (cf47 : PySem.W.codeIn K cdf47 "homes_of" = true)
    (kf47 : PySem.W.keepIn K (.ref af47) = true)
    (nf48 : PySem.W.nsIn K mainGlobals "rows_at" = some (some (.ref af48)))
    (lf48 : K.lookup af48 = some ⟨ocf48, odf48, .func (PySem.W.fnOf "rows_at" "rows_at" (defArgs sRowsAt) (defBody sRowsAt) (defScope sRowsAt) .none kVf48 dcf48 pmf48 anf48 cdf48 ctf48), slf48⟩)
    (cf48 : PySem.W.codeIn K cdf48 "rows_at" = true)
    (kf48 : PySem.W.keepIn K (.ref af48) = true)
    (nf49 : PySem.W.nsIn K mainGlobals "links_beside_core" = some (some (.ref af49)))
    (lf49 : K.lookup af49 = some ⟨ocf49, odf49, .func (PySem.W.fnOf "links_beside_core" "links_beside_core" (defArgs sLinks) (defBody sLinks) (defScope sLinks) .none kVf49 dcf49 pmf49 anf49 cdf49 ctf49), slf49⟩)
    (cf49 : PySem.W.codeIn K cdf49 "links_beside_core" = true)
    (kf49 : PySem.W.keepIn K (.ref af49) = true)
    (nf50 : PySem.W.nsIn K mainGlobals "laid" = some (some (.ref af50)))
    (lf50 : K.lookup af50 = some ⟨ocf50, odf50, .func (PySem.W.fnOf "laid" "laid" (defArgs sLaid) (defBody sLaid) (defScope sLaid) .none kVf50 dcf50 pmf50 anf50 cdf50 ctf50), slf50⟩)
    (cf50 : PySem.W.codeIn K cdf50 "laid" = true)
    (kf50 : PySem.W.keepIn K (.ref af50) = true)
    (nf51 : PySem.W.nsIn K mainGlobals "check_wide_and_goes" = some (some (.ref af51)))
    (lf51 : K.lookup af51 = some ⟨ocf51, odf51, .func (PySem.W.fnOf "check_wide_and_goes" "check_wide_and_goes" (defArgs sCheckWG) (defBody sCheckWG) (defScope sCheckWG) .none kVf51 dcf51 pmf51 anf51 cdf51 ctf51), slf51⟩)
    (cf51 : PySem.W.codeIn K cdf51 "check_wide_and_goes" = true)
    (kf51 : PySem.W.keepIn K (.ref af51) = true)
    (nf52 : PySem.W.nsIn K mainGlobals "best" = some (some (.ref af52)))
    (lf52 : K.lookup af52 = some ⟨ocf52, odf52, .func (PySem.W.fnOf "best" "best" (defArgs sBest) (defBody sBest) (defScope sBest) .none kVf52 dcf52 pmf52 anf52 cdf52 ctf52), slf52⟩)
    (cf52 : PySem.W.codeIn K cdf52 "best" = true)
    (kf52 : PySem.W.keepIn K (.ref af52) = true)
    (nf53 : PySem.W.nsIn K mainGlobals "spun" = some (some (.ref af53)))
    (lf53 : K.lookup af53 = some ⟨ocf53, odf53, .func (PySem.W.fnOf "spun" "spun" (defArgs sSpun) (defBody sSpun) (defScope sSpun) .none kVf53 dcf53 pmf53 anf53 cdf53 ctf53), slf53⟩)
    (cf53 : PySem.W.codeIn K cdf53 "spun" = true)
    (kf53 : PySem.W.keepIn K (.ref af53) = true)
    (nf54 : PySem.W.nsIn K mainGlobals "_law_otherwise" = some (some (.ref af54)))
    (lf54 : K.lookup af54 = some ⟨ocf54, odf54, .func (PySem.W.fnOf "_law_otherwise" "_law_otherwise" (defArgs sOtherwise) (defBody sOtherwise) (defScope sOtherwise) .none kVf54 dcf54 pmf54 anf54 cdf54 ctf54), slf54⟩)
    (cf54 : PySem.W.codeIn K cdf54 "_law_otherwise" = true)
    (kf54 : PySem.W.keepIn K (.ref af54) = true)
    (nf55 : PySem.W.nsIn K mainGlobals "_law_dice" = some (some (.ref af55)))
    (lf55 : K.lookup af55 = some ⟨ocf55, odf55, .func (PySem.W.fnOf "_law_dice" "_law_dice" (defArgs sDice) (defBody sDice) (defScope sDice) .none kVf55 dcf55 pmf55 anf55 cdf55 ctf55), slf55⟩)
    (cf55 : PySem.W.codeIn K cdf55 "_law_dice" = true)
    (kf55 : PySem.W.keepIn K (.ref af55) = true)
    (nf56 : PySem.W.nsIn K mainGlobals "_law_told" = some (some (.ref af56)))
    (lf56 : K.lookup af56 = some ⟨ocf56, odf56, .func (PySem.W.fnOf "_law_told" "_law_told" (defArgs sTold) (defBody sTold) (defScope sTold) .none kVf56 dcf56 pmf56 anf56 cdf56 ctf56), slf56⟩)
    (cf56 : PySem.W.codeIn K cdf56 "_law_told" = true)
    (kf56 : PySem.W.keepIn K (.ref af56) = true)
    (nf57 : PySem.W.nsIn K mainGlobals "law" = some (some (.ref af57)))
    (lf57 : K.lookup af57 = some ⟨ocf57, odf57, .func (PySem.W.fnOf "law" "law" (defArgs sLaw) (defBody sLaw) (defScope sLaw) .none kVf57 dcf57 pmf57 anf57 (.ref cc) ctf57), slf57⟩)
    (cf57 : PySem.W.codeIn K (.ref cc) "law" = true)
    (kf57 : PySem.W.keepIn K (.ref af57) = true)
    (nCC : PySem.W.nsIn K mainGlobals "Desk" = some (some (.ref C)))
    (nmC0 : PySem.W.findIn K (.ref C) "__init__" = some (some (.ref amC0)))
    (imC0 : PySem.W.isFn K (.ref amC0) = true)
    (lmC0 : K.lookup amC0 = some ⟨ocmC0, odmC0, .func (PySem.W.fnOf "__init__" "Desk.__init__" (defArgs sDInit) (defBody sDInit) (defScope sDInit) .none kVmC0 dcmC0 pmmC0 anmC0 cdmC0 ctmC0), slmC0⟩)
    (cmC0 : PySem.W.codeIn K cdmC0 "Desk.__init__" = true)
    (kmC0 : PySem.W.keepIn K (.ref amC0) = true)
    (nmC1 : PySem.W.findIn K (.ref C) "step" = some (some (.ref amC1)))
    (imC1 : PySem.W.isFn K (.ref amC1) = true)
    (lmC1 : K.lookup amC1 = some ⟨ocmC1, odmC1, .func (PySem.W.fnOf "step" "Desk.step" (defArgs sDStep) (defBody sDStep) (defScope sDStep) .none kVmC1 dcmC1 pmmC1 anmC1 cdmC1 ctmC1), slmC1⟩)
    (cmC1 : PySem.W.codeIn K cdmC1 "Desk.step" = true)
    (kmC1 : PySem.W.keepIn K (.ref amC1) = true)
    (nmC2 : PySem.W.findIn K (.ref C) "use" = some (some (.ref amC2)))
    (imC2 : PySem.W.isFn K (.ref amC2) = true)
    (lmC2 : K.lookup amC2 = some ⟨ocmC2, odmC2, .func (PySem.W.fnOf "use" "Desk.use" (defArgs sDUse) (defBody sDUse) (defScope sDUse) .none kVmC2 dcmC2 pmmC2 anmC2 cdmC2 ctmC2), slmC2⟩)
    (cmC2 : PySem.W.codeIn K cdmC2 "Desk.use" = true)
    (kmC2 : PySem.W.keepIn K (.ref amC2) = true)
    (nmC3 : PySem.W.findIn K (.ref C) "onward" = some (some (.ref amC3)))
    (imC3 : PySem.W.isFn K (.ref amC3) = true)
    (lmC3 : K.lookup amC3 = some ⟨ocmC3, odmC3, .func (PySem.W.fnOf "onward" "Desk.onward" (defArgs sDOnward) (defBody sDOnward) (defScope sDOnward) .none kVmC3 dcmC3 pmmC3 anmC3 cdmC3 ctmC3), slmC3⟩)
    (cmC3 : PySem.W.codeIn K cdmC3 "Desk.onward" = true)
    (kmC3 : PySem.W.keepIn K (.ref amC3) = true)
    (pgC : PySem.W.plainGet K C Str.empty = true)
    (hdC : PySem.W.hasDictIn K C = true)
    (poC : PySem.W.plainOver K C = true)
    (saC : PySem.W.findIn K (.ref C) "__setattr__" = some (some (.builtin "object.__setattr__")))
    (mkC : PySem.W.makesIn K C = true)
    (kcC : PySem.W.keepIn K (.ref C) = true)
    (zC_number : PySem.W.findIn K (.ref C) "number" = some none)
    (zC_worths : PySem.W.findIn K (.ref C) "worths" = some none)
    (zC_said : PySem.W.findIn K (.ref C) "said" = some none)
    (nCU : PySem.W.nsIn K mainGlobals "Drum" = some (some (.ref U)))
    (nmU0 : PySem.W.findIn K (.ref U) "__init__" = some (some (.ref amU0)))
    (imU0 : PySem.W.isFn K (.ref amU0) = true)
    (lmU0 : K.lookup amU0 = some ⟨ocmU0, odmU0, .func (PySem.W.fnOf "__init__" "Drum.__init__" (defArgs sUInit) (defBody sUInit) (defScope sUInit) .none kVmU0 dcmU0 pmmU0 anmU0 cdmU0 ctmU0), slmU0⟩)
    (cmU0 : PySem.W.codeIn K cdmU0 "Drum.__init__" = true)
    (kmU0 : PySem.W.keepIn K (.ref amU0) = true)
    (nmU1 : PySem.W.findIn K (.ref U) "turn" = some (some (.ref amU1)))
    (imU1 : PySem.W.isFn K (.ref amU1) = true)
    (lmU1 : K.lookup amU1 = some ⟨ocmU1, odmU1, .func (PySem.W.fnOf "turn" "Drum.turn" (defArgs sUTurn) (defBody sUTurn) (defScope sUTurn) .none kVmU1 dcmU1 pmmU1 anmU1 cdmU1 ctmU1), slmU1⟩)
    (cmU1 : PySem.W.codeIn K cdmU1 "Drum.turn" = true)
    (kmU1 : PySem.W.keepIn K (.ref amU1) = true)
    (nmU2 : PySem.W.findIn K (.ref U) "beat" = some (some (.ref amU2)))
    (imU2 : PySem.W.isFn K (.ref amU2) = true)
    (lmU2 : K.lookup amU2 = some ⟨ocmU2, odmU2, .func (PySem.W.fnOf "beat" "Drum.beat" (defArgs sUBeat) (defBody sUBeat) (defScope sUBeat) .none kVmU2 dcmU2 pmmU2 anmU2 cdmU2 ctmU2), slmU2⟩)
    (cmU2 : PySem.W.codeIn K cdmU2 "Drum.beat" = true)
    (kmU2 : PySem.W.keepIn K (.ref amU2) = true)
    (nmU3 : PySem.W.findIn K (.ref U) "says" = some (some (.ref amU3)))
    (imU3 : PySem.W.isFn K (.ref amU3) = true)
    (lmU3 : K.lookup amU3 = some ⟨ocmU3, odmU3, .func (PySem.W.fnOf "says" "Drum.says" (defArgs sUSays) (defBody sUSays) (defScope sUSays) .none kVmU3 dcmU3 pmmU3 anmU3 cdmU3 ctmU3), slmU3⟩)
    (cmU3 : PySem.W.codeIn K cdmU3 "Drum.says" = true)
    (kmU3 : PySem.W.keepIn K (.ref amU3) = true)
    (nmU4 : PySem.W.findIn K (.ref U) "is_over" = some (some (.ref amU4)))
    (imU4 : PySem.W.isFn K (.ref amU4) = true)
    (lmU4 : K.lookup amU4 = some ⟨ocmU4, odmU4, .func (PySem.W.fnOf "is_over" "Drum.is_over" (defArgs sUOver) (defBody sUOver) (defScope sUOver) .none kVmU4 dcmU4 pmmU4 anmU4 cdmU4 ctmU4), slmU4⟩)
    (cmU4 : PySem.W.codeIn K cdmU4 "Drum.is_over" = true)
    (kmU4 : PySem.W.keepIn K (.ref amU4) = true)
    (pgU : PySem.W.plainGet K U Str.empty = true)
    (hdU : PySem.W.hasDictIn K U = true)
    (poU : PySem.W.plainOver K U = true)
    (saU : PySem.W.findIn K (.ref U) "__setattr__" = some (some (.builtin "object.__setattr__")))
    (mkU : PySem.W.makesIn K U = true)
    (kcU : PySem.W.keepIn K (.ref U) = true)
    (zU_rows : PySem.W.findIn K (.ref U) "rows" = some none)
    (zU_laying : PySem.W.findIn K (.ref U) "laying" = some none)
    (zU_desk : PySem.W.findIn K (.ref U) "desk" = some none)
    (zU_row : PySem.W.findIn K (.ref U) "row" = some none)
    (zU_now : PySem.W.findIn K (.ref U) "now" = some none)
    (mBP : PySem.W.nsIn K mainGlobals "BadProgram" = some (some (.ref eBP)))
    (mBL : PySem.W.nsIn K mainGlobals "BadLaying" = some (some (.ref eBL)))
    (mBF : PySem.W.nsIn K mainGlobals "BadFuel" = some (some (.ref eBF)))
    (mBG : PySem.W.nsIn K mainGlobals "BadGoes" = some (some (.ref eBG)))
    (mBE : PySem.W.nsIn K mainGlobals "BadPaper" = some (some (.ref eBE)))
    (mTM_ : PySem.W.nsIn K mainGlobals "TooMany" = some (some (.ref eTM_)))
    (mOV : PySem.W.nsIn K mainGlobals "Over" = some (some (.ref eOV)))
    (mBT : PySem.W.nsIn K mainGlobals "BadText" = some (some (.ref eBT)))
    (mDE : PySem.W.nsIn K mainGlobals "DrumError" = some (some (.ref eDE)))
    (b_ValueError : PySem.W.nsIn K mainGlobals "ValueError" = some none)
    (iBP : PySem.W.isClsIn K eBP = true)
    (tBP : PySem.W.typeIn K (.ref eBP) = some (.type "type"))
    (iBL : PySem.W.isClsIn K eBL = true)
    (tBL : PySem.W.typeIn K (.ref eBL) = some (.type "type"))
    (iBF : PySem.W.isClsIn K eBF = true)
    (tBF : PySem.W.typeIn K (.ref eBF) = some (.type "type"))
    (iBG : PySem.W.isClsIn K eBG = true)
    (tBG : PySem.W.typeIn K (.ref eBG) = some (.type "type"))
    (iBE : PySem.W.isClsIn K eBE = true)
    (tBE : PySem.W.typeIn K (.ref eBE) = some (.type "type"))
    (iTM_ : PySem.W.isClsIn K eTM_ = true)
    (tTM_ : PySem.W.typeIn K (.ref eTM_) = some (.type "type"))
    (iOV : PySem.W.isClsIn K eOV = true)
    (tOV : PySem.W.typeIn K (.ref eOV) = some (.type "type"))
    (iBT : PySem.W.isClsIn K eBT = true)
    (tBT : PySem.W.typeIn K (.ref eBT) = some (.type "type"))
    (iDE : PySem.W.isClsIn K eDE = true)
    (tDE : PySem.W.typeIn K (.ref eDE) = some (.type "type"))
    (bDE : PySem.W.subIn K (.ref eDE) (.type "BaseException") = some true)
    (TM__hg : PySem.W.findIn K (.ref eTM_) "__getattribute__" = some (some (.builtin "BaseException.__getattribute__")))
    (TM__hk : PySem.W.findIn K (.ref eTM_) "__getattr__" = some none)
    (TM__hs : PySem.W.subIn K (.ref eTM_) (.type "BaseException") = some true)
    (TM__hd : PySem.W.hasDictIn K eTM_ = true)
    (TM__ha : PySem.W.findIn K (.ref eTM_) "__class__" = some (some (.builtin "object.__class__")))
    (TM__hn : PySem.W.specialIn K (.builtin "object.__class__") "__get__" = some (some (.builtin "getset_descriptor.__get__")))
    (TM__ht : PySem.W.takesIn K (.builtin "object.__class__") = some true)
    (TM__hm : PySem.W.mroIn K eTM_ (.type "object") = some true)
    (TM__sDE : PySem.W.subIn K (.ref eTM_) (.ref eDE) = some true)
    (TM__sVE : PySem.W.subIn K (.ref eTM_) (.type "ValueError") = some true)
    (TM__s0 : PySem.W.subIn K (.ref eTM_) (.ref eBP) = some false)
    (TM__s1 : PySem.W.subIn K (.ref eTM_) (.ref eBL) = some false)
    (TM__s2 : PySem.W.subIn K (.ref eTM_) (.ref eBF) = some false)
    (TM__s3 : PySem.W.subIn K (.ref eTM_) (.ref eBG) = some false)
    (TM__s4 : PySem.W.subIn K (.ref eTM_) (.ref eBE) = some false)
    (TM__s6 : PySem.W.subIn K (.ref eTM_) (.ref eOV) = some false)
    (TM__s7 : PySem.W.subIn K (.ref eTM_) (.ref eBT) = some false)
    (TM__n0 : (eTM_ == eBP) = false)
    (TM__n1 : (eTM_ == eBL) = false)
    (TM__n2 : (eTM_ == eBF) = false)
    (TM__n3 : (eTM_ == eBG) = false)
    (TM__n4 : (eTM_ == eBE) = false)
    (TM__n6 : (eTM_ == eOV) = false)
    (TM__n7 : (eTM_ == eBT) = false)
    (TM__rx : PySem.W.excIn K eTM_ [.type "ValueError", .type "Exception", .type "BaseException", .type "object"] "ValueError.__new__" = true)
    (TM__rk : PySem.W.keepIn K (.ref eTM_) = true)
    (TM__rt : PySem.W.typeIn K (.ref eTM_) = some (.type "type"))
    (cK : K.lookup cc = some ⟨.type "code", ddc, .fields vsc, slc⟩)
    (c11 : vsc[11]? = some (.ref tP))
    (g11 : vsc.getD 11 .none = .ref tP)
    (g18 : vsc.getD 18 .none = .str file18 tf18)
    (g7 : vsc.getD 7 .none = .int fl7 tg7)
    (g9 : vsc.getD 9 .none = .bool in9)
    (g10 : vsc.getD 10 .none = .int tx10 tt10)
    (cP : (cc == tP) = false)
    (nP : K.lookup tP = none)
    (b_len : PySem.W.nsIn K mainGlobals "len" = some none)
    (b_int : PySem.W.nsIn K mainGlobals "int" = some none)
    (b_range : PySem.W.nsIn K mainGlobals "range" = some none)
    (b_isinstance : PySem.W.nsIn K mainGlobals "isinstance" = some none)
    (b_tuple : PySem.W.nsIn K mainGlobals "tuple" = some none)
    (b_list : PySem.W.nsIn K mainGlobals "list" = some none)
    (b_sorted : PySem.W.nsIn K mainGlobals "sorted" = some none)
    (b_sum : PySem.W.nsIn K mainGlobals "sum" = some none)
    (b_max : PySem.W.nsIn K mainGlobals "max" = some none)
    (b_enumerate : PySem.W.nsIn K mainGlobals "enumerate" = some none)
    (b_zip : PySem.W.nsIn K mainGlobals "zip" = some none)
    (b_all : PySem.W.nsIn K mainGlobals "all" = some none)
    (b_bool : PySem.W.nsIn K mainGlobals "bool" = some none)
    (b_str : PySem.W.nsIn K mainGlobals "str" = some none)
    (b_set : PySem.W.nsIn K mainGlobals "set" = some none)
    (b_min : PySem.W.nsIn K mainGlobals "min" = some none)
    (b_dict : PySem.W.nsIn K mainGlobals "dict" = some none)
    (qW : PySem.W.nsIn K mainGlobals "MOST_WORTHS" = some (some (.int 8 tW)))
    (qR : PySem.W.nsIn K mainGlobals "MOST_ROWS" = some (some (.int 40 tR)))
    (qN : PySem.W.nsIn K mainGlobals "MOST_NUMBER" = some (some (.int 1000000 tN)))
    (qF : PySem.W.nsIn K mainGlobals "MOST_FUEL" = some (some (.int 5000 tF)))
    (qL : PySem.W.nsIn K mainGlobals "DESK_LOW" = some (some (.int (-1000000000) tL)))
    (qC : PySem.W.nsIn K mainGlobals "DESK_COUNT" = some (some (.int 2000000000 tC)))
    (q2 : PySem.W.nsIn K mainGlobals "LEAST_WIDE" = some (some (.int 2 t2)))
    (q24 : PySem.W.nsIn K mainGlobals "MOST_WIDE" = some (some (.int 24 t24)))
    (q3 : PySem.W.nsIn K mainGlobals "MOST_HOMES" = some (some (.int 3 t3)))
    (q5 : PySem.W.nsIn K mainGlobals "MOST_CORES" = some (some (.int 5000 t5)))
    (pD : PySem.W.nsIn K mainGlobals "PARTS" = some (some (.ref d)))
    (pL : K.lookup d = some ⟨.type "dict", none, .dict es n, #[]⟩)
    (pK : PySem.W.KeysLit w.params es.toList)
    (w_load : PySem.W.nsIn K d "load" = some (some (.ref p_load)))
    (u_load : K.lookup p_load = some ⟨.type "tuple", pd_load, .seq its_load pn_load, ps_load⟩)
    (v_load : Vals ((["worth", "next"] : List Str).map V.str) its_load.toList)
    (w_add : PySem.W.nsIn K d "add" = some (some (.ref p_add)))
    (u_add : K.lookup p_add = some ⟨.type "tuple", pd_add, .seq its_add pn_add, ps_add⟩)
    (v_add : Vals ((["worth", "next"] : List Str).map V.str) its_add.toList)
    (w_take : PySem.W.nsIn K d "take" = some (some (.ref p_take)))
    (u_take : K.lookup p_take = some ⟨.type "tuple", pd_take, .seq its_take pn_take, ps_take⟩)
    (v_take : Vals ((["worth", "next"] : List Str).map V.str) its_take.toList)
    (w_store : PySem.W.nsIn K d "store" = some (some (.ref p_store)))
    (u_store : K.lookup p_store = some ⟨.type "tuple", pd_store, .seq its_store pn_store, ps_store⟩)
    (v_store : Vals ((["worth", "next"] : List Str).map V.str) its_store.toList)
    (w_say : PySem.W.nsIn K d "say" = some (some (.ref p_say)))
    (u_say : K.lookup p_say = some ⟨.type "tuple", pd_say, .seq its_say pn_say, ps_say⟩)
    (v_say : Vals ((["next"] : List Str).map V.str) its_say.toList)
    (w_test : PySem.W.nsIn K d "test" = some (some (.ref p_test)))
    (u_test : K.lookup p_test = some ⟨.type "tuple", pd_test, .seq its_test pn_test, ps_test⟩)
    (v_test : Vals ((["next", "next"] : List Str).map V.str) its_test.toList)
    (w_stop : PySem.W.nsIn K d "stop" = some (some (.ref p_stop)))
    (u_stop : K.lookup p_stop = some ⟨.type "tuple", pd_stop, .seq its_stop pn_stop, ps_stop⟩)
    (v_stop : Vals (([] : List Str).map V.str) its_stop.toList)
    (lo : (d == sysModules) = false)
    (pW : PySem.W.nsIn K mainGlobals "WORK" = some (some (.ref e)))
    (pWL : K.lookup e = some ⟨.type "dict", none, .dict es2 n2, #[]⟩)
    (pWK : PySem.W.KeysLit w.params es2.toList)
    (x_load : PySem.W.nsIn K e "load" = some (some (.int 1 tx_load)))
    (x_add : PySem.W.nsIn K e "add" = some (some (.int 2 tx_add)))
    (x_take : PySem.W.nsIn K e "take" = some (some (.int 2 tx_take)))
    (x_store : PySem.W.nsIn K e "store" = some (some (.int 1 tx_store)))
    (x_say : PySem.W.nsIn K e "say" = some (some (.int 3 tx_say)))
    (x_test : PySem.W.nsIn K e "test" = some (some (.int 1 tx_test)))
    (x_stop : PySem.W.nsIn K e "stop" = some (some (.int 0 tx_stop)))
    (lo2 : (e == sysModules) = false)
    (own : LamX.OwnTab K fa h) :
    ∃ (fd : FuncData) (cs : List (Addr × Addr)) (sp : Sp), (∀ p ∈ cs, h.get? p.2 = some { cls := .none, data := .fields #[] }) ∧ (∀ p ∈ cs, K.lookup p.2 = none) ∧ (∀ p ∈ cs, PySem.W.CodeHd h p.1 p.2) ∧ (∀ (s : Shared) (u : Value), BindsTo s fd ⟨[u], []⟩ [("_law_script", u)]) ∧
    (∀ (H : Hp) (a : Addr) (ns : List Int), ns.length ≤ 63 → (∀ z ∈ ns, Builtin.Int.intBits z ≤ 1048576) → (∀ p ∈ cs, H p.2 = some (.tbl #[])) → SqL K H a (ns.map V.int) → sp [.ref a] H (fun v _ => v = .bl true) fun _ _ _ => False) ∧
    ∀ base : Heap, K.In base → base.Ns mainGlobals mg → (∀ p ∈ cs, LamX.TabB base mg p.1 p.2) → FnOk P w K mg base CX0 10 fa fd ["_law_script"] sp := by
  have e := hfa.symm.trans (PySem.W.mg_of X G nf57)
  cases e
  have Ff0 := fun_mk (st := sNext) lf0 cf0 kf0
  have bf0 := Ff0.binds (ps := ["_law_dice_here", "_law_many"]) fun _ _ _ _ _ _ us hl => match us, hl with | [_, _], _ => rfl
  let cNext : Fd K mg "_law_next" sNext ["_law_dice_here", "_law_many"] := ⟨_, _, Ff0, bf0, PySem.W.mg_of X G nf0⟩
  have Ff1 := fun_mk (st := sStraight) lf1 cf1 kf1
  have bf1 := Ff1.binds (ps := ["_law_d", "_law_at"]) fun _ _ _ _ _ _ us hl => match us, hl with | [_, _], _ => rfl
  let cStraight : Fd K mg "_law_straight" sStraight ["_law_d", "_law_at"] := ⟨_, _, Ff1, bf1, PySem.W.mg_of X G nf1⟩
  have Ff2 := fun_mk (st := sFork) lf2 cf2 kf2
  have bf2 := Ff2.binds (ps := ["_law_d", "_law_at"]) fun _ _ _ _ _ _ us hl => match us, hl with | [_, _], _ => rfl
  let cFork : Fd K mg "_law_fork" sFork ["_law_d", "_law_at"] := ⟨_, _, Ff2, bf2, PySem.W.mg_of X G nf2⟩
  have Ff3 := fun_mk (st := sBody) lf3 cf3 kf3
  have bf3 := Ff3.binds (ps := ["_law_d", "_law_at", "_law_deep"]) fun _ _ _ _ _ _ us hl => match us, hl with | [_, _, _], _ => rfl
  let cBody : Fd K mg "_law_body" sBody ["_law_d", "_law_at", "_law_deep"] := ⟨_, _, Ff3, bf3, PySem.W.mg_of X G nf3⟩
  have Ff4 := fun_mk (st := sMixed) lf4 cf4 kf4
  have bf4 := Ff4.binds (ps := ["_law_d", "_law_program"]) fun _ _ _ _ _ _ us hl => match us, hl with | [_, _], _ => rfl
  let cMixed : Fd K mg "_law_mixed" sMixed ["_law_d", "_law_program"] := ⟨_, _, Ff4, bf4, PySem.W.mg_of X G nf4⟩
  have Ff5 := fun_mk (st := sStopping) lf5 cf5 kf5
  have bf5 := Ff5.binds (ps := ["_law_d", "_law_deep"]) fun _ _ _ _ _ _ us hl => match us, hl with | [_, _], _ => rfl
  let cStopping : Fd K mg "_law_stopping" sStopping ["_law_d", "_law_deep"] := ⟨_, _, Ff5, bf5, PySem.W.mg_of X G nf5⟩
  have Ff6 := fun_mk (st := sAny) lf6 cf6 kf6
  have bf6 := Ff6.binds (ps := ["_law_d"]) fun _ _ _ _ _ _ us hl => match us, hl with | [_], _ => rfl
  let cAny : Fd K mg "_law_any" sAny ["_law_d"] := ⟨_, _, Ff6, bf6, PySem.W.mg_of X G nf6⟩
  have Ff7 := fun_mk (st := sRing) lf7 cf7 kf7
  have bf7 := Ff7.binds (ps := ["_law_number"]) fun _ _ _ _ _ _ us hl => match us, hl with | [_], _ => rfl
  let cRing : Fd K mg "_law_ring" sRing ["_law_number"] := ⟨_, _, Ff7, bf7, PySem.W.mg_of X G nf7⟩
  have Ff8 := fun_mk (st := sStep) lf8 cf8 kf8
  have bf8 := Ff8.binds (ps := ["_law_s", "_law_row"]) fun _ _ _ _ _ _ us hl => match us, hl with | [_, _], _ => rfl
  let cStep : Fd K mg "_law_step" sStep ["_law_s", "_law_row"] := ⟨_, _, Ff8, bf8, PySem.W.mg_of X G nf8⟩
  have Ff9 := fun_mk (st := sLRun) lf9 cf9 kf9
  have bf9 := Ff9.binds (ps := ["_law_program", "_law_fuel"]) fun _ _ _ _ _ _ us hl => match us, hl with | [_, _], _ => rfl
  let cLRun : Fd K mg "_law_run" sLRun ["_law_program", "_law_fuel"] := ⟨_, _, Ff9, bf9, PySem.W.mg_of X G nf9⟩
  have Ff10 := fun_mk (st := sIsNumber) lf10 cf10 kf10
  have bf10 := Ff10.binds (ps := ["thing"]) fun _ _ _ _ _ _ us hl => match us, hl with | [_], _ => rfl
  let cIsNumber : Fd K mg "is_number" sIsNumber ["thing"] := ⟨_, _, Ff10, bf10, PySem.W.mg_of X G nf10⟩
  have Ff11 := fun_mk (st := sIsBetween) lf11 cf11 kf11
  have bf11 := Ff11.binds (ps := ["thing", "low", "high"]) fun _ _ _ _ _ _ us hl => match us, hl with | [_, _, _], _ => rfl
  let cIsBetween : Fd K mg "is_between" sIsBetween ["thing", "low", "high"] := ⟨_, _, Ff11, bf11, PySem.W.mg_of X G nf11⟩
  have Ff12 := fun_mk (st := sPart) lf12 cf12 kf12
  have bf12 := Ff12.binds (ps := ["whole", "at"]) fun _ _ _ _ _ _ us hl => match us, hl with | [_, _], _ => rfl
  let cPart : Fd K mg "part" sPart ["whole", "at"] := ⟨_, _, Ff12, bf12, PySem.W.mg_of X G nf12⟩
  have Ff13 := fun_mk (st := sCheckWorths) lf13 cf13 kf13
  have bf13 := Ff13.binds (ps := ["worths"]) fun _ _ _ _ _ _ us hl => match us, hl with | [_], _ => rfl
  let cCheckWorths : Fd K mg "check_worths" sCheckWorths ["worths"] := ⟨_, _, Ff13, bf13, PySem.W.mg_of X G nf13⟩
  have Ff14 := fun_mk (st := sCheckFuel) lf14 cf14 kf14
  have bf14 := Ff14.binds (ps := ["fuel"]) fun _ _ _ _ _ _ us hl => match us, hl with | [_], _ => rfl
  let cCheckFuel : Fd K mg "check_fuel" sCheckFuel ["fuel"] := ⟨_, _, Ff14, bf14, PySem.W.mg_of X G nf14⟩
  have Ff15 := fun_mk (st := sOnDesk) lf15 cf15 kf15
  have bf15 := Ff15.binds (ps := ["number"]) fun _ _ _ _ _ _ us hl => match us, hl with | [_], _ => rfl
  let cOnDesk : Fd K mg "on_desk" sOnDesk ["number"] := ⟨_, _, Ff15, bf15, PySem.W.mg_of X G nf15⟩
  have Ff16 := fun_mk (st := sHasShape) lf16 cf16 kf16
  have bf16 := Ff16.binds (ps := ["row"]) fun _ _ _ _ _ _ us hl => match us, hl with | [_], _ => rfl
  let cHasShape : Fd K mg "has_shape" sHasShape ["row"] := ⟨_, _, Ff16, bf16, PySem.W.mg_of X G nf16⟩
  have Ff17 := fun_mk (st := sCheckRow) lf17 cf17 kf17
  have bf17 := Ff17.binds (ps := ["row", "number", "counts"]) fun _ _ _ _ _ _ us hl => match us, hl with | [_, _, _], _ => rfl
  let cCheckRow : Fd K mg "check_row" sCheckRow ["row", "number", "counts"] := ⟨_, _, Ff17, bf17, PySem.W.mg_of X G nf17⟩
  have Ff18 := fun_mk (st := sCheckProgram) lf18 cf18 kf18
  have bf18 := Ff18.binds (ps := ["program"]) fun _ _ _ _ _ _ us hl => match us, hl with | [_], _ => rfl
  let cCheckProgram : Fd K mg "check_program" sCheckProgram ["program"] := ⟨_, _, Ff18, bf18, PySem.W.mg_of X G nf18⟩
  have Ff19 := fun_mk (st := sUsesWorth) lf19 cf19 kf19
  have bf19 := Ff19.binds (ps := ["row"]) fun _ _ _ _ _ _ us hl => match us, hl with | [_], _ => rfl
  let cUsesWorth : Fd K mg "uses_worth" sUsesWorth ["row"] := ⟨_, _, Ff19, bf19, PySem.W.mg_of X G nf19⟩
  have Ff20 := fun_mk (st := sPRun) lf20 cf20 kf20
  have bf20 := Ff20.binds (ps := ["program", "fuel"]) fun _ _ _ _ _ _ us hl => match us, hl with | [_, _], _ => rfl
  let cPRun : Fd K mg "run" sPRun ["program", "fuel"] := ⟨_, _, Ff20, bf20, PySem.W.mg_of X G nf20⟩
  have Ff21 := fun_mk (st := sLaying) lf21 cf21 kf21
  have bf21 := Ff21.binds (ps := ["_law_d", "_law_program", "_law_most"]) fun _ _ _ _ _ _ us hl => match us, hl with | [_, _, _], _ => rfl
  let cLaying : Fd K mg "_law_laying" sLaying ["_law_d", "_law_program", "_law_most"] := ⟨_, _, Ff21, bf21, PySem.W.mg_of X G nf21⟩
  have Ff22 := fun_mk (st := sCheckWide) lf22 cf22 kf22
  have bf22 := Ff22.binds (ps := ["wide"]) fun _ _ _ _ _ _ us hl => match us, hl with | [_], _ => rfl
  let cCheckWide : Fd K mg "check_wide" sCheckWide ["wide"] := ⟨_, _, Ff22, bf22, PySem.W.mg_of X G nf22⟩
  have Ff23 := fun_mk (st := sCheckPlaces) lf23 cf23 kf23
  have bf23 := Ff23.binds (ps := ["places", "count", "wide"]) fun _ _ _ _ _ _ us hl => match us, hl with | [_, _, _], _ => rfl
  let cCheckPlaces : Fd K mg "check_places" sCheckPlaces ["places", "count", "wide"] := ⟨_, _, Ff23, bf23, PySem.W.mg_of X G nf23⟩
  have Ff24 := fun_mk (st := sCheckHomes) lf24 cf24 kf24
  have bf24 := Ff24.binds (ps := ["homes", "count", "wide"]) fun _ _ _ _ _ _ us hl => match us, hl with | [_, _, _], _ => rfl
  let cCheckHomes : Fd K mg "check_homes" sCheckHomes ["homes", "count", "wide"] := ⟨_, _, Ff24, bf24, PySem.W.mg_of X G nf24⟩
  have Ff25 := fun_mk (st := sAreHomes) lf25 cf25 kf25
  have bf25 := Ff25.binds (ps := ["places", "wide"]) fun _ _ _ _ _ _ us hl => match us, hl with | [_, _], _ => rfl
  let cAreHomes : Fd K mg "are_homes" sAreHomes ["places", "wide"] := ⟨_, _, Ff25, bf25, PySem.W.mg_of X G nf25⟩
  have Ff26 := fun_mk (st := sCheckLaying) lf26 cf26 kf26
  have bf26 := Ff26.binds (ps := ["program", "laying"]) fun _ _ _ _ _ _ us hl => match us, hl with | [_, _], _ => rfl
  let cCheckLaying : Fd K mg "check_laying" sCheckLaying ["program", "laying"] := ⟨_, _, Ff26, bf26, PySem.W.mg_of X G nf26⟩
  have Ff27 := fun_mk (st := sNexts) lf27 cf27 kf27
  have bf27 := Ff27.binds (ps := ["row"]) fun _ _ _ _ _ _ us hl => match us, hl with | [_], _ => rfl
  let cNexts : Fd K mg "nexts" sNexts ["row"] := ⟨_, _, Ff27, bf27, PySem.W.mg_of X G nf27⟩
  have Ff28 := fun_mk (st := sAhead) lf28 cf28 kf28
  have bf28 := Ff28.binds (ps := ["row"]) fun _ _ _ _ _ _ us hl => match us, hl with | [_], _ => rfl
  let cAhead : Fd K mg "rows_ahead" sAhead ["row"] := ⟨_, _, Ff28, bf28, PySem.W.mg_of X G nf28⟩
  have Ff29 := fun_mk (st := sGoesMay) lf29 cf29 kf29
  have bf29 := Ff29.binds (ps := ["program"]) fun _ _ _ _ _ _ us hl => match us, hl with | [_], _ => rfl
  let cGoesMay : Fd K mg "goes_that_may_be" sGoesMay ["program"] := ⟨_, _, Ff29, bf29, PySem.W.mg_of X G nf29⟩
  have Ff30 := fun_mk (st := sFirstBeat) lf30 cf30 kf30
  have bf30 := Ff30.binds (ps := ["now", "place", "wide"]) fun _ _ _ _ _ _ us hl => match us, hl with | [_, _, _], _ => rfl
  let cFirstBeat : Fd K mg "first_beat" sFirstBeat ["now", "place", "wide"] := ⟨_, _, Ff30, bf30, PySem.W.mg_of X G nf30⟩
  have Ff31 := fun_mk (st := sBeatsOfUse) lf31 cf31 kf31
  have bf31 := Ff31.binds (ps := ["word", "places", "read", "wide"]) fun _ _ _ _ _ _ us hl => match us, hl with | [_, _, _, _], _ => rfl
  let cBeatsOfUse : Fd K mg "beats_of_use" sBeatsOfUse ["word", "places", "read", "wide"] := ⟨_, _, Ff31, bf31, PySem.W.mg_of X G nf31⟩
  have Ff32 := fun_mk (st := sBeatOfUse) lf32 cf32 kf32
  have bf32 := Ff32.binds (ps := ["row", "read", "laying"]) fun _ _ _ _ _ _ us hl => match us, hl with | [_, _, _], _ => rfl
  let cBeatOfUse : Fd K mg "beat_of_use" sBeatOfUse ["row", "read", "laying"] := ⟨_, _, Ff32, bf32, PySem.W.mg_of X G nf32⟩
  have Ff33 := fun_mk (st := sBeatBehind) lf33 cf33 kf33
  have bf33 := Ff33.binds (ps := ["row", "read", "laying"]) fun _ _ _ _ _ _ us hl => match us, hl with | [_, _, _], _ => rfl
  let cBeatBehind : Fd K mg "beat_behind" sBeatBehind ["row", "read", "laying"] := ⟨_, _, Ff33, bf33, PySem.W.mg_of X G nf33⟩
  have Ff34 := fun_mk (st := sCost) lf34 cf34 kf34
  have bf34 := Ff34.binds (ps := ["program", "laying", "begin", "to"]) fun _ _ _ _ _ _ us hl => match us, hl with | [_, _, _, _], _ => rfl
  let cCost : Fd K mg "cost" sCost ["program", "laying", "begin", "to"] := ⟨_, _, Ff34, bf34, PySem.W.mg_of X G nf34⟩
  have Ff35 := fun_mk (st := sCosts) lf35 cf35 kf35
  have bf35 := Ff35.binds (ps := ["program", "laying"]) fun _ _ _ _ _ _ us hl => match us, hl with | [_, _], _ => rfl
  let cCosts : Fd K mg "costs" sCosts ["program", "laying"] := ⟨_, _, Ff35, bf35, PySem.W.mg_of X G nf35⟩
  have Ff36 := fun_mk (st := sEnded) lf36 cf36 kf36
  have bf36 := Ff36.binds (ps := ["_law_d"]) fun _ _ _ _ _ _ us hl => match us, hl with | [_], _ => rfl
  let cEnded : Fd K mg "_law_ended" sEnded ["_law_d"] := ⟨_, _, Ff36, bf36, PySem.W.mg_of X G nf36⟩
  have Ff37 := fun_mk (st := sIsGo) lf37 cf37 kf37
  have bf37 := Ff37.binds (ps := ["go", "may_be"]) fun _ _ _ _ _ _ us hl => match us, hl with | [_, _], _ => rfl
  let cIsGo : Fd K mg "is_go" sIsGo ["go", "may_be"] := ⟨_, _, Ff37, bf37, PySem.W.mg_of X G nf37⟩
  have Ff38 := fun_mk (st := sRowsFound) lf38 cf38 kf38
  have bf38 := Ff38.binds (ps := ["pairs"]) fun _ _ _ _ _ _ us hl => match us, hl with | [_], _ => rfl
  let cRowsFound : Fd K mg "rows_found" sRowsFound ["pairs"] := ⟨_, _, Ff38, bf38, PySem.W.mg_of X G nf38⟩
  have Ff39 := fun_mk (st := sGoesAgree) lf39 cf39 kf39
  have bf39 := Ff39.binds (ps := ["program", "goes"]) fun _ _ _ _ _ _ us hl => match us, hl with | [_, _], _ => rfl
  let cGoesAgree : Fd K mg "goes_agree" sGoesAgree ["program", "goes"] := ⟨_, _, Ff39, bf39, PySem.W.mg_of X G nf39⟩
  have Ff40 := fun_mk (st := sCheckGoes) lf40 cf40 kf40
  have bf40 := Ff40.binds (ps := ["program", "goes"]) fun _ _ _ _ _ _ us hl => match us, hl with | [_, _], _ => rfl
  let cCheckGoes : Fd K mg "check_goes" sCheckGoes ["program", "goes"] := ⟨_, _, Ff40, bf40, PySem.W.mg_of X G nf40⟩
  have Ff41 := fun_mk (st := sBeatsBy) lf41 cf41 kf41
  have bf41 := Ff41.binds (ps := ["program", "laying", "goes"]) fun _ _ _ _ _ _ us hl => match us, hl with | [_, _, _], _ => rfl
  let cBeatsBy : Fd K mg "beats_by" sBeatsBy ["program", "laying", "goes"] := ⟨_, _, Ff41, bf41, PySem.W.mg_of X G nf41⟩
  have Ff42 := fun_mk (st := sTimes) lf42 cf42 kf42
  have bf42 := Ff42.binds (ps := ["goes"]) fun _ _ _ _ _ _ us hl => match us, hl with | [_], _ => rfl
  let cTimes : Fd K mg "times_done" sTimes ["goes"] := ⟨_, _, Ff42, bf42, PySem.W.mg_of X G nf42⟩
  have Ff43 := fun_mk (st := sCoreW) lf43 cf43 kf43
  have bf43 := Ff43.binds (ps := ["program", "goes"]) fun _ _ _ _ _ _ us hl => match us, hl with | [_, _], _ => rfl
  let cCoreW : Fd K mg "core_worths" sCoreW ["program", "goes"] := ⟨_, _, Ff43, bf43, PySem.W.mg_of X G nf43⟩
  have Ff44 := fun_mk (st := sCoreR) lf44 cf44 kf44
  have bf44 := Ff44.binds (ps := ["goes"]) fun _ _ _ _ _ _ us hl => match us, hl with | [_], _ => rfl
  let cCoreR : Fd K mg "core_rows" sCoreR ["goes"] := ⟨_, _, Ff44, bf44, PySem.W.mg_of X G nf44⟩
  have Ff45 := fun_mk (st := sCores) lf45 cf45 kf45
  have bf45 := Ff45.binds (ps := ["wide", "things"]) fun _ _ _ _ _ _ us hl => match us, hl with | [_, _], _ => rfl
  let cCores : Fd K mg "cores" sCores ["wide", "things"] := ⟨_, _, Ff45, bf45, PySem.W.mg_of X G nf45⟩
  have Ff46 := fun_mk (st := sCoreP) lf46 cf46 kf46
  have bf46 := Ff46.binds (ps := ["number", "wide", "things"]) fun _ _ _ _ _ _ us hl => match us, hl with | [_, _, _], _ => rfl
  let cCoreP : Fd K mg "core_places" sCoreP ["number", "wide", "things"] := ⟨_, _, Ff46, bf46, PySem.W.mg_of X G nf46⟩
  have Ff47 := fun_mk (st := sHomesOf) lf47 cf47 kf47
  have bf47 := Ff47.binds (ps := ["program", "worths", "places"]) fun _ _ _ _ _ _ us hl => match us, hl with | [_, _, _], _ => rfl
  let cHomesOf : Fd K mg "homes_of" sHomesOf ["program", "worths", "places"] := ⟨_, _, Ff47, bf47, PySem.W.mg_of X G nf47⟩
  have Ff48 := fun_mk (st := sRowsAt) lf48 cf48 kf48
  have bf48 := Ff48.binds (ps := ["rows", "places"]) fun _ _ _ _ _ _ us hl => match us, hl with | [_, _], _ => rfl
  let cRowsAt : Fd K mg "rows_at" sRowsAt ["rows", "places"] := ⟨_, _, Ff48, bf48, PySem.W.mg_of X G nf48⟩
  have Ff49 := fun_mk (st := sLinks) lf49 cf49 kf49
  have bf49 := Ff49.binds (ps := ["goes", "rows"]) fun _ _ _ _ _ _ us hl => match us, hl with | [_, _], _ => rfl
  let cLinks : Fd K mg "links_beside_core" sLinks ["goes", "rows"] := ⟨_, _, Ff49, bf49, PySem.W.mg_of X G nf49⟩
  have Ff50 := fun_mk (st := sLaid) lf50 cf50 kf50
  have bf50 := Ff50.binds (ps := ["program", "wide", "laid_first", "homes", "links"]) fun _ _ _ _ _ _ us hl => match us, hl with | [_, _, _, _, _], _ => rfl
  let cLaid : Fd K mg "laid" sLaid ["program", "wide", "laid_first", "homes", "links"] := ⟨_, _, Ff50, bf50, PySem.W.mg_of X G nf50⟩
  have Ff51 := fun_mk (st := sCheckWG) lf51 cf51 kf51
  have bf51 := Ff51.binds (ps := ["program", "wide", "goes"]) fun _ _ _ _ _ _ us hl => match us, hl with | [_, _, _], _ => rfl
  let cCheckWG : Fd K mg "check_wide_and_goes" sCheckWG ["program", "wide", "goes"] := ⟨_, _, Ff51, bf51, PySem.W.mg_of X G nf51⟩
  have Ff52 := fun_mk (st := sBest) lf52 cf52 kf52
  have bf52 := Ff52.binds (ps := ["program", "wide", "goes"]) fun _ _ _ _ _ _ us hl => match us, hl with | [_, _, _], _ => rfl
  let cBest : Fd K mg "best" sBest ["program", "wide", "goes"] := ⟨_, _, Ff52, bf52, PySem.W.mg_of X G nf52⟩
  have Ff53 := fun_mk (st := sSpun) lf53 cf53 kf53
  have bf53 := Ff53.binds (ps := ["program", "laying", "fuel"]) fun _ _ _ _ _ _ us hl => match us, hl with | [_, _, _], _ => rfl
  let cSpun : Fd K mg "spun" sSpun ["program", "laying", "fuel"] := ⟨_, _, Ff53, bf53, PySem.W.mg_of X G nf53⟩
  have Ff54 := fun_mk (st := sOtherwise) lf54 cf54 kf54
  have bf54 := Ff54.binds (ps := ["_law_d", "_law_program", "_law_laying_here"]) fun _ _ _ _ _ _ us hl => match us, hl with | [_, _, _], _ => rfl
  let cOtherwise : Fd K mg "_law_otherwise" sOtherwise ["_law_d", "_law_program", "_law_laying_here"] := ⟨_, _, Ff54, bf54, PySem.W.mg_of X G nf54⟩
  have Ff55 := fun_mk (st := sDice) lf55 cf55 kf55
  have bf55 := Ff55.binds (ps := ["_law_script"]) fun _ _ _ _ _ _ us hl => match us, hl with | [_], _ => rfl
  let cDice : Fd K mg "_law_dice" sDice ["_law_script"] := ⟨_, _, Ff55, bf55, PySem.W.mg_of X G nf55⟩
  have Ff56 := fun_mk (st := sTold) lf56 cf56 kf56
  have bf56 := Ff56.binds (ps := ["_law_work"]) fun _ _ _ _ _ _ us hl => match us, hl with | [_], _ => rfl
  let cTold : Fd K mg "_law_told" sTold ["_law_work"] := ⟨_, _, Ff56, bf56, PySem.W.mg_of X G nf56⟩
  have Ff57 := fun_mk (st := sLaw) lf57 cf57 kf57
  have bf57 := Ff57.binds (ps := ["_law_script"]) fun _ _ _ _ _ _ us hl => match us, hl with | [_], _ => rfl
  have T : Bt mg := ⟨PySem.W.mg_none_of X G b_len, PySem.W.mg_none_of X G b_int, PySem.W.mg_none_of X G b_range, PySem.W.mg_none_of X G b_isinstance, PySem.W.mg_none_of X G b_tuple, PySem.W.mg_none_of X G b_list, PySem.W.mg_none_of X G b_sorted, PySem.W.mg_none_of X G b_sum, PySem.W.mg_none_of X G b_max, PySem.W.mg_none_of X G b_enumerate, PySem.W.mg_none_of X G b_zip, PySem.W.mg_none_of X G b_all, PySem.W.mg_none_of X G b_bool, PySem.W.mg_none_of X G b_str⟩
  have TS : Bs mg := ⟨PySem.W.mg_none_of X G b_set⟩
  have TM : Bm mg := ⟨PySem.W.mg_none_of X G b_min⟩
  have TD : Bd mg := ⟨PySem.W.mg_none_of X G b_dict⟩
  let Cc : Cn mg := ⟨_, _, _, PySem.W.mg_of X G qW, PySem.W.mg_of X G qR, PySem.W.mg_of X G qN⟩
  let CF : Cf mg := ⟨_, PySem.W.mg_of X G qF⟩
  let CD : Cd mg := ⟨_, _, PySem.W.mg_of X G qL, PySem.W.mg_of X G qC⟩
  let CL : Cl mg := ⟨_, _, PySem.W.mg_of X G q2, PySem.W.mg_of X G q24⟩
  let LH : Ch mg := ⟨_, PySem.W.mg_of X G q3⟩
  let CB : Cb mg := ⟨_, PySem.W.mg_of X G q5⟩
  let E : Er mg := ⟨_, _, _, _, _, _, _, _, _, PySem.W.mg_of X G mBP, PySem.W.mg_of X G mBL, PySem.W.mg_of X G mBF, PySem.W.mg_of X G mBG, PySem.W.mg_of X G mBE, PySem.W.mg_of X G mTM_, PySem.W.mg_of X G mOV, PySem.W.mg_of X G mBT, PySem.W.mg_of X G mDE, PySem.W.mg_none_of X G b_ValueError⟩
  have kTM_ : Knd K E E.TM 5 := ⟨⟨TM__hg, TM__hk, TM__hs, TM__hd, TM__ha, TM__hn, TM__ht, TM__hm⟩, exm_sub bDE iDE tDE TM__sDE, kit_type (by decide +kernel) TM__sVE, kit_no TM__n0 iBP tBP TM__s0, kit_no TM__n1 iBL tBL TM__s1, kit_no TM__n2 iBF tBF TM__s2, kit_no TM__n3 iBG tBG TM__s3, kit_no TM__n4 iBE tBE TM__s4, kit_self, kit_no TM__n6 iOV tOV TM__s6, kit_no TM__n7 iBT tBT TM__s7, by decide⟩
  have rTM_ : OvK K E.TM := ⟨TM__rx, TM__rk, TM__hs, TM__rt⟩
  have FmC0 := fun_mk (st := sDInit) lmC0 cmC0 kmC0
  have bmC0 := FmC0.binds (ps := ["self", "worths"]) fun _ _ _ _ _ _ us hl => match us, hl with | [_, _], _ => rfl
  have FmC1 := fun_mk (st := sDStep) lmC1 cmC1 kmC1
  have bmC1 := FmC1.binds (ps := ["self", "row"]) fun _ _ _ _ _ _ us hl => match us, hl with | [_, _], _ => rfl
  have FmC2 := fun_mk (st := sDUse) lmC2 cmC2 kmC2
  have bmC2 := FmC2.binds (ps := ["self", "word", "worth"]) fun _ _ _ _ _ _ us hl => match us, hl with | [_, _, _], _ => rfl
  have FmC3 := fun_mk (st := sDOnward) lmC3 cmC3 kmC3
  have bmC3 := FmC3.binds (ps := ["self", "row"]) fun _ _ _ _ _ _ us hl => match us, hl with | [_, _], _ => rfl
  have TC : Dk K mg C := ⟨⟨pgC, hdC, poC, saC⟩, zC_number, zC_worths, zC_said, PySem.W.mg_of X G nCC⟩
  let DM : DkM K mg := ⟨C, TC, _, _, FmC0, bmC0, ⟨mkC, nmC0, imC0, kcC⟩, _, _, FmC1, bmC1, ⟨nmC1, imC1, kmC1⟩, _, _, FmC2, bmC2, ⟨nmC2, imC2, kmC2⟩, _, _, FmC3, bmC3, ⟨nmC3, imC3, kmC3⟩⟩
  have FmU0 := fun_mk (st := sUInit) lmU0 cmU0 kmU0
  have bmU0 := FmU0.binds (ps := ["self", "program", "laying"]) fun _ _ _ _ _ _ us hl => match us, hl with | [_, _, _], _ => rfl
  have FmU1 := fun_mk (st := sUTurn) lmU1 cmU1 kmU1
  have bmU1 := FmU1.binds (ps := ["self"]) fun _ _ _ _ _ _ us hl => match us, hl with | [_], _ => rfl
  have FmU2 := fun_mk (st := sUBeat) lmU2 cmU2 kmU2
  have bmU2 := FmU2.binds (ps := ["self"]) fun _ _ _ _ _ _ us hl => match us, hl with | [_], _ => rfl
  have FmU3 := fun_mk (st := sUSays) lmU3 cmU3 kmU3
  have bmU3 := FmU3.binds (ps := ["self"]) fun _ _ _ _ _ _ us hl => match us, hl with | [_], _ => rfl
  have FmU4 := fun_mk (st := sUOver) lmU4 cmU4 kmU4
  have bmU4 := FmU4.binds (ps := ["self"]) fun _ _ _ _ _ _ us hl => match us, hl with | [_], _ => rfl
  have TU : Uk K mg U := ⟨⟨pgU, hdU, poU, saU⟩, zU_rows, zU_laying, zU_desk, zU_row, zU_now, PySem.W.mg_of X G nCU⟩
  let UM : UkM K mg := ⟨U, TU, _, _, FmU0, bmU0, ⟨mkU, nmU0, imU0, kcU⟩, _, _, FmU1, bmU1, ⟨nmU1, imU1, kmU1⟩, _, _, FmU2, bmU2, ⟨nmU2, imU2, kmU2⟩, _, _, FmU3, bmU3, ⟨nmU3, imU3, kmU3⟩, _, _, FmU4, bmU4, ⟨nmU4, imU4, kmU4⟩⟩
  let Z : Pt K w mg := ⟨d, es, n, PySem.W.mg_of X G pD, ⟨pL, pK, lo⟩, fun r => by
    cases r with
    | load _ _ => exact ⟨p_load, w_load, fun H => tup_lit u_load v_load (by show 2 ≤ 1000; decide)⟩
    | add _ _ => exact ⟨p_add, w_add, fun H => tup_lit u_add v_add (by show 2 ≤ 1000; decide)⟩
    | take _ _ => exact ⟨p_take, w_take, fun H => tup_lit u_take v_take (by show 2 ≤ 1000; decide)⟩
    | store _ _ => exact ⟨p_store, w_store, fun H => tup_lit u_store v_store (by show 2 ≤ 1000; decide)⟩
    | say _ => exact ⟨p_say, w_say, fun H => tup_lit u_say v_say (by show 1 ≤ 1000; decide)⟩
    | test _ _ => exact ⟨p_test, w_test, fun H => tup_lit u_test v_test (by show 2 ≤ 1000; decide)⟩
    | stop  => exact ⟨p_stop, w_stop, fun H => tup_lit u_stop v_stop (by show 0 ≤ 1000; decide)⟩⟩
  let ZW : Pw K w mg := ⟨e, es2, n2, PySem.W.mg_of X G pW, ⟨pWL, pWK, lo2⟩, fun r => by
    cases r with
    | load _ _ => exact ⟨_, x_load⟩
    | add _ _ => exact ⟨_, x_add⟩
    | take _ _ => exact ⟨_, x_take⟩
    | store _ _ => exact ⟨_, x_store⟩
    | say _ => exact ⟨_, x_say⟩
    | test _ _ => exact ⟨_, x_test⟩
    | stop  => exact ⟨_, x_stop⟩⟩
  have hS := fun base : Heap => ok_stopping (P := P) (w := w) (base := base) cStopping cMixed cBody cFork cStraight cNext T
  have hR := fun base : Heap => ok_lrun (P := P) (w := w) (base := base) cLRun cStep cRing T
  have hE := fun base : Heap => ok_ended (P := P) (w := w) (base := base) cEnded cStopping cNext cLRun T (hS base) (hR base)
  have hA := fun base : Heap => ok_any (P := P) (w := w) (base := base) cAny cStopping cMixed cBody cFork cStraight cNext T
  have hL := fun base : Heap => ok_laying (P := P) (w := w) (base := base) cLaying cNext T TS
  have hCP := fun base : Heap => ok_checkProgram (P := P) (w := w) (base := base) cCheckProgram cCheckRow cCheckWorths cHasShape cPart cIsBetween cIsNumber T Cc Z
  have hCL := fun base : Heap => ok_checkLaying (P := P) (w := w) (base := base) cCheckLaying cCheckWide cCheckPlaces cCheckHomes cAreHomes cPart cIsBetween cIsNumber T TS CL LH
  have hCW := fun base : Heap => ok_checkWide (P := P) (w := w) (base := base) cCheckWide cIsBetween cIsNumber T CL
  have hCF := fun base : Heap => ok_checkFuel (P := P) (w := w) (base := base) cCheckFuel cIsBetween cIsNumber T CF
  have hGM := fun base : Heap => ok_goesMay (P := P) (w := w) (base := base) cGoesMay cAhead cNexts cUsesWorth T TS Z
  have hPC := fun base : Heap => ok_cost (P := P) (w := w) (base := base) cCost cBeatBehind cBeatOfUse cBeatsOfUse cFirstBeat cUsesWorth T Z ZW
  have hCs := fun base : Heap => ok_costs (P := P) (w := w) (base := base) cCosts cCheckProgram cCheckLaying cGoesMay cCost (hCP base) (hCL base) (hGM base) (hPC base)
  have hIG := fun base : Heap => ok_isGo (P := P) (w := w) (base := base) cIsGo cIsNumber T
  have hCG := fun base : Heap => ok_checkGoes (P := P) (w := w) (base := base) cCheckGoes cGoesMay cIsGo cGoesAgree cRowsFound T TS (hGM base) (hIG base)
  have hBB := fun base : Heap => ok_beatsBy (P := P) (w := w) (base := base) cBeatsBy cCost T (hPC base)
  have hBe := fun base : Heap => ok_beatBehind (P := P) (w := w) (base := base) cBeatBehind cBeatOfUse cBeatsOfUse cFirstBeat cUsesWorth T Z ZW
  have hDS := fun base : Heap => ok_dstep (P := P) (w := w) (base := base) DM.FS DM.FU DM.mU DM.bU DM.FO DM.mO DM.bO cOnDesk cUsesWorth T CD Z DM.d
  have hUI := fun base : Heap => ok_uinit (P := P) (w := w) (base := base) UM.FI cCheckProgram cCheckLaying T UM.d DM.d DM.FI DM.bI DM.mkd (hCP base) (hCL base)
  have hUT := fun base : Heap => ok_uturn (P := P) (w := w) (base := base) UM.FT UM.d DM.d cFirstBeat cBeatBehind DM.bS DM.mS (hBe base) (hDS base)
  have hSp := fun base : Heap => ok_spun (P := P) (w := w) (base := base) cSpun cCheckFuel DM UM T (hUI base) (hCF base) (hUT base)
  have hKW := fun base : Heap => ok_coreW (P := P) (w := w) (base := base) cCoreW cTimes cUsesWorth T Z
  have hLd := fun base : Heap => ok_laid (P := P) (w := w) (base := base) cLaid cBeatBehind cBeatOfUse cBeatsOfUse cFirstBeat cUsesWorth T TD Z ZW
  have hWG := fun base : Heap => ok_checkWG (P := P) (w := w) (base := base) cCheckWG cCheckProgram cCheckWide cCheckGoes (hCP base) (hCW base) (hCG base)
  have hB1 := fun base : Heap => ok_best (P := P) (w := w) (base := base) cBest cCheckWG cCoreW cCoreR cCores cCoreP cHomesOf cRowsAt cLinks cLaid cBeatsBy T TM CB (hWG base) (hKW base) (hLd base) (hBB base)
  have hB3 := fun base : Heap => ok_bestT (P := P) (w := w) (base := base) rTM_ E.mTM cBest cCheckWG cCoreW cCoreR cCores cCoreP cHomesOf cRowsAt cLinks cLaid cBeatsBy T TM CB (hWG base) (hKW base) (hLd base) (hBB base)
  have hB17 := fun base : Heap => FnOk.or (FnOk.toX (hB1 base)) (hB3 base)
  have hRun := fun base : Heap => ok_prun (P := P) (w := w) (base := base) cPRun cCheckProgram cCheckFuel cCheckRow cCheckWorths cHasShape cPart cIsBetween cIsNumber cOnDesk cUsesWorth DM T Cc CF CD Z
  refine ⟨_, [(cc, tP)], spLaw K tP, fun p hp => ?_, fun p hp => ?_, fun p hp => ?_, ?_, fun H a ns hl _ hT hS => ⟨a, ns, rfl, hS, hl, hT _ (List.mem_singleton.mpr rfl), fun _ => rfl⟩, fun base _ _ hT => ok_law lf57 cf57 (hT _ (List.mem_singleton.mpr rfl)) cDice cNext cAny cLaying cOtherwise cSpun cCosts cEnded cTold cBest cPRun T TS E kTM_ (hA base) (hL base) (hSp base) (hCs base) (hE base) (hB17 base) (hRun base)⟩
  · rw [List.mem_singleton.mp hp]
    exact own cc tP _ _ _ _ _ _ lf57 rfl rfl cK c11
  · rw [List.mem_singleton.mp hp]
    exact nP
  · rw [List.mem_singleton.mp hp]
    exact ⟨_, vsc, _, _, _, _, _, _, _, X _ _ cK, rfl, rfl, c11, g11, g18, g7, g9, g10, ne_of_beq_false cP⟩
  · exact fun s v => .of_eq rfl
end DL
open PySem PySem.W PyProof.Rows in
set_option maxRecDepth 100000 in
set_option maxHeartbeats 0 in
theorem PySem.Challenge.cw_drumlay_k17_whole_turned_and_numbered_ot_holds : PySem.Challenge.rw_drumlay_k17_whole_turned_and_numbered_ot.Holds := by
  w_on; o_law; k_head; (case hw => w_witness2)
  k_fill
  refine LamX.walk_ofOwn (l := PySem.Challenge.rw_drumlay_k17_whole_turned_and_numbered_ot) (n := 63) (k := 10) (x := "_law_script") (CX := fun _ => L2.CX0) rfl (by decide) rfl ⟨rfl, by decide, by decide⟩ ?hrec (fun w h Y => PySem.W.km_in_of Y) ?F fun _ _ _ _ _ z => z
  case hrec => exact (by decide +kernel)
  case F =>
    intro w mg fa h Y KX G hmg own
    refine' DL.all_mk KX G hmg ?nf0 ?lf0 ?cf0 ?kf0 ?nf1 ?lf1 ?cf1 ?kf1 ?nf2 ?lf2 ?cf2 ?kf2 ?nf3 ?lf3 ?cf3 ?kf3 ?nf4 ?lf4 ?cf4 ?kf4 ?nf5 ?lf5 ?cf5 ?kf5 ?nf6 ?lf6 ?cf6 ?kf6 ?nf7 ?lf7 ?cf7 ?kf7 ?nf8 ?lf8 ?cf8 ?kf8 ?nf9 ?lf9 ?cf9 ?kf9 ?nf10 ?lf10 ?cf10 ?kf10 ?nf11 ?lf11 ?cf11 ?kf11 ?nf12 ?lf12 ?cf12 ?kf12 ?nf13 ?lf13 ?cf13 ?kf13 ?nf14 ?lf14 ?cf14 ?kf14 ?nf15 ?lf15 ?cf15 ?kf15 ?nf16 ?lf16 ?cf16 ?kf16 ?nf17 ?lf17 ?cf17 ?kf17 ?nf18 ?lf18 ?cf18 ?kf18 ?nf19 ?lf19 ?cf19 ?kf19 ?nf20 ?lf20 ?cf20 ?kf20 ?nf21 ?lf21 ?cf21 ?kf21 ?nf22 ?lf22 ?cf22 ?kf22 ?nf23 ?lf23 ?cf23 ?kf23 ?nf24 ?lf24 ?cf24 ?kf24 ?nf25 ?lf25 ?cf25 ?kf25 ?nf26 ?lf26 ?cf26 ?kf26 ?nf27 ?lf27 ?cf27 ?kf27 ?nf28 ?lf28 ?cf28 ?kf28 ?nf29 ?lf29 ?cf29 ?kf29 ?nf30 ?lf30 ?cf30 ?kf30 ?nf31 ?lf31 ?cf31 ?kf31 ?nf32 ?lf32 ?cf32 ?kf32 ?nf33 ?lf33 ?cf33 ?kf33 ?nf34 ?lf34 ?cf34 ?kf34 ?nf35 ?lf35 ?cf35 ?kf35 ?nf36 ?lf36 ?cf36 ?kf36 ?nf37 ?lf37 ?cf37 ?kf37 ?nf38 ?lf38 ?cf38 ?kf38 ?nf39 ?lf39 ?cf39 ?kf39 ?nf40 ?lf40 ?cf40 ?kf40 ?nf41 ?lf41 ?cf41 ?kf41 ?nf42 ?lf42 ?cf42 ?kf42 ?nf43 ?lf43 ?cf43 ?kf43 ?nf44 ?lf44 ?cf44 ?kf44 ?nf45 ?lf45 ?cf45 ?kf45 ?nf46 ?lf46 ?cf46 ?kf46 ?nf47 ?lf47 ?cf47 ?kf47 ?nf48 ?lf48 ?cf48 ?kf48 ?nf49 ?lf49 ?cf49 ?kf49 ?nf50 ?lf50 ?cf50 ?kf50 ?nf51 ?lf51 ?cf51 ?kf51 ?nf52 ?lf52 ?cf52 ?kf52 ?nf53 ?lf53 ?cf53 ?kf53 ?nf54 ?lf54 ?cf54 ?kf54 ?nf55 ?lf55 ?cf55 ?kf55 ?nf56 ?lf56 ?cf56 ?kf56 ?nf57 ?lf57 ?cf57 ?kf57 ?nCC ?nmC0 ?imC0 ?lmC0 ?cmC0 ?kmC0 ?nmC1 ?imC1 ?lmC1 ?cmC1 ?kmC1 ?nmC2 ?imC2 ?lmC2 ?cmC2 ?kmC2 ?nmC3 ?imC3 ?lmC3 ?cmC3 ?kmC3 ?pgC ?hdC ?poC ?saC ?mkC ?kcC ?zC_number ?zC_worths ?zC_said ?nCU ?nmU0 ?imU0 ?lmU0 ?cmU0 ?kmU0 ?nmU1 ?imU1 ?lmU1 ?cmU1 ?kmU1 ?nmU2 ?imU2 ?lmU2 ?cmU2 ?kmU2 ?nmU3 ?imU3 ?lmU3 ?cmU3 ?kmU3 ?nmU4 ?imU4 ?lmU4 ?cmU4 ?kmU4 ?pgU ?hdU ?poU ?saU ?mkU ?kcU ?zU_rows ?zU_laying ?zU_desk ?zU_row ?zU_now ?mBP ?mBL ?mBF ?mBG ?mBE ?mTM_ ?mOV ?mBT ?mDE ?b_ValueError ?iBP ?tBP ?iBL ?tBL ?iBF ?tBF ?iBG ?tBG ?iBE ?tBE ?iTM_ ?tTM_ ?iOV ?tOV ?iBT ?tBT ?iDE ?tDE ?bDE ?TM__hg ?TM__hk ?TM__hs ?TM__hd ?TM__ha ?TM__hn ?TM__ht ?TM__hm ?TM__sDE ?TM__sVE ?TM__s0 ?TM__s1 ?TM__s2 ?TM__s3 ?TM__s4 ?TM__s6 ?TM__s7 ?TM__n0 ?TM__n1 ?TM__n2 ?TM__n3 ?TM__n4 ?TM__n6 ?TM__n7 ?TM__rx ?TM__rk ?TM__rt ?cK ?c11 ?g11 ?g18 ?g7 ?g9 ?g10 ?cP ?nP ?b_len ?b_int ?b_range ?b_isinstance ?b_tuple ?b_list ?b_sorted ?b_sum ?b_max ?b_enumerate ?b_zip ?b_all ?b_bool ?b_str ?b_set ?b_min ?b_dict ?qW ?qR ?qN ?qF ?qL ?qC ?q2 ?q24 ?q3 ?q5 ?pD ?pL ?pK ?w_load ?u_load ?v_load ?w_add ?u_add ?v_add ?w_take ?u_take ?v_take ?w_store ?u_store ?v_store ?w_say ?u_say ?v_say ?w_test ?u_test ?v_test ?w_stop ?u_stop ?v_stop ?lo ?pW ?pWL ?pWK ?x_load ?x_add ?x_take ?x_store ?x_say ?x_test ?x_stop ?lo2 own
    (case nf0 => k_is)
    (case lf0 => k_is)
    (case cf0 => k_is)
    (case kf0 => k_is)
    (case nf1 => k_is)
    (case lf1 => k_is)
    (case cf1 => k_is)
    (case kf1 => k_is)
    (case nf2 => k_is)
    (case lf2 => k_is)
    (case cf2 => k_is)
    (case kf2 => k_is)
    (case nf3 => k_is)
    (case lf3 => k_is)
    (case cf3 => k_is)
    (case kf3 => k_is)
    (case nf4 => k_is)
    (case lf4 => k_is)
    (case cf4 => k_is)
    (case kf4 => k_is)
    (case nf5 => k_is)
    (case lf5 => k_is)
    (case cf5 => k_is)
    (case kf5 => k_is)
    (case nf6 => k_is)
    (case lf6 => k_is)
    (case cf6 => k_is)
    (case kf6 => k_is)
    (case nf7 => k_is)
    (case lf7 => k_is)
    (case cf7 => k_is)
    (case kf7 => k_is)
    (case nf8 => k_is)
    (case lf8 => k_is)
    (case cf8 => k_is)
    (case kf8 => k_is)
    (case nf9 => k_is)
    (case lf9 => k_is)
    (case cf9 => k_is)
    (case kf9 => k_is)
    (case nf10 => k_is)
    (case lf10 => k_is)
    (case cf10 => k_is)
    (case kf10 => k_is)
    (case nf11 => k_is)
    (case lf11 => k_is)
    (case cf11 => k_is)
    (case kf11 => k_is)
    (case nf12 => k_is)
    (case lf12 => k_is)
    (case cf12 => k_is)
    (case kf12 => k_is)
    (case nf13 => k_is)
    (case lf13 => k_is)
    (case cf13 => k_is)
    (case kf13 => k_is)
    (case nf14 => k_is)
    (case lf14 => k_is)
    (case cf14 => k_is)
    (case kf14 => k_is)
    (case nf15 => k_is)
    (case lf15 => k_is)
    (case cf15 => k_is)
    (case kf15 => k_is)
    (case nf16 => k_is)
    (case lf16 => k_is)
    (case cf16 => k_is)
    (case kf16 => k_is)
    (case nf17 => k_is)
    (case lf17 => k_is)
    (case cf17 => k_is)
    (case kf17 => k_is)
    (case nf18 => k_is)
    (case lf18 => k_is)
    (case cf18 => k_is)
    (case kf18 => k_is)
    (case nf19 => k_is)
    (case lf19 => k_is)
    (case cf19 => k_is)
    (case kf19 => k_is)
    (case nf20 => k_is)
    (case lf20 => k_is)
    (case cf20 => k_is)
    (case kf20 => k_is)
    (case nf21 => k_is)
    (case lf21 => k_is)
    (case cf21 => k_is)
    (case kf21 => k_is)
    (case nf22 => k_is)
    (case lf22 => k_is)
    (case cf22 => k_is)
    (case kf22 => k_is)
    (case nf23 => k_is)
    (case lf23 => k_is)
    (case cf23 => k_is)
    (case kf23 => k_is)
    (case nf24 => k_is)
    (case lf24 => k_is)
    (case cf24 => k_is)
    (case kf24 => k_is)
    (case nf25 => k_is)
    (case lf25 => k_is)
    (case cf25 => k_is)
    (case kf25 => k_is)
    (case nf26 => k_is)
    (case lf26 => k_is)
    (case cf26 => k_is)
    (case kf26 => k_is)
    (case nf27 => k_is)
    (case lf27 => k_is)
    (case cf27 => k_is)
    (case kf27 => k_is)
    (case nf28 => k_is)
    (case lf28 => k_is)
    (case cf28 => k_is)
    (case kf28 => k_is)
    (case nf29 => k_is)
    (case lf29 => k_is)
    (case cf29 => k_is)
    (case kf29 => k_is)
    (case nf30 => k_is)
    (case lf30 => k_is)
    (case cf30 => k_is)
    (case kf30 => k_is)
    (case nf31 => k_is)
    (case lf31 => k_is)
    (case cf31 => k_is)
    (case kf31 => k_is)
    (case nf32 => k_is)
    (case lf32 => k_is)
    (case cf32 => k_is)
    (case kf32 => k_is)
    (case nf33 => k_is)
    (case lf33 => k_is)
    (case cf33 => k_is)
    (case kf33 => k_is)
    (case nf34 => k_is)
    (case lf34 => k_is)
    (case cf34 => k_is)
    (case kf34 => k_is)
    (case nf35 => k_is)
    (case lf35 => k_is)
    (case cf35 => k_is)
    (case kf35 => k_is)
    (case nf36 => k_is)
    (case lf36 => k_is)
    (case cf36 => k_is)
    (case kf36 => k_is)
    (case nf37 => k_is)
    (case lf37 => k_is)
    (case cf37 => k_is)
    (case kf37 => k_is)
    (case nf38 => k_is)
    (case lf38 => k_is)
    (case cf38 => k_is)
    (case kf38 => k_is)
    (case nf39 => k_is)
    (case lf39 => k_is)
    (case cf39 => k_is)
    (case kf39 => k_is)
    (case nf40 => k_is)
    (case lf40 => k_is)
    (case cf40 => k_is)
    (case kf40 => k_is)
    (case nf41 => k_is)
    (case lf41 => k_is)
    (case cf41 => k_is)
    (case kf41 => k_is)
    (case nf42 => k_is)
    (case lf42 => k_is)
    (case cf42 => k_is)
    (case kf42 => k_is)
    (case nf43 => k_is)
    (case lf43 => k_is)
    (case cf43 => k_is)
    (case kf43 => k_is)
    (case nf44 => k_is)
    (case lf44 => k_is)
    (case cf44 => k_is)
    (case kf44 => k_is)
    (case nf45 => k_is)
    (case lf45 => k_is)
    (case cf45 => k_is)
    (case kf45 => k_is)
    (case nf46 => k_is)
    (case lf46 => k_is)
    (case cf46 => k_is)
    (case kf46 => k_is)
    (case nf47 => k_is)
    (case lf47 => k_is)
    (case cf47 => k_is)
    (case kf47 => k_is)
    (case nf48 => k_is)
    (case lf48 => k_is)
    (case cf48 => k_is)
    (case kf48 => k_is)
    (case nf49 => k_is)
    (case lf49 => k_is)
    (case cf49 => k_is)
    (case kf49 => k_is)
    (case nf50 => k_is)
    (case lf50 => k_is)
    (case cf50 => k_is)
    (case kf50 => k_is)
    (case nf51 => k_is)
    (case lf51 => k_is)
    (case cf51 => k_is)
    (case kf51 => k_is)
    (case nf52 => k_is)
    (case lf52 => k_is)
    (case cf52 => k_is)
    (case kf52 => k_is)
    (case nf53 => k_is)
    (case lf53 => k_is)
    (case cf53 => k_is)
    (case kf53 => k_is)
    (case nf54 => k_is)
    (case lf54 => k_is)
    (case cf54 => k_is)
    (case kf54 => k_is)
    (case nf55 => k_is)
    (case lf55 => k_is)
    (case cf55 => k_is)
    (case kf55 => k_is)
    (case nf56 => k_is)
    (case lf56 => k_is)
    (case cf56 => k_is)
    (case kf56 => k_is)
    (case nf57 => k_is)
    (case lf57 => k_is)
    (case cf57 => k_is)
    (case kf57 => k_is)
    (case nCC => k_is)
    (case nmC0 => k_is)
    (case imC0 => k_is)
    (case lmC0 => k_is)
    (case cmC0 => k_is)
    (case kmC0 => k_is)
    (case nmC1 => k_is)
    (case imC1 => k_is)
    (case lmC1 => k_is)
    (case cmC1 => k_is)
    (case kmC1 => k_is)
    (case nmC2 => k_is)
    (case imC2 => k_is)
    (case lmC2 => k_is)
    (case cmC2 => k_is)
    (case kmC2 => k_is)
    (case nmC3 => k_is)
    (case imC3 => k_is)
    (case lmC3 => k_is)
    (case cmC3 => k_is)
    (case kmC3 => k_is)
    (case pgC => k_is)
    (case hdC => k_is)
    (case poC => k_is)
    (case saC => k_is)
    (case mkC => k_is)
    (case kcC => k_is)
    (case zC_number => k_is)
    (case zC_worths => k_is)
    (case zC_said => k_is)
    (case nCU => k_is)
    (case nmU0 => k_is)
    (case imU0 => k_is)
    (case lmU0 => k_is)
    (case cmU0 => k_is)
    (case kmU0 => k_is)
    (case nmU1 => k_is)
    (case imU1 => k_is)
    (case lmU1 => k_is)
    (case cmU1 => k_is)
    (case kmU1 => k_is)
    (case nmU2 => k_is)
    (case imU2 => k_is)
    (case lmU2 => k_is)
    (case cmU2 => k_is)
    (case kmU2 => k_is)
    (case nmU3 => k_is)
    (case imU3 => k_is)
    (case lmU3 => k_is)
    (case cmU3 => k_is)
    (case kmU3 => k_is)
    (case nmU4 => k_is)
    (case imU4 => k_is)
    (case lmU4 => k_is)
    (case cmU4 => k_is)
    (case kmU4 => k_is)
    (case pgU => k_is)
    (case hdU => k_is)
    (case poU => k_is)
    (case saU => k_is)
    (case mkU => k_is)
    (case kcU => k_is)
    (case zU_rows => k_is)
    (case zU_laying => k_is)
    (case zU_desk => k_is)
    (case zU_row => k_is)
    (case zU_now => k_is)
    (case mBP => k_is)
    (case mBL => k_is)
    (case mBF => k_is)
    (case mBG => k_is)
    (case mBE => k_is)
    (case mTM_ => k_is)
    (case mOV => k_is)
    (case mBT => k_is)
    (case mDE => k_is)
    (case b_ValueError => k_is)
    (case iBP => k_is)
    (case tBP => k_is)
    (case iBL => k_is)
    (case tBL => k_is)
    (case iBF => k_is)
    (case tBF => k_is)
    (case iBG => k_is)
    (case tBG => k_is)
    (case iBE => k_is)
    (case tBE => k_is)
    (case iTM_ => k_is)
    (case tTM_ => k_is)
    (case iOV => k_is)
    (case tOV => k_is)
    (case iBT => k_is)
    (case tBT => k_is)
    (case iDE => k_is)
    (case tDE => k_is)
    (case bDE => k_is)
    (case TM__hg => k_is)
    (case TM__hk => k_is)
    (case TM__hs => k_is)
    (case TM__hd => k_is)
    (case TM__ha => k_is)
    (case TM__hn => k_is)
    (case TM__ht => k_is)
    (case TM__hm => k_is)
    (case TM__sDE => k_is)
    (case TM__sVE => k_is)
    (case TM__s0 => k_is)
    (case TM__s1 => k_is)
    (case TM__s2 => k_is)
    (case TM__s3 => k_is)
    (case TM__s4 => k_is)
    (case TM__s6 => k_is)
    (case TM__s7 => k_is)
    (case TM__n0 => decide)
    (case TM__n1 => decide)
    (case TM__n2 => decide)
    (case TM__n3 => decide)
    (case TM__n4 => decide)
    (case TM__n6 => decide)
    (case TM__n7 => decide)
    (case TM__rx => k_exc)
    (case TM__rk => k_is)
    (case TM__rt => k_is)
    (case cK => k_is)
    (case c11 => exact rfl)
    (case g11 => exact rfl)
    (case g18 => exact rfl)
    (case g7 => exact rfl)
    (case g9 => exact rfl)
    (case g10 => exact rfl)
    (case cP => decide)
    (case nP => first | k_is | rfl | decide +kernel)
    (case b_len => k_is)
    (case b_int => k_is)
    (case b_range => k_is)
    (case b_isinstance => k_is)
    (case b_tuple => k_is)
    (case b_list => k_is)
    (case b_sorted => k_is)
    (case b_sum => k_is)
    (case b_max => k_is)
    (case b_enumerate => k_is)
    (case b_zip => k_is)
    (case b_all => k_is)
    (case b_bool => k_is)
    (case b_str => k_is)
    (case b_set => k_is)
    (case b_min => k_is)
    (case b_dict => k_is)
    (case qW => k_is)
    (case qR => k_is)
    (case qN => k_is)
    (case qF => k_is)
    (case qL => k_is)
    (case qC => k_is)
    (case q2 => k_is)
    (case q24 => k_is)
    (case q3 => k_is)
    (case q5 => k_is)
    (case pD => k_is)
    (case pL => k_is)
    (case pK => k_keys)
    (case w_load => k_is)
    (case u_load => k_is)
    (case v_load => exact (.cons ⟨_, rfl⟩ (.cons ⟨_, rfl⟩ .nil)))
    (case w_add => k_is)
    (case u_add => k_is)
    (case v_add => exact (.cons ⟨_, rfl⟩ (.cons ⟨_, rfl⟩ .nil)))
    (case w_take => k_is)
    (case u_take => k_is)
    (case v_take => exact (.cons ⟨_, rfl⟩ (.cons ⟨_, rfl⟩ .nil)))
    (case w_store => k_is)
    (case u_store => k_is)
    (case v_store => exact (.cons ⟨_, rfl⟩ (.cons ⟨_, rfl⟩ .nil)))
    (case w_say => k_is)
    (case u_say => k_is)
    (case v_say => exact (.cons ⟨_, rfl⟩ .nil))
    (case w_test => k_is)
    (case u_test => k_is)
    (case v_test => exact (.cons ⟨_, rfl⟩ (.cons ⟨_, rfl⟩ .nil)))
    (case w_stop => k_is)
    (case u_stop => k_is)
    (case v_stop => exact .nil)
    (case lo => decide)
    (case pW => k_is)
    (case pWL => k_is)
    (case pWK => k_keys)
    (case x_load => k_is)
    (case x_add => k_is)
    (case x_take => k_is)
    (case x_store => k_is)
    (case x_say => k_is)
    (case x_test => k_is)
    (case x_stop => k_is)
    (case lo2 => decide)
