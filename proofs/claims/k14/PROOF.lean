import PyProof.Rows.All
import Wide.All
import OpenK.AllK
import Wide.FinOn
import HandS.ForMost
import HandS.Conv
import HandS.Zip
import HandS.TupAny
import HandS.IsInst
import HandS.SortRule
import HandS.DictTup
import HandS.WrittenGet
import PySem.Challenge.RW_drumlay_k14_whole_rounds
import KE.GoesEnum
import KE.GoesMore
import HandS.Strs
import HandS.SetFor
import HandS.SortInts
import HandS.ExcIs
import HandS.Lambda
import KE.SortData
import HandS.Deep
import HandS.Star
import HandS.WordsExc
import HandS.ExcOwn
import KE.KDictZip
import PyProof.ListNew
import HandS.EndOwn
set_option Elab.async false
set_option linter.all false
set_option maxRecDepth 100000
set_option maxHeartbeats 4000000
namespace DL
open PySem L2
abbrev Frg := PySem.W.Frag
/-! ### heaps -/
theorem sz {n : Nat} (h : n ≤ 100000) : n ≤ sizeLine := Nat.le_trans h (by decide)
theorem szl {n : Nat} (h : n < 100000) : n < sizeLine := Nat.lt_of_lt_of_le h (by decide)
def But (d : Addr) (H H' : Hp) : Prop := ∀ a o, a ≠ d → H a = some o → H' a = some o
theorem But.refl (d : Addr) (H : Hp) : But d H H := fun _ _ _ h => h
theorem But.trans {d : Addr} {H H1 H2 : Hp} (a : But d H H1) (b : But d H1 H2) : But d H H2 := fun x o n h => b x o n (a x o n h)
theorem But.of {d : Addr} {H H' : Hp} (a : Same H H') : But d H H' := fun x o _ h => a x o h
abbrev Same1 := @L2.Same
theorem Same.new {H : Hp} {p : Addr} {o : HO} (h : H p = none) : Same H (upd H p o) := fun a u e => by
  rw [upd_ne (ne_of_none e h)]; exact e
theorem Same.mut {H H' : Hp} {p : Addr} {o : HO} (e : Same H H') (h : H p = none) : Same H (upd H' p o) := fun a u ha => by
  rw [upd_ne (ne_of_none ha h)]; exact e a u ha
theorem Same.get {H H' : Hp} (s : Same H H') {a : Addr} {o : HO} (h : H a = some o) : H' a = some o := s a o h
def DiceV (H : Hp) (d sa : Addr) : Prop := ∃ (i m r : Int), H d = some (.lst [.ref sa, .int i, .int m, .int r]) ∧ 0 ≤ i ∧ 0 ≤ m ∧ m < 2147483647
structure Ent (K : Frg) (H : Hp) (d sa : Addr) (ns : List Int) : Prop where
  dice : DiceV H d sa
  scr : SqL K H sa (ns.map V.int)
  len : ns.length ≤ 63
structure Dc (K : Frg) (H0 H : Hp) (d sa : Addr) (ns : List Int) : Prop where
  e0 : Ent K H0 d sa ns
  but : But d H0 H
  dice : DiceV H d sa
variable {K : Frg} {H0 H H' : Hp} {d sa : Addr} {ns : List Int}
theorem But.seq (b : But d H0 H) (dv : DiceV H0 d sa) (h : SqL K H0 sa (ns.map V.int)) : SqL K H sa (ns.map V.int) := by
  obtain ⟨i, m, r, z, _⟩ := dv
  rcases h with (h | ⟨o, h⟩) | h
  · refine .inl (.inl (b _ _ (fun e => ?_) h))
    subst e
    rw [z] at h
    have q : ([.ref sa, .int i, .int m, .int r] : List V) = ns.map V.int := by injection (Option.some.inj h)
    cases ns with
    | nil => cases q
    | cons x xs => have q2 := (List.cons.inj q).1; cases q2
  · refine .inl (.inr ⟨o, b _ _ (fun e => ?_) h⟩)
    subst e
    rw [z] at h; cases h
  · exact .inr h
theorem Dc.refl (e : Ent K H d sa ns) : Dc K H H d sa ns := ⟨e, But.refl _ _, e.dice⟩
theorem Dc.ent (c : Dc K H0 H d sa ns) : Ent K H d sa ns := ⟨c.dice, c.but.seq c.e0.dice c.e0.scr, c.e0.len⟩
theorem Dc.here (c : Dc K H0 H d sa ns) {p : Addr} (h : H p = none) : H0 p = none := by
  cases q : H0 p with
  | none => rfl
  | some o =>
    by_cases e : p = d
    · subst e
      obtain ⟨i, m, r, z, _⟩ := c.dice
      rw [z] at h; cases h
    · rw [c.but p o e q] at h; cases h
theorem Dc.ned (c : Dc K H0 H d sa ns) {p : Addr} (h : H0 p = none) : p ≠ d := fun e => by
  subst e
  obtain ⟨i, m, r, z, _⟩ := c.e0.dice
  rw [z] at h; cases h
theorem Dc.mut (c : Dc K H0 H d sa ns) {p : Addr} {o : HO} (h : H0 p = none) : Dc K H0 (upd H p o) d sa ns := by
  refine ⟨c.e0, fun a u n e => ?_, ?_⟩
  · rw [upd_ne (ne_of_none e h)]; exact c.but a u n e
  · obtain ⟨i, m, r, z, q⟩ := c.dice
    exact ⟨i, m, r, by rw [upd_ne (c.ned h).symm]; exact z, q⟩
theorem Dc.new (c : Dc K H0 H d sa ns) {p : Addr} {o : HO} (h : H p = none) : Dc K H0 (upd H p o) d sa ns := c.mut (c.here h)
theorem Dc.trans (c : Dc K H0 H d sa ns) (c2 : Dc K H H' d sa ns) : Dc K H0 H' d sa ns := ⟨c.e0, c.but.trans c2.but, c2.dice⟩
theorem Dc.same (c : Dc K H0 H d sa ns) (s : Same H H') : Dc K H0 H' d sa ns := by
  obtain ⟨i, m, r, z, q⟩ := c.dice
  exact ⟨c.e0, c.but.trans (But.of s), i, m, r, s _ _ z, q⟩
theorem Dc.roll (c : Dc K H0 H d sa ns) {i m r : Int} (h0 : 0 ≤ i) (h1 : 0 ≤ m) (h2 : m < 2147483647) : Dc K H0 (upd H d (.lst [.ref sa, .int i, .int m, .int r])) d sa ns :=
  ⟨c.e0, fun a u n e => by rw [upd_ne n]; exact c.but a u n e, ⟨i, m, r, upd_same, h0, h1, h2⟩⟩
def Kp (H H' : Hp) : Prop := ∀ a xs, H a = some (.tup xs) → H' a = some (.tup xs)
theorem Kp.refl (H : Hp) : Kp H H := fun _ _ h => h
theorem Kp.trans {H H1 H2 : Hp} (a : Kp H H1) (b : Kp H1 H2) : Kp H H2 := fun x o h => b x o (a x o h)
theorem Kp.same (s : Same H H') : Kp H H' := fun a xs h => s a _ h
theorem Kp.new {p : Addr} {o : HO} (h : H p = none) : Kp H (upd H p o) := Kp.same (Same.new h)
theorem Kp.lst {p : Addr} {o : HO} {ys : List V} (h : H p = some (.lst ys)) : Kp H (upd H p o) := fun a xs e => by
  rw [upd_ne (ne_of e h (by intro z; cases z))]; exact e
theorem Dc.kp (c : Dc K H0 H d sa ns) : Kp H0 H := fun a xs h => c.but a _ (by
  intro e; subst e
  obtain ⟨i, m, r, z, _⟩ := c.e0.dice
  rw [z] at h; cases h) h
@[elab_as_elim] theorem alloc {R : Hp → Prop} {H : Hp} {p : Addr} {o : HO} (hp : H p = none) (k : ∀ H', Same H H' → H' p = some o → R H') : R (upd H p o) := k _ (Same.new hp) upd_same
@[elab_as_elim] theorem change {R : Hp → Prop} {H : Hp} {p : Addr} {o : HO} (k : ∀ H', But p H H' → H' p = some o → R H') : R (upd H p o) := k _ (fun a u n e => by rw [upd_ne n]; exact e) upd_same
/-! ### one list read or written by place -/
theorem at0 {x : V} {xs : List V} : atI (x :: xs) 0 = some x := atI_nat (j := 0) rfl
theorem at1 {x y : V} {xs : List V} : atI (x :: y :: xs) 1 = some y := atI_nat (j := 1) rfl
theorem at2 {x y z : V} {xs : List V} : atI (x :: y :: z :: xs) 2 = some z := atI_nat (j := 2) rfl
theorem at3 {x y z u : V} {xs : List V} : atI (x :: y :: z :: u :: xs) 3 = some u := atI_nat (j := 3) rfl
theorem pg_tupK {X : Cx} {pos : Pos} (K : PySem.W.Frag) (hK : X.K = K) {es : List Expr} {k : Nat} {t : TGs} {n : Nat} (hc : X.calm = true) (h : PGs X es t)
    (hn : (assignEach es X.env).length = n := by rfl) (hst : (assignEach es X.env).findIdx? (·.1) = none := by rfl) : PG X (.Tuple es k pos) (gTup K n t) := hK ▸ pg_tup hc h hn hst
theorem upd_none {H : Hp} {p a : Addr} {o : HO} (h : upd H p o a = none) : H a = none := by
  by_cases e : a = p
  · subst e; rw [upd_same] at h; cases h
  · rwa [upd_ne e] at h
theorem range_elim {lo : Int} {n : Nat} {g : TG} {tb : TS} {D : Ends} {σ : L2.St} {H : Hp} (Pv : Nat → L2.St → Hp → Prop) (R : L2.St → Hp → Prop) (h0 : Pv 0 σ H) (key : ∀ σ H, R σ H → D.nx σ H)
    (hs : ∀ Nx : L2.St → Hp → Prop, (∀ σ H, R σ H → Nx σ H) → ∀ i σ H, i < n → Pv i σ H →
      g (.int (lo + i)) σ H fun σ2 H2 => tb { D with nx := Pv (i + 1), ct := Pv (i + 1), bk := Nx } σ2 H2) (hd : ∀ σ H, Pv n σ H → R σ H) :
    ∃ W : Nat → Nat → L2.St → Hp → Prop, (∃ m, W 0 m σ H) ∧ ∀ i m σ H, W i m σ H →
      ((Itr lo n).stop i H ∧ D.nx σ H) ∨ ((Itr lo n).go i H ∧ ∃ N : L2.St → Hp → Prop, (∀ σ' H', N σ' H' → ∃ m', m' < m ∧ W (i + 1) m' σ' H') ∧
        ∀ x H', (Itr lo n).yld i H x H' → g x σ H' fun σ2 H2 => tb { D with nx := N, ct := N, bk := D.nx } σ2 H2) := for_range Pv h0 (hs D.nx key) fun σ H h => key _ _ (hd _ _ h)
end DL
namespace DLR
open PySem PySem.Spec PyProof.Rows L2
/-! ### enumerate(a tuple) -/
def itO (a : Addr) : Obj := { cls := .type "tuple_iterator", data := .fields #[.ref a, .int 0 0] }
def enO (i : Addr) : Obj := { cls := .type "enumerate", data := .fields #[.none, .bool false, .ref i, rawInt 0, .none, .none] }
theorem made_enumT (a : Addr) (items : Array Value) :
    Meets (Builtin.«enumerate.__new__» ⟨[.type "enumerate", .ref a], []⟩) (fun _ R s => s.heap.IsTuple a items ∧
      R (.ok (.ret (.ref (s.heap.push (itO a)).objs.size))) { s with heap := (s.heap.push (itO a)).push (enO s.heap.objs.size) }) := by
  refine .of_wp fun prog w A R s h => ?_
  obtain ⟨hp, g, d, tk, os⟩ := s
  obtain ⟨h1, h⟩ := h
  have hs2 := sub_enumerate
  have it1 : ∀ {A' : Around} {E : Value → Shared → Prop} {Q : Value → Shared → Prop}, Q (.ref hp.objs.size) ⟨hp.push (itO a), g, d, tk, os⟩ →
      wpAny (model prog w) A' (pyIter (.ref a)) Q E ⟨hp, g, d, tk, os⟩ := fun q => (begins_tuple a items).iter prog w _ _ ⟨hp, g, d, tk, os⟩ _ h1 q
  wp_walk using it1
  refine wpAny_stack_any fun st => wpAny_pure ?_
  split
  · rename_i c _ _ _ _ _
    cases (c == Value.type "enumerate") <;> (wp_walk using it1; exact ⟨_, rfl, h⟩)
  · wp_walk using it1
    exact ⟨_, rfl, h⟩
section
variable {prog : Program} {w : World} {A : Around} {E : Value → Shared → Prop} {s : Shared}
theorem call_enumT {a : Addr} {items : Array Value} {Q : Value → Shared → Prop} (hT : s.heap.IsTuple a items)
    (h : ∀ h', IsEnum h' (s.heap.objs.size + 1) s.heap.objs.size 0 .none → h'.IsTupleIter s.heap.objs.size a 0 → (∀ b o, s.heap.get? b = some o → h'.get? b = some o) →
      Q (.ref (s.heap.objs.size + 1)) { s with heap := h' }) : wpAny (model prog w) A (call (.type "enumerate") [.ref a]) Q E s := by
  refine callType_new F.called_enumerate (by decide) (F.typeCall_enumerate_1 _) (F.newCall_enumerate_1 _)
    (fun obj => F.args_object_init_2 obj _) F.entry_enumerate_new (made_enumT a items) ⟨hT, ?_⟩
  have hz : (s.heap.push (itO a)).objs.size = s.heap.objs.size + 1 := Heap.size_push ..
  show _ ∧ _
  rw [hz]
  have he : IsEnum ((s.heap.push (itO a)).push (enO s.heap.objs.size)) (s.heap.objs.size + 1) s.heap.objs.size 0 .none := by
    have q := Heap.get?_push_size (s.heap.push (itO a)) (o := enO s.heap.objs.size) rfl
    rw [hz] at q
    exact q
  exact ⟨⟨_, he, rfl⟩, h _ he ⟨_, Heap.get?_push_of_some _ (Heap.get?_push_size _ rfl), rfl, rfl⟩
    fun b o x => Heap.get?_push_of_some _ (Heap.get?_push_of_some _ x)⟩
end
def IteT (K : PySem.W.Frag) (a : Addr) : It :=
  ⟨fun i H => ∃ (xs : List V) (x : V), SqT K H a xs ∧ xs[i]? = some x,
   fun i H v H' => ∃ T x, v = .ref T ∧ H T = none ∧ H' = upd H T (.tup [.int (i : Nat), x]) ∧ ∀ xs, SqT K H a xs → xs[i]? = some x,
   fun i H => ∃ xs : List V, SqT K H a xs ∧ xs.length ≤ i⟩
theorem turn_enumT {P : Program} {w : World} {K : PySem.W.Frag} {elts : List Expr} {kk : Nat} {tpos : Pos} (a e it : Addr) :
    Turn P w K (.Tuple elts kk tpos) (IteT K a) [e, it] e (fun i h => (∃ old, IsEnum h e it ((i : Nat) : Int) old) ∧ h.IsTupleIter it a i ∧ e ≠ it ∧ a ≠ e ∧ a ≠ it) where
  mem := by simp
  obj := fun i h st b hb => by
    obtain ⟨⟨old, he⟩, ⟨o, ho, hc, hd⟩, _⟩ := st
    rcases (show b = e ∨ b = it by simpa using hb) with z | z
    · rw [z]; exact ⟨_, he, fun v q => nomatch q⟩
    · rw [z]; exact ⟨o, ho, fun v q => by rw [hd] at q; cases q⟩
  keep := fun i h h' st k => let ⟨⟨old, he⟩, hi, z⟩ := st; ⟨⟨old, k e (by simp) _ he⟩, hi.at fun o q => k it (by simp) o q, z⟩
  item := by
    intro X hP hw hK hc i pins s σ H E I hf st hg
    subst hP hw hK
    obtain ⟨⟨old, he⟩, hit, hne, hae, hai⟩ := st
    obtain ⟨xs, x, hq, hx⟩ := hg
    obtain ⟨its, rv, p, hz⟩ := I.tuple hq
    obtain ⟨u, hu, ru⟩ := rv.get hx
    have hel : e < s.heap.objs.size := Heap.lt_size he
    have hil : it < s.heap.objs.size := by obtain ⟨_, q, _⟩ := hit; exact Heap.lt_size q
    have hlt : i < its.toArray.size := by
      have q := (List.getElem?_eq_some_iff.mp hu).1
      simpa using q
    refine wpAny_pyNext_enum_itemD (Draws.tuple (A := X.A.in1) (I.ok.hd hc) it a hai its.toArray) he ⟨hit, p⟩ hlt hne
      (by simp [hne, Ne.symm hae]) fun v h' tk hv ho hst' hT hsz hk => ?_
    have ev : v = u := by
      have q : its[i]? = some v := by simpa using hv
      rw [hu] at q
      exact (Option.some.inj q).symm
    subst ev
    refine ⟨_, rfl, wpAny_letOwnedTupleGo_enum (s := { s with heap := h', toks := tk + 1 }) ho fun h'' he' sb => ?_⟩
    have hT2 := (sb.2 _ (Nat.ne_of_gt hel)).trans hT
    have new : ObjOk X.prog X.w (upd H s.heap.objs.size (.tup [.int (i : Nat), x])) h'' s.heap.objs.size (.tup [.int (i : Nat), x]) :=
      ⟨by show 2 ≤ sizeLine; decide, [.int i tk, v], .cons ⟨_, rfl⟩ (.cons ru .nil), ⟨_, hT2, rfl, _, rfl⟩⟩
    have I1 : Inv X pins σ (upd H s.heap.objs.size (.tup [.int (i : Nat), x])) { s with heap := h'', toks := tk + 1 } :=
      I.turnedNew (ch := [e, it]) (fun b ob hb q =>
        (sb.2 b (fun z => hb (by simp [z]))).trans (hk b ob (fun z => hb (by simp [z])) (fun z => hb (by simp [z])) q)) hf (Nat.le_refl _) new
    refine ⟨.ref s.heap.objs.size, _, I1, rfl, ⟨_, x, rfl, I.hok.fresh (Nat.le_refl _), rfl, fun ys hy => by rw [I.tuple_inj hy hq]; exact hx⟩,
      ⟨⟨v, ?_⟩, hst'.1.at fun o q => (sb.2 it (Ne.symm hne)).trans q, hne, hae, hai⟩, fun b hb => ?_⟩
    · rw [show ((i + 1 : Nat) : Int) = (i : Int) + 1 by omega]
      exact he'
    · have hb' : b < s.heap.objs.size := by
        rcases (show b = e ∨ b = it by simpa using hb) with z | z
        · rw [z]; exact hel
        · rw [z]; exact hil
      rw [upd_ne (Nat.ne_of_lt hb')]
      exact (hf b hb).1
  done := by
    intro X hP hw hK hc i pins s σ H E I hf st hg
    subst hP hw hK
    obtain ⟨⟨old, he⟩, hit, hne, hae, hai⟩ := st
    obtain ⟨xs, hq, hx⟩ := hg
    obtain ⟨its, rv, p, hz⟩ := I.tuple hq
    obtain ⟨f0, f1, f2, f3, f4, f5⟩ := hf it (by simp)
    have hl := rv.length
    have hnone : its.toArray[i]? = none := by simp; omega
    have D : Draws X.prog X.w X.A.in1 it [it, a] 0 (fun _ _ => False) (fun _ h => h.IsTupleIter it a i ∧ h.IsTuple a its.toArray) :=
      { live := fun _ _ st => let ⟨o, ho, _⟩ := st.1; ⟨o, ho⟩
        frame := fun _ _ _ st hk => ⟨st.1.at fun o e => hk it (by simp) o e, st.2.at fun o e => hk a (by simp) o e⟩
        item := fun i s Q E hi => absurd hi (Nat.not_lt_zero _)
        done := fun s Q E st hE => wpAny_nextOf_tuple_end (I.ok.hd hc) st.1 st.2 hnone hE }
    exact wpAny_pyNext_enum_endD D he ⟨hit, p⟩ fun h' eb => ⟨rfl, I.turned (t' := s.toks) (fun b o hb q => eb b o hb q) f0 f1 f3 f4 f5⟩
  self := fun A i s Q E st h => let ⟨⟨_, he⟩, _⟩ := st; wpAny_pyIter_enum he h
def iEnumT (K : PySem.W.Frag) (ta : TA) : TI := fun σ H R => ta σ H fun vs H1 => ∃ a xs, vs = [.ref a] ∧ SqT K H1 a xs ∧ R (IteT K a) H1
theorem pi_enumT {X : Cx} {e : Expr} {ta : TA} {p pos tpos : Pos} {elts : List Expr} {kk : Nat} (hg : Gl X "enumerate") (hm : X.mg "enumerate" = none) (ha : PA X [e] ta)
    (hs : starEach [e] X.env = [(false, eval e X.env)] := by rfl) : PI X (.Tuple elts kk tpos) (.Call (.Name "enumerate" p) [e] [] pos) (iEnumT X.K ta) := by
  refine ⟨fun pins s σ H R I h => ?_⟩
  refine Call_ (ld_blt I hg hm boot_enumerate (PyProof.Rows.callWith_type1 (thn (ha.run pos pins s σ H _ I h) fun us s1 ⟨vs, H1, I1, r1, q1⟩ => ?_) hs rfl))
  obtain ⟨a, xs, ex, hq, q⟩ := q1
  subst ex
  cases r1 with
  | cons r rr =>
    cases rr
    cases r
    obtain ⟨its, rv, p', hz⟩ := I1.tuple hq
    have hal : a < s1.heap.objs.size := by obtain ⟨o, q, _⟩ := p'; exact Heap.lt_size q
    refine call_enumT p' fun h' he hit hk => wpAny_pyIter_enum he ?_
    have I2 : Inv X pins σ H1 { s1 with heap := h' } := I1.kept (t' := s1.toks) hk
    refine ⟨s1.heap.objs.size + 1, [s1.heap.objs.size + 1, s1.heap.objs.size], _, _, H1, rfl, I2, turn_enumT a (s1.heap.objs.size + 1) s1.heap.objs.size,
      ⟨⟨.none, he⟩, hit, Nat.succ_ne_self _, Nat.ne_of_lt (Nat.lt_succ_of_lt hal), Nat.ne_of_lt hal⟩, fun b hb => ?_, q⟩
    have hle : s1.heap.objs.size ≤ b := by
      rcases (show b = s1.heap.objs.size + 1 ∨ b = s1.heap.objs.size by simpa using hb) with z | z
      · rw [z]; exact Nat.le_succ _
      · rw [z]; exact Nat.le_refl _
    exact I1.fpOk hle (I1.hok.fresh hle)
theorem for_enumT {K : PySem.W.Frag} {a : Addr} {xs : List V} {g : TG} {tb : TS} {D : Ends} {σ : L2.St} {H : Hp} (Pv : Nat → L2.St → Hp → Prop) (h0 : Pv 0 σ H) (hq : ∀ i σ H, Pv i σ H → SqT K H a xs)
    (hs : ∀ i x T σ H, xs[i]? = some x → Pv i σ H → H T = none → g (.ref T) σ (upd H T (.tup [.int (i : Nat), x])) fun σ2 H2 => tb { D with nx := Pv (i + 1), ct := Pv (i + 1), bk := D.nx } σ2 H2)
    (hd : ∀ σ H, Pv xs.length σ H → D.nx σ H) :
    ∃ W : Nat → Nat → L2.St → Hp → Prop, (∃ m, W 0 m σ H) ∧ ∀ i m σ H, W i m σ H →
      ((IteT K a).stop i H ∧ D.nx σ H) ∨ ((IteT K a).go i H ∧ ∃ N : L2.St → Hp → Prop, (∀ σ' H', N σ' H' → ∃ m', m' < m ∧ W (i + 1) m' σ' H') ∧ ∀ x H', (IteT K a).yld i H x H' → g x σ H' fun σ2 H2 => tb { D with nx := N, ct := N, bk := D.nx } σ2 H2) := by
  refine ⟨fun i m σ H => m = xs.length - i ∧ i ≤ xs.length ∧ Pv i σ H, ⟨xs.length, rfl, Nat.zero_le _, h0⟩, ?_⟩
  rintro i m σ H ⟨rfl, hi, p⟩
  have qx := hq i σ H p
  by_cases hlt : i < xs.length
  · refine .inr ⟨⟨xs, _, qx, List.getElem?_eq_getElem hlt⟩, Pv (i + 1), fun σ' H' p' => ⟨_, by omega, rfl, hlt, p'⟩, fun v H' y => ?_⟩
    obtain ⟨T, x', rfl, hT, rfl, f1⟩ := y
    exact hs i x' T σ H (f1 xs qx) p hT
  · have e : i = xs.length := by omega
    subst e
    exact .inl ⟨⟨xs, qx, Nat.le_refl _⟩, hd σ H p⟩
/-! ### slices and sums of tuples, told by what holds behind -/
theorem cut_whole {xs : List V} {lo hi : Option Int} (h : HT.sIx xs.length 0 lo = 0 ∧ HT.sIx xs.length xs.length hi = xs.length) : cutV xs lo hi = xs := by
  unfold cutV
  rw [h.1, h.2, List.drop_zero, Nat.sub_zero, List.take_length]
def rSlS : V → Option Int → Option Int → Hp → VK → Prop := fun x lo hi H Q => ∃ a xs, x = .ref a ∧ H a = some (.tup xs) ∧
  ∀ t H', DL.Same1 H H' → H' t = some (.tup (cutV xs lo hi)) → Q (.ref t) H'
theorem sl_tupS {X : Cx} : SlR X rSlS := by
  intro pins s σ H x v vl vu lo hi sl Q I rx hs pl pu h
  obtain ⟨a, xs, rfl, ha, q⟩ := h
  exact sl_tupA pins s σ H _ v vl vu lo hi sl Q I rx hs pl pu ⟨a, xs, rfl, SqT.of ha, fun w => q a H (Same.refl _) (by rw [cut_whole w]; exact ha),
    fun _ p hp => q p _ (DL.Same.new hp) upd_same⟩
def rCatS : R2 := fun x y H Q => ∃ a b xs ys, x = .ref a ∧ y = .ref b ∧ H a = some (.tup xs) ∧ H b = some (.tup ys) ∧ xs.length + ys.length ≤ sizeLine ∧
  ∀ t H', DL.Same1 H H' → H' t = some (.tup (xs ++ ys)) → Q (.ref t) H'
theorem op_catS {X : Cx} : OpR X (binaryOp .Add) rCatS := by
  intro pins s σ H x y v u Q I rx ry h
  obtain ⟨a, b, xs, ys, rfl, rfl, ha, hb, hz, q⟩ := h
  refine op_catA pins s σ H _ _ v u Q I rx ry ⟨a, b, xs, ys, rfl, rfl, SqT.of ha, SqT.of hb, hz, fun e => q b H (Same.refl _) ?_, fun _ e => q a H (Same.refl _) ?_, fun _ _ p hp => q p _ (DL.Same.new hp) upd_same⟩
  · rw [e]; exact hb
  · rw [e, List.append_nil]; exact ha
/-! ### a method's call within a comprehension's block -/
theorem pe_bmK {X : Cx} {o e : Expr} {es : List Expr} {to : TE} {t : TA} {name : Str} {apos cpos : Pos} {T id : String} {r : V → List V → Hp → VK → Prop} (K0 : PySem.W.Frag) (hK : X.K = K0)
    (pa : PlainAttrs T) (slot : Slot T name id) (hty : typeOf (.builtin id) = pure (.type "method_descriptor")) (hm : MtR X id r) (ho : PE X o to) (ha : PA X (e :: es) t)
    (hbase : attributeBase o name X.env (eval o X.env) = eval o X.env := by rfl)
    (hfew : ((backTo cpos (starEach (e :: es) X.env)).all (fun x => !x.1) && (backToKw cpos (keywordEach [] X.env)).all (fun x => x.1.isSome)
      && decide ((e :: es).length + ([] : List Keyword).length + (if ([] : List Keyword).isEmpty then 0 else 1) < 30)) = true := by rfl)
    (hline : (apos.endLine == cpos.line) = true := by rfl)
    (hs : starEach (e :: es) X.env = (false, eval e X.env) :: starEach es X.env := by rfl) (hplain : (backTo cpos (starEach es X.env)).any (·.1) = false := by rfl) :
    PE X (.Call (.Attribute o name apos) (e :: es) [] cpos) (tBM K0 T r to t) := hK ▸ pe_bm pa slot hty hm ho ha hbase hfew hline hs hplain
theorem mt_indexK {X : Cx} (K0 : PySem.W.Frag) (hK : X.K = K0) : MtR X "list.index" (rIndex K0) := hK ▸ mt_index
def rLenK (K : PySem.W.Frag) : List V → Hp → VK → Prop := fun xs H Q => ∃ p ys, xs = [V.ref p] ∧ (SqL K H p ys ∨ SqT K H p ys) ∧ Q (.int ys.length) H
theorem call_lenK {X : Cx} (K0 : PySem.W.Frag) (hK : X.K = K0) : CallR X (.builtin "len") (rLenK K0) := hK ▸ call_len_seq
theorem ix_tupK {X : Cx} (K0 : PySem.W.Frag) (hK : X.K = K0) : IxR X (rIxT K0) := hK ▸ ix_tup
theorem ix_listK {X : Cx} (K0 : PySem.W.Frag) (hK : X.K = K0) : IxR X (rIxL K0) := hK ▸ ix_list
theorem ix_seqK {X : Cx} (K0 : PySem.W.Frag) (hK : X.K = K0) : IxR X (rIx K0) := hK ▸ ix_seq
theorem op_catTK {X : Cx} (K0 : PySem.W.Frag) (hK : X.K = K0) : OpR X (binaryOp .Add) (rCatT K0) := hK ▸ op_catT
theorem call_isiK2 {X : Cx} (K0 : PySem.W.Frag) (hK : X.K = K0) : CallR X (.builtin "isinstance") (rIsi K0) := hK ▸ call_isi
/-! ### xs[i] op= e of a list -/
def rGetL (K : PySem.W.Frag) : V → V → Hp → VK → Prop := fun x y H Q => ∃ (p : Addr) (xs : List V) (j : Nat) (v : V), x = .ref p ∧ y = .int (j : Int) ∧ SqL K H p xs ∧ xs[j]? = some v ∧ Q v H
theorem get_list {X : Cx} : PGet X (rGetL X.K) := by
  intro pins s σ H o i ov iv Q I ro ri h
  obtain ⟨p, xs, j, v, rfl, rfl, hq, he, q⟩ := h
  cases ro
  obtain ⟨t, rfl⟩ := ri
  obtain ⟨its, r, pl, hz⟩ := I.list hq
  obtain ⟨u, hu, ru⟩ := r.get he
  have hj := (List.getElem?_eq_some_iff.mp he).1
  have hn := line63
  exact wpAny_getItem_list pl.isList (by omega) (by omega) (x := u) (by simpa using hu) ⟨v, H, I, ru, q⟩
end DLR
namespace DL
open PySem L2
def top (i : Nat) : Stmt := PySem.Challenge.pw_drumlay_k14_whole_rounds.main.body.getD i (.Pass ⟨0, 0, 0, 0⟩)
structure Bt (mg : Str → Option Value) : Prop where
  len : mg "len" = none
  int : mg "int" = none
  range : mg "range" = none
  isinstance : mg "isinstance" = none
  tuple : mg "tuple" = none
  list : mg "list" = none
  sorted : mg "sorted" = none
  sum : mg "sum" = none
  max : mg "max" = none
  enumerate : mg "enumerate" = none
  zip : mg "zip" = none
  all : mg "all" = none
  bool : mg "bool" = none
  str : mg "str" = none
abbrev sDice : Stmt := top 51
abbrev sNext : Stmt := top 52
def spDice (K : Frg) : Sp := fun vs H Q _ => ∃ (sa : Addr) (ns : List Int), vs = [.ref sa] ∧ SqL K H sa (ns.map V.int) ∧ ns.length ≤ 63 ∧
  ∀ p H', Same H H' → H p = none → Ent K H' p sa ns → Q (.ref p) H'
def spNext (K : Frg) : Sp := fun vs H Q _ => ∃ (d sa : Addr) (ns : List Int) (many : Int), vs = [.ref d, .int many] ∧ Ent K H d sa ns ∧ 0 < many ∧ many < 1073741824 ∧
  ∀ n H', 0 ≤ n → n < many → Dc K H H' d sa ns → Q (.int n) H'
section
variable {P : Program} {w : World} {K : PySem.W.Frag} {mg : Str → Option Value} {base : Heap}
theorem scDice : FnScope ["_law_script", "_law_mixed_here", "_law_cell"] ["_law_script"] (defScope sDice) := ⟨rfl, rfl, rfl, by decide +kernel, rfl, by decide +kernel, by decide +kernel⟩
theorem ok_dice {f : Addr} {fd : FuncData} (F : Fun K "_law_dice" "_law_dice" sDice f fd) (T : Bt mg) : FnOk P w K mg base CX0 1 f fd ["_law_script"] (spDice K) := by
  refine F.ok scDice (fun vs H Q E h => ?_) (fun cdv A outer s H vs Q E hr h => ?_)
  · obtain ⟨sa, ns, rfl, _⟩ := h
    rfl
  · obtain ⟨sa, ns, rfl, hS, hlen, k⟩ := h
    refine ⟨_, pss_cons (ps_set (i := 1) scDice.nd rfl (Or.inl rfl) pe_int)
      (pss_cons (ps_for PassesOwn.never rfl (pi_list (pv 0)) (pg_name (i := 2) scDice.nd rfl (Or.inl rfl))
        (pss_one (ps_set (i := 1) scDice.nd rfl (Or.inl rfl) (pe_op op_mod (pe_op op_add (pe_op op_add (pe_op op_mul (pv 1) pe_int) (pe_op op_mul (pe_op op_mod (pv 2) pe_int) pe_int)) pe_int) pe_int))))
      (pss_one (ps_ret (pe_lst (pa_cons (pv 0) (pa_cons pe_int (pa_cons (pe_op op_mul (pv 1) (pe_callTy call_int1 (by rfl) T.int (by decide +kernel)
        (pa_cons (pe_cmpR op_gt (pe_callB call_len_seq (by rfl) T.len PySem.boot_len (pa_cons (pv 0) pa_nil)) pe_int (nomark _)) pa_nil))) (pa_cons pe_int pa_nil)))))))), ?_⟩
    refine ⟨_, rfl, sa, rfl, ⟨_, hS⟩, for_list (K := K) (a := sa) (xs := ns.map V.int) (fun i σ H' => ∃ (m : Int) (v : Option V), σ = [some (.ref sa), some (.int m), v] ∧ H' = H ∧ 0 ≤ m ∧ m < 2147483647)
      ⟨0, none, rfl, rfl, by decide, by decide⟩ (fun i σ H' _ ⟨_, _, _, e, _⟩ => by rw [e]; exact hS) ?_ ?_⟩
    · rintro i y σ H' hi ⟨m, v, rfl, rfl, h0, h1⟩
      obtain ⟨u, rfl⟩ : ∃ u, y = V.int u := by
        rw [List.getElem?_map] at hi
        cases e : ns[i]? with
        | none => rw [e] at hi; cases hi
        | some u => rw [e] at hi; exact ⟨u, (Option.some.inj hi).symm⟩
      refine ⟨_, rfl, _, _, rfl, rfl, .inl ⟨by omega, by omega⟩, _, rfl, _, _, rfl, rfl, (by show (0 : Int) < 2147483647; decide), _, _, rfl, rfl, .inl ⟨by omega, by omega⟩, _, _, rfl, rfl, _, _, rfl, rfl, _, _, rfl, rfl, (by show (0 : Int) < 2147483647; decide), ?_⟩
      exact ⟨_, _, rfl, rfl, Int.emod_nonneg _ (by decide), Int.emod_lt_of_pos _ (by decide)⟩
    · rintro σ H' ⟨m, v, rfl, rfl, h0, h1⟩
      refine ⟨_, rfl, _, rfl, _, rfl, sa, _, rfl, .inl hS, _, _, rfl, rfl, .inr ⟨_, rfl, ?_⟩⟩
      refine ⟨_, _, rfl, rfl, .inl ⟨by omega, by omega⟩, (by show 4 ≤ sizeLine; decide), fun p hp => ?_⟩
      have hns : (List.map V.int ns).length = ns.length := List.length_map _
      exact k p _ (Same.new hp) hp ⟨⟨_, _, _, upd_same, by decide, by split <;> omega, by split <;> omega⟩, (Same.new hp).seq hS, hlen⟩
theorem scNext : FnScope ["_law_dice_here", "_law_many", "_law_found", "_law_cell"] ["_law_dice_here", "_law_many"] (defScope sNext) := ⟨rfl, rfl, rfl, by decide +kernel, rfl, by decide +kernel, by decide +kernel⟩
theorem ok_next {f : Addr} {fd : FuncData} (F : Fun K "_law_next" "_law_next" sNext f fd) (T : Bt mg) : FnOk P w K mg base CX0 1 f fd ["_law_dice_here", "_law_many"] (spNext K) := by
  refine F.ok scNext (fun vs H Q E h => ?_) (fun cdv A outer s H vs Q E hr h => ?_)
  · obtain ⟨d, sa, ns, many, rfl, _⟩ := h
    rfl
  · obtain ⟨d, sa, ns, many, rfl, hE, hm0, hm1, k⟩ := h
    obtain ⟨⟨i, m, r, hd, hi0, hmx, hmy⟩, hS, hlen⟩ := id hE
    have C0 := Dc.refl hE
    refine ⟨_, pss_cons (ps_if (pt_cmpR op_gt (pe_ix ix_list (pv 0) pe_int (fun _ _ => rfl)) pe_int (nomark _))
        (pss_cons (ps_set (i := 2) scNext.nd rfl (Or.inl rfl) (pe_op op_mod (pe_ix ix_list (pv 0) pe_int (fun _ _ => rfl)) (pv 1)))
        (pss_cons (ps_asg (pe_op op_fdiv (pe_ix ix_list (pv 0) pe_int (fun _ _ => rfl)) (pv 1)) (pg_sub (pv 0) pe_int set_list))
        (pss_one (ps_ret (pv 2))))) pss_nil)
      (pss_cons (ps_asg (pe_op op_add (pe_ix ix_list (pv 0) pe_int (fun _ _ => rfl)) pe_int) (pg_sub (pv 0) pe_int set_list))
      (pss_cons (ps_if (pt_cmpR op_le (pe_ix ix_list (pv 0) pe_int (fun _ _ => rfl)) (pe_callB call_len_seq (by rfl) T.len PySem.boot_len (pa_cons (pe_ix ix_list (pv 0) pe_int (fun _ _ => rfl)) pa_nil)) (nomark _))
        (pss_cons (ps_set (i := 3) scNext.nd rfl (Or.inl rfl) (pe_ix ix_list (pe_ix ix_list (pv 0) pe_int (fun _ _ => rfl)) (pe_op op_sub (pe_ix ix_list (pv 0) pe_int (fun _ _ => rfl)) pe_int) (fun _ _ => rfl)))
        (pss_cons (ps_asg (pe_ifExp (pt_cmpR op_ge (pv 3) (pe_op op_pow pe_int pe_int) (nomark _)) (pe_op op_fdiv (pv 3) (pv 1)) pe_int) (pg_sub (pv 0) pe_int set_list))
        (pss_one (ps_ret (pe_op op_mod (pv 3) (pv 1)))))) pss_nil)
      (pss_cons (ps_asg (pe_op op_mod (pe_op op_mul (pe_ix ix_list (pv 0) pe_int (fun _ _ => rfl)) pe_int) pe_int) (pg_sub (pv 0) pe_int set_list))
      (pss_one (ps_ret (pe_op op_mod (pe_op op_fdiv (pe_ix ix_list (pv 0) pe_int (fun _ _ => rfl)) pe_int) (pv 1))))))), ?_⟩
    refine ⟨_, rfl, d, _, _, _, rfl, rfl, SqL.of hd, at3, _, _, rfl, rfl, _, rfl, ite2 (fun c => ?_) (fun c => ?_)⟩
    · refine ⟨_, rfl, d, _, _, _, rfl, rfl, SqL.of hd, at3, _, rfl, _, _, rfl, rfl, hm0, ?_⟩
      refine ⟨_, rfl, d, _, _, _, rfl, rfl, SqL.of hd, at3, _, rfl, _, _, rfl, rfl, ⟨hm0, hm1⟩, _, rfl, d, _, _, 3, rfl, rfl, hd, rfl, ?_⟩
      exact ⟨_, rfl, k _ _ (Int.emod_nonneg _ (by omega)) (Int.emod_lt_of_pos _ hm0) (C0.roll hi0 hmx hmy)⟩
    · refine ⟨_, rfl, d, _, _, _, rfl, rfl, SqL.of hd, at1, _, _, rfl, rfl, _, rfl, d, _, _, 1, rfl, rfl, hd, rfl, ?_⟩
      have C1 : Dc K H (upd H d (.lst [.ref sa, .int (i + 1), .int m, .int r])) d sa ns := C0.roll (by omega) hmx hmy
      have h1 : (upd H d (.lst [.ref sa, .int (i + 1), .int m, .int r])) d = some (.lst [.ref sa, .int (i + 1), .int m, .int r]) := upd_same
      have hS1 := C1.ent.scr
      revert C1 h1 hS1
      show _ → _ → _ → _
      generalize hH1 : (upd H d (.lst [.ref sa, .int (i + 1), .int m, .int r])) = H1
      intro C1 h1 hS1
      have hH1' : upd H d (.lst (List.set [V.ref sa, .int i, .int m, .int r] 1 (.int (i + 1)))) = H1 := hH1
      rw [hH1']
      refine ⟨_, rfl, d, _, _, _, rfl, rfl, SqL.of h1, at1, _, rfl, d, _, _, _, rfl, rfl, SqL.of h1, at0, sa, _, rfl, .inl hS1, _, _, rfl, rfl, _, rfl, ite2 (fun c => ?_) (fun c => ?_)⟩
      · have c : i + 1 ≤ ((ns.map V.int).length : Int) := of_decide_eq_true c
        rw [List.length_map] at c
        obtain ⟨j, hj⟩ : ∃ j : Nat, i = (j : Int) := ⟨i.toNat, by omega⟩
        have hjl : j < ns.length := by omega
        have hat : atI (ns.map V.int) (i + 1 - 1) = some (.int ns[j]) := by
          have e : i + 1 - 1 = (j : Int) := by omega
          rw [e]
          refine atI_nat ?_
          rw [List.getElem?_map, List.getElem?_eq_getElem hjl]
          rfl
        refine ⟨_, rfl, d, _, _, _, rfl, rfl, SqL.of h1, at0, _, rfl, d, _, _, _, rfl, rfl, SqL.of h1, at1, _, _, rfl, rfl, sa, _, _, _, rfl, rfl, hS1, hat, ?_⟩
        refine ⟨_, rfl, _, _, rfl, rfl, ⟨by decide, by decide, by decide⟩, _, _, rfl, rfl, _, rfl, ite2 (fun c2 => ?_) (fun c2 => ?_)⟩
        · refine ⟨_, rfl, _, rfl, _, _, rfl, rfl, ⟨hm0, hm1⟩, _, rfl, d, _, _, 3, rfl, rfl, h1, rfl, ?_⟩
          exact ⟨_, rfl, _, rfl, _, _, rfl, rfl, hm0, k _ _ (Int.emod_nonneg _ (by omega)) (Int.emod_lt_of_pos _ hm0) (C1.roll (by omega) hmx hmy)⟩
        · refine ⟨_, rfl, d, _, _, 3, rfl, rfl, h1, rfl, ?_⟩
          exact ⟨_, rfl, _, rfl, _, _, rfl, rfl, hm0, k _ _ (Int.emod_nonneg _ (by omega)) (Int.emod_lt_of_pos _ hm0) (C1.roll (by omega) hmx hmy)⟩
      · refine ⟨_, rfl, d, _, _, _, rfl, rfl, SqL.of h1, at2, _, _, rfl, rfl, .inl ⟨by omega, by omega⟩, _, _, rfl, rfl, (by show (0 : Int) < 2147483647; decide), _, rfl, d, _, _, 2, rfl, rfl, h1, rfl, ?_⟩
        refine ⟨_, rfl, d, _, _, _, rfl, rfl, SqL.of upd_same, at2, _, _, rfl, rfl, ⟨by decide, by decide⟩, _, rfl, _, _, rfl, rfl, hm0, ?_⟩
        exact k _ _ (Int.emod_nonneg _ (by omega)) (Int.emod_lt_of_pos _ hm0) (C1.roll (by omega) (Int.emod_nonneg _ (by decide)) (Int.emod_lt_of_pos _ (by decide)))
end
end DL
namespace DL
open PySem L2
/-! ### data: what like compares -/
inductive D where
  | non | bl (b : Bool) | int (i : Int) | str (s : Str) | lst (l : List D) | tup (l : List D)
mutual
def At (H : Hp) : V → D → Prop
  | v, .non => v = .non
  | v, .bl b => v = .bl b
  | v, .int i => v = .int i
  | v, .str s => v = .str s
  | v, .lst ds => ∃ a vs, v = .ref a ∧ H a = some (.lst vs) ∧ Ats H vs ds
  | v, .tup ds => ∃ a vs, v = .ref a ∧ H a = some (.tup vs) ∧ Ats H vs ds
def Ats (H : Hp) : List V → List D → Prop
  | [], [] => True
  | v :: vs, d :: ds => At H v d ∧ Ats H vs ds
  | _, _ => False
end
mutual
def D.dep : D → Nat
  | .lst ds => depL ds + 1
  | .tup ds => depL ds + 1
  | _ => 0
def depL : List D → Nat
  | [] => 0
  | d :: ds => max d.dep (depL ds)
end
mutual
def D.fit : D → Prop
  | .lst ds => ds.length ≤ 100000 ∧ fitL ds
  | .tup ds => ds.length ≤ 100000 ∧ fitL ds
  | _ => True
def fitL : List D → Prop
  | [] => True
  | d :: ds => d.fit ∧ fitL ds
end
theorem fitL_iff : ∀ {ds : List D}, fitL ds ↔ ∀ x ∈ ds, x.fit
  | [] => by simp [fitL]
  | d :: ds => by simp [fitL, fitL_iff (ds := ds)]
theorem D.fit_of {x : D} {ds : List D} (hx : x = .lst ds ∨ x = .tup ds) (h : x.fit) : ds.length ≤ 100000 ∧ fitL ds := by
  rcases hx with rfl | rfl <;> simpa [D.fit] using h
theorem Ats.len {H : Hp} : ∀ {vs : List V} {ds : List D}, Ats H vs ds → vs.length = ds.length
  | [], [], _ => rfl
  | v :: vs, d :: ds, h => by
    have h : At H v d ∧ Ats H vs ds := by simpa [Ats] using h
    show vs.length + 1 = ds.length + 1
    rw [Ats.len h.2]
  | [], _ :: _, h => by simp [Ats] at h
  | _ :: _, [], h => by simp [Ats] at h
theorem Ats.get {H : Hp} : ∀ {vs : List V} {ds : List D} (i : Nat), Ats H vs ds → i < ds.length → ∃ v x, vs[i]? = some v ∧ ds[i]? = some x ∧ At H v x
  | [], [], i, _, hi => by simp at hi
  | v :: vs, d :: ds, 0, h, _ => by
    have h : At H v d ∧ Ats H vs ds := by simpa [Ats] using h
    exact ⟨v, d, rfl, rfl, h.1⟩
  | v :: vs, d :: ds, i + 1, h, hi => by
    have h : At H v d ∧ Ats H vs ds := by simpa [Ats] using h
    obtain ⟨u, x, h1, h2, h3⟩ := Ats.get i h.2 (by simpa using hi)
    exact ⟨u, x, by simpa using h1, by simpa using h2, h3⟩
  | [], _ :: _, i, h, _ => by simp [Ats] at h
  | _ :: _, [], i, h, _ => by simp [Ats] at h
theorem depL_get : ∀ {ds : List D} {i : Nat} {x : D}, ds[i]? = some x → x.dep ≤ depL ds
  | [], i, x, h => by simp at h
  | d :: ds, 0, x, h => by
    have e : d = x := by simpa using h
    subst e
    show d.dep ≤ max d.dep (depL ds)
    omega
  | d :: ds, i + 1, x, h => by
    have := depL_get (ds := ds) (i := i) (x := x) (by simpa using h)
    show x.dep ≤ max d.dep (depL ds)
    omega
def D.ty : D → String
  | .non => "NoneType" | .bl _ => "bool" | .int _ => "int" | .str _ => "str" | .lst _ => "list" | .tup _ => "tuple"
theorem At.ty {K : Frg} {H : Hp} {v : V} : ∀ {x : D}, At H v x → TyX K H v (.type x.ty)
  | .non, h => by
    have h : v = .non := by simpa [At] using h
    subst h; exact .base .non
  | .bl b, h => by
    have h : v = .bl b := by simpa [At] using h
    subst h; exact .base (.bl _)
  | .int i, h => by
    have h : v = .int i := by simpa [At] using h
    subst h; exact .base (.int _)
  | .str s, h => by
    have h : v = .str s := by simpa [At] using h
    subst h; exact .base (.str _)
  | .lst ds, h => by
    obtain ⟨a, vs, rfl, h, _⟩ : ∃ a vs, v = .ref a ∧ H a = some (.lst vs) ∧ Ats H vs ds := by simpa [At] using h
    exact .base (.lst h)
  | .tup ds, h => by
    obtain ⟨a, vs, rfl, h, _⟩ : ∃ a vs, v = .ref a ∧ H a = some (.tup vs) ∧ Ats H vs ds := by simpa [At] using h
    exact .base (.tup h)
theorem isi_go {K : Frg} {H : Hp} {v : V} {x : D} {c : String} {b : Bool} {Q : VK} (h : At H v x) (r : kitB x.ty c = some b) (q : Q (.bl b) H) : rIsi K [v, .ty c] H Q :=
  ⟨_, _, _, _, _, rfl, .ty _, h.ty, kit_ty r, q⟩
def spLike (K : Frg) (n : Nat) : Sp := fun vs H Q _ => ∃ (v u : V) (x : D), vs = [v, u] ∧ At H v x ∧ At H u x ∧ x.dep ≤ n ∧ x.fit ∧ Q (.bl true) H
section
variable {P : Program} {w : World} {K : PySem.W.Frag} {mg : Str → Option Value} {base : Heap}
theorem At.sq {K : Frg} {H : Hp} {v : V} {x : D} {ds : List D} (hx : x = .lst ds ∨ x = .tup ds) (h : At H v x) : ∃ a vs, v = .ref a ∧ (SqL K H a vs ∨ SqT K H a vs) ∧ Ats H vs ds := by
  rcases hx with rfl | rfl
  · obtain ⟨a, vs, rfl, h, z⟩ : ∃ a vs, v = .ref a ∧ H a = some (.lst vs) ∧ Ats H vs ds := by simpa [At] using h
    exact ⟨a, vs, rfl, .inl (SqL.of h), z⟩
  · obtain ⟨a, vs, rfl, h, z⟩ : ∃ a vs, v = .ref a ∧ H a = some (.tup vs) ∧ Ats H vs ds := by simpa [At] using h
    exact ⟨a, vs, rfl, .inr (SqT.of h), z⟩
theorem sq_ix {K : Frg} {H : Hp} {a : Addr} {vs : List V} {i : Nat} {v : V} {Q : VK} (h : SqL K H a vs ∨ SqT K H a vs) (e : vs[i]? = some v) (q : Q v H) : rIx K (.ref a) (.int (i : Int)) H Q := by
  rcases h with h | h
  · exact .inl ⟨a, vs, _, v, rfl, rfl, h, atI_nat e, q⟩
  · exact .inr (.inl ⟨a, vs, _, v, rfl, rfl, h, atI_nat e, q⟩)
theorem D.dep_of {x : D} {ds : List D} (hx : x = .lst ds ∨ x = .tup ds) : x.dep = depL ds + 1 := by
  rcases hx with rfl | rfl <;> rfl
abbrev spNo : Sp := fun _ _ _ _ => False
theorem ok_no {CX : CXT} {k : Nat} {f : Addr} {fd : FuncData} {ps : List Str} : FnOk P w K mg base CX k f fd ps spNo := ⟨fun _ _ _ _ h => h.elim, fun _ _ _ _ _ _ _ _ _ _ _ _ _ h => h.elim⟩
end
end DL
namespace DL
open PySem L2
/-! ### rows -/
inductive Row where
  | load (w n : Nat) | add (w n : Nat) | take (w n : Nat) | store (w n : Nat) | say (n : Nat) | test (a b : Nat) | stop
def rowVs : Row → List V
  | .load w n => [.str "load", .int (w : Int), .int (n : Int)]
  | .add w n => [.str "add", .int (w : Int), .int (n : Int)]
  | .take w n => [.str "take", .int (w : Int), .int (n : Int)]
  | .store w n => [.str "store", .int (w : Int), .int (n : Int)]
  | .say n => [.str "say", .int (n : Int)]
  | .test a b => [.str "test", .int (a : Int), .int (b : Int)]
  | .stop => [.str "stop"]
def Row.ok (W N : Nat) : Row → Prop
  | .load w n => w < W ∧ n < N
  | .add w n => w < W ∧ n < N
  | .take w n => w < W ∧ n < N
  | .store w n => w < W ∧ n < N
  | .say n => n < N
  | .test a b => a < N ∧ b < N
  | .stop => True
def Row.plain : Row → Prop
  | .test _ _ => False
  | .stop => False
  | _ => True
def Row.to (m : Nat) : Row → Row
  | .load w _ => .load w m
  | .add w _ => .add w m
  | .take w _ => .take w m
  | .store w _ => .store w m
  | .say _ => .say m
  | r => r
def isT (r : Row) : Nat := if decide ((rowVs r)[0]? = some (V.str "test")) = true then 1 else 0
def tests (rs : List Row) : Nat := (rs.map isT).sum
theorem isT_le (r : Row) : isT r ≤ 1 := by
  unfold isT
  split <;> decide
theorem isT_plain : ∀ {r : Row}, r.plain → isT r = 0
  | .load _ _, _ => (by decide +kernel : (if decide (some (V.str "load") = some (V.str "test")) = true then 1 else 0) = 0)
  | .add _ _, _ => (by decide +kernel : (if decide (some (V.str "add") = some (V.str "test")) = true then 1 else 0) = 0)
  | .take _ _, _ => (by decide +kernel : (if decide (some (V.str "take") = some (V.str "test")) = true then 1 else 0) = 0)
  | .store _ _, _ => (by decide +kernel : (if decide (some (V.str "store") = some (V.str "test")) = true then 1 else 0) = 0)
  | .say _, _ => (by decide +kernel : (if decide (some (V.str "say") = some (V.str "test")) = true then 1 else 0) = 0)
theorem isT_stop : isT .stop = 0 := (by decide +kernel : (if decide (some (V.str "stop") = some (V.str "test")) = true then 1 else 0) = 0)
theorem isT_to {r : Row} {m : Nat} (p : r.plain) : isT (r.to m) = 0 := by
  cases r <;> first | exact p.elim | exact isT_plain trivial
theorem tests_app : ∀ (a b : List Row), tests (a ++ b) = tests a + tests b
  | [], b => by unfold tests; simp
  | x :: a, b => by
    show isT x + tests (a ++ b) = isT x + tests a + tests b
    rw [tests_app a b]
    omega
theorem tests_cons (x : Row) (a : List Row) : tests (x :: a) = isT x + tests a := rfl
theorem tests_one {r : Row} : tests [r] = isT r := Nat.add_zero _
theorem tests_plain : ∀ {rs : List Row}, (∀ r ∈ rs, r.plain) → tests rs = 0
  | [], _ => rfl
  | x :: rs, h => by
    rw [tests_cons, isT_plain (h x List.mem_cons_self), tests_plain fun r hr => h r (List.mem_cons_of_mem _ hr)]
theorem Row.ok.mono {W N M : Nat} (h : N ≤ M) : ∀ {r : Row}, r.ok W N → r.ok W M := fun {r} k => by
  cases r <;> simp only [Row.ok] at * <;> omega
theorem Row.ok.to {W N m M : Nat} (hm : m < M) : ∀ {r : Row}, r.plain → r.ok W N → (r.to m).ok W M := fun {r} p k => by
  cases r <;> simp only [Row.ok, Row.to, Row.plain] at * <;> omega
theorem Row.vs_to {m : Nat} : ∀ {r : Row}, r.plain → rowVs (r.to m) = (rowVs r).dropLast ++ [V.int (m : Int)] := fun {r} p => by
  cases r <;> first | rfl | exact p.elim
theorem Row.vs_len (r : Row) : 1 ≤ (rowVs r).length ∧ (rowVs r).length ≤ 3 := by cases r <;> simp [rowVs]
def RowsAt (H : Hp) (bs : List Addr) (rs : List Row) : Prop := Paired (fun b r => H b = some (.tup (rowVs r))) bs rs
theorem RowsAt.kp {H H' : Hp} {bs : List Addr} {rs : List Row} (h : RowsAt H bs rs) (k : Kp H H') : RowsAt H' bs rs := Paired.mapP h fun _ _ q => k _ _ q
theorem Paired.app {α β : Type} {F : α → β → Prop} : ∀ {a : List α} {b : List β} {c : List α} {d : List β}, Paired F a b → Paired F c d → Paired F (a ++ c) (b ++ d)
  | _, _, _, _, .nil, h => h
  | _, _, _, _, .cons x t, h => .cons x (Paired.app t h)
theorem Paired.get {α β : Type} {F : α → β → Prop} : ∀ {a : List α} {b : List β} {i : Nat} {x : α}, Paired F a b → a[i]? = some x → ∃ y, b[i]? = some y ∧ F x y
  | _, _, _, _, .nil, e => by simp at e
  | _, _, 0, _, .cons h _, e => by simp at e; subst e; exact ⟨_, rfl, h⟩
  | _, _, i + 1, _, .cons _ t, e => by
    obtain ⟨y, h1, h2⟩ := Paired.get (i := i) t (by simpa using e)
    exact ⟨y, by simpa using h1, h2⟩
theorem Paired.getR {α β : Type} {F : α → β → Prop} : ∀ {a : List α} {b : List β} {i : Nat} {y : β}, Paired F a b → b[i]? = some y → ∃ x, a[i]? = some x ∧ F x y
  | _, _, _, _, .nil, e => by simp at e
  | _, _, 0, _, .cons h _, e => by simp at e; subst e; exact ⟨_, rfl, h⟩
  | _, _, i + 1, _, .cons _ t, e => by
    obtain ⟨y, h1, h2⟩ := Paired.getR (i := i) t (by simpa using e)
    exact ⟨y, by simpa using h1, h2⟩
theorem Paired.one {α β : Type} {F : α → β → Prop} {x : α} {y : β} (h : F x y) : Paired F [x] [y] := .cons h .nil
structure Fd (K : Frg) (mg : Str → Option Value) (x : Str) (st : Stmt) (ps : List Str) where
  f : Addr
  fd : FuncData
  F : Fun K x x st f fd
  b : Binds K fd ps []
  m : mg x = some (.ref f)
abbrev FNext (K : Frg) (mg : Str → Option Value) := Fd K mg "_law_next" sNext ["_law_dice_here", "_law_many"]
abbrev sStraight : Stmt := top 53
abbrev FStraight (K : Frg) (mg : Str → Option Value) := Fd K mg "_law_straight" sStraight ["_law_d", "_law_at"]
def spStraight (K : Frg) : Sp := fun vs H Q _ => ∃ (d sa : Addr) (ns : List Int) (at_ : Nat), vs = [.ref d, .int (at_ : Int)] ∧ Ent K H d sa ns ∧
  ∀ t r H', Dc K H H' d sa ns → H' t = some (.tup (rowVs r)) → r.plain → r.ok 8 (at_ + 2) → Q (.ref t) H'
section
variable {P : Program} {w : World} {K : PySem.W.Frag} {mg : Str → Option Value} {base : Heap}
theorem scStraight : FnScope ["_law_d", "_law_at", "_law_way"] ["_law_d", "_law_at"] (defScope sStraight) := ⟨rfl, rfl, rfl, by decide +kernel, rfl, by decide +kernel, by decide +kernel⟩
theorem ok_straight (c : FStraight K mg) (cN : FNext K mg) (T : Bt mg) : FnOk P w K mg base CX0 2 c.f c.fd ["_law_d", "_law_at"] (spStraight K) := by
  have GN : FnOk P w K mg base CX0 1 cN.f cN.fd ["_law_dice_here", "_law_many"] (spNext K) := ok_next cN.F T
  refine c.F.ok scStraight (fun vs H Q E h => ?_) (fun cdv A outer s H vs Q E hr h => ?_)
  · obtain ⟨d, sa, ns, a, rfl, _⟩ := h
    rfl
  · obtain ⟨d, sa, ns, a, rfl, hE, k⟩ := h
    refine ⟨_, pss_cons (ps_set (i := 2) scStraight.nd rfl (Or.inl rfl) (pe_call GN hr (by rfl) cN.m cN.F.kp cN.b .nil pass0 (pa_cons (pv 0) (pa_cons pe_int pa_nil))))
      (pss_cons (ps_if (pt_cmpR op_eq (pv 2) pe_int (nomark _)) (pss_one (ps_ret (pe_tup (pa_cons pe_str (pa_cons (pe_op op_add (pv 1) pe_int) pa_nil))))) pss_nil)
      (pss_one (ps_ret (pe_tup (pa_cons (pe_ix ix_list (pe_lst (pa_cons pe_str (pa_cons pe_str (pa_cons pe_str (pa_cons pe_str (pa_cons pe_str pa_nil)))))) (pv 2) (fun _ _ => rfl))
        (pa_cons (pe_op op_add pe_int (pe_call GN hr (by rfl) cN.m cN.F.kp cN.b .nil pass0 (pa_cons (pv 0) (pa_cons pe_int pa_nil)))) (pa_cons (pe_op op_add (pv 1) pe_int) pa_nil))))))), ?_⟩
    refine ⟨_, rfl, d, sa, ns, _, rfl, hE, by decide, by decide, fun n H1 n0 n1 C1 => ?_⟩
    refine ⟨_, rfl, rfl, _, rfl, ?_⟩
    refine ite2 (fun e => ?_) (fun e => ?_)
    · refine ⟨_, rfl, _, _, rfl, rfl, (by show 2 ≤ sizeLine; decide), fun t ht => ?_⟩
      refine k t (.say (a + 1)) _ (C1.new ht) (by rw [upd_same]; rfl) trivial (by show a + 1 < a + 2; omega)
    · have n5 : n ≠ 5 := fun q => e (by rw [q]; exact decide_eq_true rfl)
      refine ⟨(by show 5 ≤ sizeLine; decide), fun l hl => ?_⟩
      obtain ⟨j, hj⟩ : ∃ j : Nat, n = (j : Int) := ⟨n.toNat, by omega⟩
      subst hj
      have hj5 : j < 5 := by omega
      obtain ⟨wd, hw⟩ : ∃ wd : Str, ([V.str "load", V.str "add", V.str "take", V.str "store", V.str "add"] : List V)[j]? = some (.str wd) ∧ ∀ x y : Nat, ∃ r : Row, rowVs r = [.str wd, .int (x : Int), .int (y : Int)] ∧ r.plain ∧ (x < 8 → y < a + 2 → r.ok 8 (a + 2)) := by
        match j, hj5 with
        | 0, _ => exact ⟨_, rfl, fun x y => ⟨.load x y, rfl, trivial, fun p q => ⟨p, q⟩⟩⟩
        | 1, _ => exact ⟨_, rfl, fun x y => ⟨.add x y, rfl, trivial, fun p q => ⟨p, q⟩⟩⟩
        | 2, _ => exact ⟨_, rfl, fun x y => ⟨.take x y, rfl, trivial, fun p q => ⟨p, q⟩⟩⟩
        | 3, _ => exact ⟨_, rfl, fun x y => ⟨.store x y, rfl, trivial, fun p q => ⟨p, q⟩⟩⟩
        | 4, _ => exact ⟨_, rfl, fun x y => ⟨.add x y, rfl, trivial, fun p q => ⟨p, q⟩⟩⟩
      have C2 := C1.new (o := .lst [V.str "load", V.str "add", V.str "take", V.str "store", V.str "add"]) hl
      refine ⟨_, rfl, l, _, _, _, rfl, rfl, SqL.of upd_same, atI_nat hw.1, ?_⟩
      refine ⟨_, rfl, d, sa, ns, _, rfl, C2.ent, by decide, by decide, fun m H2 m0 m1 C3 => ?_⟩
      refine ⟨_, _, rfl, rfl, _, rfl, _, _, rfl, rfl, (by show 3 ≤ sizeLine; decide), fun t ht => ?_⟩
      obtain ⟨x, hx⟩ : ∃ x : Nat, (5 : Int) + m = (x : Int) := ⟨(5 + m).toNat, by omega⟩
      obtain ⟨r, r1, r2, r3⟩ := hw.2 x (a + 1)
      refine k t r _ ((C2.trans C3).new ht) ?_ r2 (r3 (by omega) (by omega))
      rw [upd_same, r1, ← hx]
      rfl
end
end DL
namespace DL
open PySem L2
theorem Paired.last {α β : Type} {F : α → β → Prop} {x : α} : ∀ {a : List α} {b : List β}, Paired F (a ++ [x]) b → ∃ b0 y, b = b0 ++ [y] ∧ Paired F a b0 ∧ F x y
  | [], _, .cons h t => by
    cases t
    exact ⟨[], _, rfl, .nil, h⟩
  | c :: a, _, .cons h t => by
    obtain ⟨b0, y, e, h1, h2⟩ := Paired.last (a := a) t
    subst e
    exact ⟨_ :: b0, y, rfl, .cons h h1, h2⟩
theorem snoc_of {α : Type} : ∀ {l : List α}, 1 ≤ l.length → ∃ a x, l = a ++ [x]
  | [], h => by simp at h
  | [x], _ => ⟨[], x, rfl⟩
  | x :: y :: l, _ => by
    obtain ⟨a, z, e⟩ := snoc_of (l := y :: l) (by simp)
    exact ⟨x :: a, z, by rw [e]; rfl⟩
theorem ix_last (n : Nat) : ixN (n + 1) (-1) = some n := by
  unfold ixN
  rw [if_neg (by decide), if_pos (by omega)]
  congr 1
  omega
theorem all_snoc {α : Type} {p : α → Prop} {l : List α} {x : α} (h : ∀ y ∈ l, p y) (hx : p x) : ∀ y ∈ l ++ [x], p y := fun y m => by
  rcases List.mem_append.mp m with q | q
  · exact h y q
  · rw [List.mem_singleton.mp q]; exact hx
theorem all_app {α : Type} {p : α → Prop} {l m : List α} (h : ∀ y ∈ l, p y) (hx : ∀ y ∈ m, p y) : ∀ y ∈ l ++ m, p y := fun y q => by
  rcases List.mem_append.mp q with q | q
  · exact h y q
  · exact hx y q
abbrev sFork : Stmt := top 54
abbrev FFork (K : Frg) (mg : Str → Option Value) := Fd K mg "_law_fork" sFork ["_law_d", "_law_at"]
def spFork (K : Frg) : Sp := fun vs H Q _ => ∃ (d sa : Addr) (ns : List Int) (at_ : Nat), vs = [.ref d, .int (at_ : Int)] ∧ Ent K H d sa ns ∧
  ∀ l bs rs H', Dc K H H' d sa ns → H l = none → H' l = some (.lst (bs.map V.ref)) → RowsAt H' bs rs → 1 ≤ rs.length → rs.length ≤ 6 → 4 * tests rs ≤ rs.length → (∀ r ∈ rs, r.ok 8 (at_ + rs.length + 1)) → Q (.ref l) H'
theorem sIx_neg (n d : Nat) : HT.sIx n d (some (-1)) = ((-1 : Int) + n).toNat := by
  show (if (-1 : Int) < 0 then ((-1 : Int) + (n : Int)).toNat else min (-1 : Int).toNat n) = _
  exact if_pos (by decide)
theorem set_last {α : Type} {l : List α} {x y : α} {n : Nat} (h : l.length = n) : (l ++ [x]).set n y = l ++ [y] := by
  subst h
  rw [List.set_append_right _ _ (Nat.le_refl _), Nat.sub_self]
  rfl
theorem cut_last {xs : List V} (h : 1 ≤ xs.length) : cutV xs none (some (-1)) = xs.dropLast := by
  unfold cutV
  rw [sIx_neg, HT.sIx_none, List.drop_zero, List.dropLast_eq_take, Nat.sub_zero]
  congr 1
  omega
theorem cut_not {xs : List V} (h : 1 ≤ xs.length) : ¬ (HT.sIx xs.length 0 none = 0 ∧ HT.sIx xs.length xs.length (some (-1)) = xs.length) := by
  rintro ⟨_, q⟩
  rw [sIx_neg] at q
  omega
theorem row_ne {r : Row} (p : r.plain) : (rowVs r).dropLast ≠ [] := by
  cases r <;> first | exact p.elim | (intro e; cases e)
def StrAt (K : Frg) (H0 : Hp) (d sa : Addr) (ns : List Int) (D : Addr) (at_ : Nat) (i : Nat) (H : Hp) : Prop :=
  ∃ bs rs, Dc K H0 H d sa ns ∧ H0 D = none ∧ H D = some (.lst (bs.map V.ref)) ∧ RowsAt H bs rs ∧ rs.length = i ∧ ∀ r ∈ rs, r.plain ∧ r.ok 8 (at_ + i + 1)
theorem StrAt.zero {K : Frg} {H0 H : Hp} {d sa : Addr} {ns : List Int} {D : Addr} {a : Nat} (C : Dc K H0 H d sa ns) (hD : H D = none) : StrAt K H0 d sa ns D a 0 (upd H D (.lst [])) :=
  ⟨[], [], C.new hD, C.here hD, upd_same, .nil, rfl, fun _ h => absurd h (by simp)⟩
theorem StrAt.step {K : Frg} {H0 H H' : Hp} {d sa : Addr} {ns : List Int} {D t : Addr} {a i : Nat} {bs : List Addr} {rs : List Row} {r : Row} (C : Dc K H0 H d sa ns) (n0 : H0 D = none) (hD : H D = some (.lst (bs.map V.ref))) (ha : RowsAt H bs rs) (hl : rs.length = i) (hr : ∀ r ∈ rs, r.plain ∧ r.ok 8 (a + i + 1))
    (C2 : Dc K H H' d sa ns) (ht : H' t = some (.tup (rowVs r))) (hp : r.plain) (ho : r.ok 8 (a + i + 2)) :
    H' D = some (.lst (bs.map V.ref)) ∧ StrAt K H0 d sa ns D a (i + 1) (upd H' D (.lst (bs.map V.ref ++ [.ref t]))) := by
  have C3 := C.trans C2
  have hD' : H' D = some (.lst (bs.map V.ref)) := C2.but _ _ (C.ned n0) hD
  refine ⟨hD', bs ++ [t], rs ++ [r], C3.mut n0, n0, by rw [upd_same, List.map_append]; rfl, ?_, by rw [List.length_append, hl]; rfl, ?_⟩
  · exact RowsAt.kp (Paired.app (ha.kp C2.kp) (Paired.one ht)) (Kp.lst hD')
  · refine all_snoc (fun y m => ?_) ⟨hp, by rw [show a + (i + 1) + 1 = a + i + 2 by omega]; exact ho⟩
    exact ⟨(hr y m).1, (hr y m).2.mono (by omega)⟩
section
variable {P : Program} {w : World} {K : PySem.W.Frag} {mg : Str → Option Value} {base : Heap}
abbrev nFork : List Str := ["_law_d", "_law_at", "_law_yes", "_law_begin", "_law_no", "_law_k"]
theorem scFork : FnScope nFork ["_law_d", "_law_at"] (defScope sFork) := ⟨rfl, rfl, rfl, by decide +kernel, rfl, by decide +kernel, by decide +kernel⟩
theorem ok_fork (c : FFork K mg) (cS : FStraight K mg) (cN : FNext K mg) (T : Bt mg) : FnOk P w K mg base CX0 3 c.f c.fd ["_law_d", "_law_at"] (spFork K) := by
  have GN : FnOk P w K mg base CX0 1 cN.f cN.fd ["_law_dice_here", "_law_many"] (spNext K) := ok_next cN.F T
  have GS : FnOk P w K mg base CX0 2 cS.f cS.fd ["_law_d", "_law_at"] (spStraight K) := ok_straight cS cN T
  refine c.F.ok scFork (fun vs H Q E h => ?_) (fun cdv A outer s H vs Q E hr h => ?_)
  · obtain ⟨d, sa, ns, a, rfl, _⟩ := h
    rfl
  · obtain ⟨d, sa, ns, a, rfl, hE, k⟩ := h
    have hr1 : Room 1 _ := hr.mono (by decide)
    refine ⟨_, pss_cons (ps_setLc (i := 2) (own := [("_law_k", 5)]) (g := gName 5) (tt := tYes) rfl scFork.nd rfl rfl (sw_true rfl rfl rfl (by decide +kernel))
        (pi_range1 rfl T.range (pa_cons (pe_op op_add pe_int (pe_call GN hr1 (by rfl) cN.m cN.F.kp cN.b .nil pass0 (pa_cons (pv 0) (pa_cons pe_int pa_nil)))) pa_nil))
        (blkOk_by (N := nFork) (sc := defScope sFork) (by decide +kernel)) (fun _ _ _ _ _ => pg_name (i := 5) scFork.nd rfl (Or.inl rfl)) (fun _ _ _ _ _ => pts_nil)
        (fun _ _ _ _ _ => (pe_call GS hr (by rfl) cS.m cS.F.kp cS.b .nil pass0 (pa_cons (pv 0) (pa_cons (pe_op op_add (pe_op op_add (pv 1) pe_int) (pv 5)) pa_nil)))))
      (pss_cons (ps_set (i := 3) scFork.nd rfl (Or.inr rfl) (pe_op op_add (pe_op op_add (pv 1) pe_int) (pe_callB call_len_seq (by rfl) T.len PySem.boot_len (pa_cons (pv 2) pa_nil))))
      (pss_cons (ps_setLc (i := 4) (own := [("_law_k", 5)]) (g := gName 5) (tt := tYes) rfl scFork.nd rfl rfl (sw_true rfl rfl rfl (by decide +kernel))
        (pi_range1 rfl T.range (pa_cons (pe_op op_add pe_int (pe_call GN hr1 (by rfl) cN.m cN.F.kp cN.b .nil pass0 (pa_cons (pv 0) (pa_cons pe_int pa_nil)))) pa_nil))
        (blkOk_by (N := nFork) (sc := defScope sFork) (by decide +kernel)) (fun _ _ _ _ _ => pg_name (i := 5) scFork.nd rfl (Or.inl rfl)) (fun _ _ _ _ _ => pts_nil)
        (fun _ _ _ _ _ => (pe_call GS hr (by rfl) cS.m cS.F.kp cS.b .nil pass0 (pa_cons (pv 0) (pa_cons (pe_op op_add (pv 3) (pv 5)) pa_nil)))))
      (pss_cons (ps_asg (pe_op op_catT (pe_slice sl_tup (pe_ix ix_list (pv 2) (pe_un un_neg pe_int) (fun _ _ => rfl)) po_none (po_some (pe_un un_neg pe_int)))
          (pe_tup (pa_cons (pe_op op_add (pv 3) (pe_callB call_len_seq (by rfl) T.len PySem.boot_len (pa_cons (pv 4) pa_nil))) pa_nil))) (pg_sub (pv 2) (pe_un un_neg pe_int) set_list))
      (pss_one (ps_ret (pe_op op_cat (pe_op op_cat (pe_lst (pa_cons (pe_tup (pa_cons pe_str (pa_cons (pe_op op_add pe_int (pe_call GN hr1 (by rfl) cN.m cN.F.kp cN.b .nil pass0 (pa_cons (pv 0) (pa_cons pe_int pa_nil)))) (pa_cons (pe_op op_add (pv 1) pe_int) pa_nil))))
        (pa_cons (pe_tup (pa_cons pe_str (pa_cons (pe_op op_add (pv 1) pe_int) (pa_cons (pv 3) pa_nil)))) pa_nil))) (pv 2)) (pv 4))))))), ?_⟩
    refine ⟨_, rfl, d, sa, ns, _, rfl, hE, by decide, by decide, fun n H1 n0 n1 C1 => ?_⟩
    refine ⟨_, _, rfl, rfl, _, rfl, by omega, by omega, fun D1 hD1 => ?_⟩
    refine lc_range (lo := 0) (n := (1 + n).toNat) (StrAt K H d sa ns D1 (a + 2)) (StrAt.zero C1 hD1) ?_ ?_
    · rintro i H2 hi ⟨bs, rs, C2, nD, hD, hR, hl, hr⟩
      refine ⟨rfl, _, rfl, _, rfl, _, _, rfl, rfl, _, rfl, _, _, rfl, rfl, d, sa, ns, a + 2 + i, ?_, C2.ent, fun t r H3 C3 ht hp ho => ?_⟩
      · show [V.ref d, V.int ((a : Int) + 2 + (0 + (i : Int)))] = [V.ref d, V.int ((a + 2 + i : Nat) : Int)]
        rw [show ((a + 2 + i : Nat) : Int) = (a : Int) + 2 + (0 + (i : Int)) by omega]
      · obtain ⟨z1, z2⟩ := StrAt.step C2 nD hD hR hl hr C3 ht hp ho
        exact ⟨_, z1, szl (by have := Paired.length hR; rw [List.length_map]; omega), z2⟩
    · rintro H2 ⟨bs1, rs1, C2, nD1, hD1', hR1, hl1, hr1'⟩
      have lb1 := Paired.length hR1
      refine ⟨_, rfl, _, _, rfl, rfl, _, rfl, D1, _, rfl, .inl (SqL.of hD1'), _, _, rfl, rfl, ?_⟩
      refine ⟨_, rfl, d, sa, ns, _, rfl, C2.ent, by decide, by decide, fun n2 H3 n20 n21 C3 => ?_⟩
      refine ⟨_, _, rfl, rfl, _, rfl, by omega, by omega, fun D2 hD2 => ?_⟩
      have C13 := C2.trans C3
      refine lc_range (lo := 0) (n := (1 + n2).toNat) (fun i H4 => StrAt K H d sa ns D2 (a + 2 + rs1.length) i H4 ∧ D2 ≠ D1 ∧ H4 D1 = some (.lst (bs1.map V.ref)) ∧ RowsAt H4 bs1 rs1) ?_ ?_ ?_
      · have nD12 : D2 ≠ D1 := (ne_of_none (C3.but _ _ (C2.ned nD1) hD1') hD2).symm
        exact ⟨StrAt.zero C13 hD2, nD12, by rw [upd_ne nD12.symm]; exact C3.but _ _ (C2.ned nD1) hD1', (hR1.kp C3.kp).kp (Kp.new hD2)⟩
      · rintro i H4 hi ⟨⟨bs, rs, C4, nD, hD, hR, hl, hr⟩, nD12, h1, hR1⟩
        refine ⟨rfl, _, rfl, _, rfl, _, rfl, _, _, rfl, rfl, d, sa, ns, a + 2 + rs1.length + i, ?_, C4.ent, fun t r H5 C5 ht hp ho => ?_⟩
        · show [V.ref d, V.int ((a : Int) + 2 + (((bs1.map V.ref).length : Nat) : Int) + (0 + (i : Int)))] = [V.ref d, V.int ((a + 2 + rs1.length + i : Nat) : Int)]
          rw [List.length_map, lb1, show ((a + 2 + rs1.length + i : Nat) : Int) = (a : Int) + 2 + (rs1.length : Int) + (0 + (i : Int)) by omega]
        · obtain ⟨z1, z2⟩ := StrAt.step C4 nD hD hR hl hr C5 ht hp ho
          refine ⟨_, z1, szl (by have := Paired.length hR; rw [List.length_map]; omega), z2, nD12, ?_, ?_⟩
          · rw [upd_ne nD12.symm]
            exact C5.but _ _ (C4.ned nD1) h1
          · exact (hR1.kp C5.kp).kp (Kp.lst z1)
      · rintro H4 ⟨⟨bs2, rs2, C4, nD2, hD2', hR2, hl2, hr2⟩, nD12, h1, hR1⟩
        have lb2 := Paired.length hR2
        obtain ⟨bs0, b, e⟩ := snoc_of (l := bs1) (by omega)
        subst e
        obtain ⟨rs0, r, e, hR0, hb⟩ := Paired.last hR1
        subst e
        have hr0 := hr1' r (List.mem_append_right _ List.mem_cons_self)
        have h1 : H4 D1 = some (.lst (bs0.map V.ref ++ [.ref b])) := by rw [List.map_append] at h1; exact h1
        have rl := Row.vs_len r
        refine ⟨_, rfl, _, rfl, D1, _, _, _, rfl, rfl, SqL.of h1, atI_last _ _, _, rfl, _, rfl, b, _, rfl, SqT.of hb, cut_not rl.1, fun p1 hp1 => ?_⟩
        rw [cut_last rl.1]
        refine alloc hp1 fun H5 s5 e5 => ?_
        refine ⟨_, rfl, _, rfl, D2, _, rfl, .inl (SqL.of (s5 _ _ hD2')), _, _, rfl, rfl, (by show 1 ≤ sizeLine; decide), fun p2 hp2 => ?_⟩
        refine alloc hp2 fun H6 s6 e6 => ?_
        have hsz : (rowVs r).dropLast.length + 1 ≤ sizeLine := sz (by rw [List.length_dropLast]; omega)
        refine ⟨p1, p2, _, _, rfl, rfl, SqT.of (s6 _ _ e5), SqT.of e6, row_ne hr0.1, hsz, (fun e => nomatch e), fun _ p3 hp3 => ?_⟩
        refine alloc hp3 fun H7 s7 e7 => ?_
        have S47 := (s5.trans s6).trans s7
        have h17 := S47 _ _ h1
        refine ⟨_, rfl, _, rfl, D1, _, _, bs0.length, rfl, rfl, h17, ?_, ?_⟩
        · rw [List.length_append, List.length_map]
          exact ix_last _
        rw [set_last (by rw [List.length_map])]
        have nD1' : D1 ≠ D2 := nD12.symm
        have C7 := (C4.same S47).mut (o := .lst (bs0.map V.ref ++ [.ref p3])) nD1
        have hp3 : p3 ≠ D1 := ne_of e7 h17 (by intro z; cases z)
        have R7 : RowsAt H7 (bs0 ++ [p3]) (rs0 ++ [r.to (a + 2 + rs0.length + 1 + rs2.length)]) := by
          refine Paired.app (RowsAt.kp hR0 (Kp.same S47)) (Paired.one ?_)
          rw [e7, Row.vs_to hr0.1]
          congr 3
          show [V.int ((a : Int) + 2 + (((bs0 ++ [b]).map V.ref).length : Int) + ((bs2.map V.ref).length : Int))] = _
          rw [List.length_map, List.length_map, lb1, lb2, List.length_append]
          congr 2
        have R72 : RowsAt H7 bs2 rs2 := RowsAt.kp hR2 (Kp.same S47)
        have K7 : Kp H7 (upd H7 D1 (.lst (bs0.map V.ref ++ [.ref p3]))) := Kp.lst h17
        have hD28 : (upd H7 D1 (.lst (bs0.map V.ref ++ [.ref p3]))) D2 = some (.lst (bs2.map V.ref)) := by rw [upd_ne nD12]; exact S47 _ _ hD2'
        revert C7 K7 hD28
        refine change fun H8 b8 e8 => ?_
        intro C8 K8 hD28
        have R8 := R7.kp K8
        have R82 := R72.kp K8
        refine ⟨_, rfl, d, sa, ns, _, rfl, C8.ent, by decide, by decide, fun m H9 m0 m1 C9 => ?_⟩
        refine ⟨_, _, rfl, rfl, _, rfl, _, _, rfl, rfl, (by show 3 ≤ sizeLine; decide), fun t1 ht1 => ?_⟩
        refine alloc ht1 fun H10 s10 e10 => ?_
        refine ⟨_, rfl, _, _, rfl, rfl, _, rfl, (by show 3 ≤ sizeLine; decide), fun t2 ht2 => ?_⟩
        refine alloc ht2 fun H11 s11 e11 => ?_
        refine ⟨(by show 2 ≤ sizeLine; decide), fun l1 hl1n => ?_⟩
        refine alloc hl1n fun H12 s12 e12 => ?_
        have S9 := (s10.trans s11).trans s12
        have g1 : H12 D1 = some (.lst (bs0.map V.ref ++ [.ref p3])) := S9 _ _ (C9.but _ _ (C8.ned nD1) e8)
        have g2 : H12 D2 = some (.lst (bs2.map V.ref)) := S9 _ _ (C9.but _ _ (C8.ned nD2) hD28)
        have C12 := (C8.trans C9).same S9
        refine ⟨_, rfl, l1, D1, _, _, rfl, rfl, e12, g1, ?_, fun l2 hl2n => ?_⟩
        · refine sz ?_
          rw [List.length_append, List.length_map]
          have z1 := Paired.length hR0
          rw [List.length_append] at hl1
          show 2 + (bs0.length + 1) ≤ 100000
          simp only [List.length_singleton] at hl1
          omega
        refine alloc hl2n fun H13 s13 e13 => ?_
        refine ⟨_, rfl, l2, D2, _, _, rfl, rfl, e13, s13 _ _ g2, ?_, fun l3 hl3n => ?_⟩
        · refine sz ?_
          rw [List.length_append, List.length_append, List.length_map, List.length_map]
          have z1 := Paired.length hR0
          rw [List.length_append] at hl1
          show 2 + (bs0.length + 1) + bs2.length ≤ 100000
          simp only [List.length_singleton] at hl1
          omega
        have C13' := C12.same s13
        have K13 : Kp H8 H13 := (C9.kp.trans (Kp.same S9)).trans (Kp.same s13)
        have rl0 := Paired.length hR0
        have hlen1 : rs0.length + 1 = (1 + n).toNat := by rw [← hl1, List.length_append]; rfl
        obtain ⟨x, hx⟩ : ∃ x : Nat, (5 : Int) + m = (x : Int) := ⟨(5 + m).toNat, by omega⟩
        have hm8 : x < 8 := by omega
        refine k l3 (t1 :: t2 :: (bs0 ++ [p3]) ++ bs2) (.load x (a + 1) :: .test (a + 2) (a + 2 + rs0.length + 1) :: (rs0 ++ [r.to (a + 2 + rs0.length + 1 + rs2.length)]) ++ rs2) _ (C13'.new hl3n) (C13'.here hl3n) ?_ ?_ ?_ ?_ ?_ ?_
        · rw [upd_same]
          simp only [List.map_append, List.map_cons, List.map_nil]
          rfl
        · refine RowsAt.kp ?_ (Kp.new hl3n)
          refine Paired.app (.cons ?_ (.cons ?_ (R8.kp K13))) (R82.kp K13)
          · refine (s11.trans (s12.trans s13)) _ _ (e10.trans ?_)
            show some (HO.tup [V.str "load", V.int (5 + m), V.int ((a : Int) + 1)]) = some (.tup [V.str "load", V.int (x : Int), V.int ((a + 1 : Nat) : Int)])
            rw [hx]
            rfl
          · refine (s12.trans s13) _ _ (e11.trans ?_)
            show some (HO.tup [V.str "test", V.int ((a : Int) + 2), V.int ((a : Int) + 2 + (((bs0 ++ [b]).map V.ref).length : Int))]) = some (.tup [V.str "test", V.int ((a + 2 : Nat) : Int), V.int ((a + 2 + rs0.length + 1 : Nat) : Int)])
            rw [List.length_map, List.length_append, rl0]
            rfl
        · simp
        · simp only [List.length_append, List.length_cons, List.length_nil]
          omega
        · have t2 : tests rs2 = 0 := tests_plain fun y hy => (hr2 y hy).1
          have t0 : tests rs0 = 0 := tests_plain fun y hy => (hr1' y (List.mem_append_left _ hy)).1
          have t1 := isT_le (.test (a + 2) (a + 2 + rs0.length + 1))
          have tl : isT (.load x (a + 1)) = 0 := isT_plain trivial
          have tr := isT_to (m := a + 2 + rs0.length + 1 + rs2.length) hr0.1
          rw [List.cons_append, List.cons_append, tests_cons, tests_cons, tests_app, tests_app, tests_one, t2, t0, tl, tr]
          simp only [List.length_append, List.length_cons, List.length_nil]
          omega
        · have hL : (Row.load x (a + 1) :: .test (a + 2) (a + 2 + rs0.length + 1) :: (rs0 ++ [r.to (a + 2 + rs0.length + 1 + rs2.length)]) ++ rs2).length = rs0.length + rs2.length + 3 := by
            simp only [List.length_append, List.length_cons, List.length_nil]
            omega
          rw [hL]
          intro y hy
          rcases List.mem_append.mp hy with hy | hy
          · rcases List.mem_cons.mp hy with rfl | hy
            · exact ⟨hm8, by omega⟩
            · rcases List.mem_cons.mp hy with rfl | hy
              · exact ⟨by omega, by omega⟩
              · rcases List.mem_append.mp hy with hy | hy
                · exact (hr1' y (List.mem_append_left _ hy)).2.mono (by omega)
                · rw [List.mem_singleton.mp hy]
                  exact hr0.2.to (by omega) hr0.1
          · refine (hr2 y hy).2.mono ?_
            rw [List.length_append, List.length_singleton]
            omega
end
end DL
namespace DL
open PySem L2
theorem if_elim {c : TT} {t u : TS} {D : Ends} {σ : St} {H : Hp} (R : Bool → Hp → Prop) (key : ∀ b H', R b H' → if b = true then t D σ H' else u D σ H') (test : ∀ F' : Bool → Hp → Prop, (∀ b H', R b H' → F' b H') → c σ H F') : tIfS c t u D σ H := test _ key
def PB : Nat → Nat
  | 0 => 6
  | n + 1 => 6 + 3 * PB n
abbrev sBody : Stmt := top 55
abbrev pBody : List Str := ["_law_d", "_law_at", "_law_deep"]
abbrev FBody (K : Frg) (mg : Str → Option Value) := Fd K mg "_law_body" sBody pBody
def spBody (K : Frg) (n : Nat) : Sp := fun vs H Q _ => ∃ (d sa : Addr) (ns : List Int) (at_ : Nat), vs = [.ref d, .int (at_ : Int), .int (n : Int)] ∧ n ≤ 2 ∧ Ent K H d sa ns ∧
  ∀ l bs rs H', Dc K H H' d sa ns → H l = none → H' l = some (.lst (bs.map V.ref)) → RowsAt H' bs rs → rs.length ≤ 3 * PB n → 4 * tests rs ≤ rs.length → (∀ r ∈ rs, r.ok 8 (at_ + rs.length + 1)) → Q (.ref l) H'
def BodyAt (K : Frg) (H0 : Hp) (d sa : Addr) (ns : List Int) (l : Addr) (at_ : Nat) (z : Nat) (H : Hp) : Prop :=
  ∃ bs rs, Dc K H0 H d sa ns ∧ H0 l = none ∧ H l = some (.lst (bs.map V.ref)) ∧ RowsAt H bs rs ∧ rs.length ≤ z ∧ 4 * tests rs ≤ rs.length ∧ ∀ r ∈ rs, r.ok 8 (at_ + rs.length + 1)
theorem BodyAt.after {K : Frg} {H0 H H' : Hp} {d sa : Addr} {ns : List Int} {l : Addr} {a z : Nat} (h : BodyAt K H0 d sa ns l a z H) (C : Dc K H H' d sa ns) : BodyAt K H0 d sa ns l a z H' := by
  obtain ⟨bs, rs, C0, n0, hl, hR, hz, hT, ho⟩ := h
  exact ⟨bs, rs, C0.trans C, n0, C.but _ _ (C0.ned n0) hl, hR.kp C.kp, hz, hT, ho⟩
theorem PB_le : ∀ {n : Nat}, n ≤ 2 → PB n ≤ 78
  | 0, _ => by decide
  | 1, _ => by decide
  | 2, _ => by decide
section
variable {P : Program} {w : World} {K : PySem.W.Frag} {mg : Str → Option Value} {base : Heap}
abbrev nBody : List Str := ["_law_d", "_law_at", "_law_deep", "_law_found", "_law_turn", "_law_here", "_law_way", "_law_inner", "_law_behind"]
theorem scBody : FnScope nBody pBody (defScope sBody) := ⟨rfl, rfl, rfl, by decide +kernel, rfl, by decide +kernel, by decide +kernel⟩
theorem body_one {k n : Nat} {sp : Sp} (cBody : FBody K mg) (cFork : FFork K mg) (cStraight : FStraight K mg) (cNext : FNext K mg) (T : Bt mg) (h3 : 3 ≤ k) (GBody : FnOk P w K mg base CX0 k cBody.f cBody.fd pBody sp) (hk : 0 < n → ∀ vs H Q E, spBody K (n - 1) vs H Q E → sp vs H Q E) :
    FnOk P w K mg base CX0 (k + 1) cBody.f cBody.fd pBody (spBody K n) := by
  have GNext : FnOk P w K mg base CX0 1 cNext.f cNext.fd ["_law_dice_here", "_law_many"] (spNext K) := ok_next cNext.F T
  have GStraight : FnOk P w K mg base CX0 2 cStraight.f cStraight.fd ["_law_d", "_law_at"] (spStraight K) := ok_straight cStraight cNext T
  have GFork : FnOk P w K mg base CX0 3 cFork.f cFork.fd ["_law_d", "_law_at"] (spFork K) := ok_fork cFork cStraight cNext T
  refine cBody.F.ok scBody (fun vs H Q E h => ?_) (fun cdv A outer s H vs Q E hr h => ?_)
  · obtain ⟨d, sa, ns, a, rfl, _⟩ := h
    rfl
  · obtain ⟨d, sa, ns, a, rfl, n2, hE, kq⟩ := h
    refine ⟨_, (pss_cons (ps_set (i := 3) scBody.nd rfl (Or.inl rfl) (pe_lst pa_nil))
      (pss_cons (ps_for PassesOwn.never rfl (pi_range1 rfl T.range (pa_cons (pe_op op_add pe_int (pe_call GNext (hr.mono (by first | omega | decide)) (by rfl) cNext.m cNext.F.kp cNext.b .nil pass0 (pa_cons (pv 0) (pa_cons pe_int pa_nil)))) pa_nil)) (pg_name (i := 4) scBody.nd rfl (Or.inl rfl))
          (pss_cons (ps_set (i := 5) scBody.nd rfl (Or.inl rfl) (pe_op op_add (pv 1) (pe_callB call_len_seq (by rfl) T.len PySem.boot_len (pa_cons (pv 3) pa_nil))))
          (pss_cons (ps_set (i := 6) scBody.nd rfl (Or.inl rfl) (pe_call GNext (hr.mono (by first | omega | decide)) (by rfl) cNext.m cNext.F.kp cNext.b .nil pass0 (pa_cons (pv 0) (pa_cons pe_int pa_nil))))
          (pss_one (ps_if (PW.pt (pw_or (pt_cmpR op_lt (pv 6) pe_int (nomark _)) (pw_or1 (PW.pt (pw_and (pt_cmpR op_eq (pv 6) pe_int (nomark _)) (pw_and (pt_cmpR op_lt (pv 2) pe_int (nomark _)) (pw_and1 (pt_cmpR op_eq (pe_call GNext (hr.mono (by first | omega | decide)) (by rfl) cNext.m cNext.F.kp cNext.b .nil pass0 (pa_cons (pv 0) (pa_cons pe_int pa_nil))) pe_int (nomark _)))))))))
              (pss_one (ps_expr (pe_bm PySem.F.plainAttrs_list PySem.F.slot_list_append PySem.F.type_list_append mt_append (pv 3) (pa_cons (pe_call GStraight (hr.mono (by first | omega | decide)) (by rfl) cStraight.m cStraight.F.kp cStraight.b .nil pass0 (pa_cons (pv 0) (pa_cons (pv 5) pa_nil))) pa_nil))))
              (pss_one (ps_if (pt_cmpR op_eq (pv 6) pe_int (nomark _))
                  (pss_one (ps_set (i := 3) scBody.nd rfl (Or.inl rfl) (pe_op op_cat (pv 3) (pe_call GFork (hr.mono (by first | omega | decide)) (by rfl) cFork.m cFork.F.kp cFork.b .nil pass0 (pa_cons (pv 0) (pa_cons (pv 5) pa_nil))))))
                  (pss_one (ps_if (pt_cmpR op_gt (pv 2) pe_int (nomark _))
                      (pss_cons (ps_set (i := 7) scBody.nd rfl (Or.inl rfl) (pe_call GBody (hr.mono (by first | omega | decide)) (by rfl) cBody.m cBody.F.kp cBody.b .nil pass0 (pa_cons (pv 0) (pa_cons (pe_op op_add (pv 5) pe_int) (pa_cons (pe_op op_sub (pv 2) pe_int) pa_nil)))))
                      (pss_cons (ps_set (i := 8) scBody.nd rfl (Or.inl rfl) (pe_op op_add (pe_op op_add (pv 5) pe_int) (pe_callB call_len_seq (by rfl) T.len PySem.boot_len (pa_cons (pv 7) pa_nil))))
                      (pss_cons (ps_set (i := 3) scBody.nd rfl (Or.inl rfl) (pe_op op_cat (pe_op op_cat (pv 3) (pe_lst (pa_cons (pe_tup (pa_cons pe_str (pa_cons (pv 2) (pa_cons (pe_op op_add (pv 5) pe_int) pa_nil)))) (pa_cons (pe_tup (pa_cons pe_str (pa_cons (pe_op op_add pe_int (pv 2)) (pa_cons (pe_op op_add (pv 5) pe_int) pa_nil)))) pa_nil)))) (pv 7)))
                      (pss_cons (ps_set (i := 3) scBody.nd rfl (Or.inl rfl) (pe_op op_cat (pv 3) (pe_lst (pa_cons (pe_tup (pa_cons pe_str (pa_cons (pe_op op_add pe_int (pv 2)) (pa_cons (pe_op op_add (pv 8) pe_int) pa_nil)))) (pa_cons (pe_tup (pa_cons pe_str (pa_cons pe_int (pa_cons (pe_op op_add (pv 8) pe_int) pa_nil)))) (pa_cons (pe_tup (pa_cons pe_str (pa_cons (pe_op op_add pe_int (pv 2)) (pa_cons (pe_op op_add (pv 8) pe_int) pa_nil)))) pa_nil))))))
                      (pss_one (ps_expr (pe_bm PySem.F.plainAttrs_list PySem.F.slot_list_append PySem.F.type_list_append mt_append (pv 3) (pa_cons (pe_tup (pa_cons pe_str (pa_cons (pe_op op_add (pv 8) pe_int) (pa_cons (pe_op op_add (pv 5) pe_int) pa_nil)))) pa_nil))))))))
                      pss_nil)))))))))
      (pss_one (ps_ret (pv 3))))), ?_⟩
    refine ⟨Nat.zero_le _, fun l0 hl0 => ?_⟩
    have B0 : BodyAt K H d sa ns l0 a 0 (upd H l0 (.lst [])) := ⟨[], [], (Dc.refl hE).new hl0, hl0, upd_same, .nil, Nat.le_refl _, Nat.le_refl 0, fun _ h => absurd h (by simp)⟩
    have C0 : Dc K H (upd H l0 (.lst [])) d sa ns := (Dc.refl hE).new hl0
    refine ⟨_, rfl, d, sa, ns, _, rfl, C0.ent, by decide, by decide, fun n3 H1 n30 n31 C1 => ?_⟩
    refine ⟨_, _, rfl, rfl, _, rfl, by omega, by omega, ?_⟩
    refine for_range (lo := 0) (n := (1 + n3).toNat) (fun i σ H' => ∃ (l : Addr) (x4 x5 x6 x7 x8 : Option V), σ = [some (.ref d), some (.int (a : Int)), some (.int (n : Int)), some (.ref l), x4, x5, x6, x7, x8] ∧ BodyAt K H d sa ns l a (i * PB n) H')
      ⟨l0, _, _, _, _, _, rfl, by rw [Nat.zero_mul]; exact B0.after C1⟩ ?_ ?_
    · rintro i σ H2 hi ⟨l, x4, x5, x6, x7, x8, rfl, bs, rs, C2, l0, hl, hR, hz, hT, ho⟩
      have hbl := Paired.length hR
      refine ⟨_, rfl, _, rfl, l, _, rfl, .inl (SqL.of hl), _, _, rfl, rfl, ?_⟩
      refine ⟨_, rfl, d, sa, ns, _, rfl, C2.ent, by decide, by decide, fun n6 H3 n60 n61 C3 => ?_⟩
      dsimp only [gName]
      refine if_elim (fun _ H4 => Dc K H2 H4 d sa ns) ?_ ?_
      · intro bb H4 C4
        have C24 := C2.trans C4
        have hl4 := C4.but _ _ (C2.ned l0) hl
        have hR4 := hR.kp C4.kp
        have hh : (a : Int) + ((bs.map V.ref).length : Int) = ((a + rs.length : Nat) : Int) := by rw [List.length_map, hbl]; rfl
        have hm : (i + 1) * PB n = i * PB n + PB n := Nat.succ_mul _ _
        have hp6 : 6 ≤ PB n := by cases n with
          | zero => exact Nat.le_refl _
          | succ n => show 6 ≤ 6 + 3 * PB n; omega
        have hi3 : i < 3 := by omega
        have hbig : i * PB n ≤ 300 := by
          have h1 := PB_le n2
          have h2 := Nat.mul_le_mul (show i ≤ 3 by omega) h1
          omega
        cases bb with
        | true =>
          refine ⟨_, rfl, .inl ⟨rfl, _, SqL.of hl4⟩, _, rfl, _, rfl, d, sa, ns, a + rs.length, ?_, C24.ent, fun t r H5 C5 ht hp ho5 => ?_⟩
          · show [V.ref d, V.int ((a : Int) + ((bs.map V.ref).length : Int))] = _
            rw [hh]
          · have hl5 := C5.but _ _ (C24.ned l0) hl4
            refine ⟨l, _, _, rfl, rfl, hl5, szl (by rw [List.length_map]; omega), ?_⟩
            refine ⟨l, _, _, _, _, _, rfl, bs ++ [t], rs ++ [r], (C24.trans C5).mut l0, l0, by rw [upd_same, List.map_append]; rfl, ?_, by rw [List.length_append, List.length_singleton]; omega, by rw [tests_app, tests_one, isT_plain hp, List.length_append, List.length_singleton]; omega, ?_⟩
            · exact RowsAt.kp (Paired.app (hR4.kp C5.kp) (Paired.one ht)) (Kp.lst hl5)
            · rw [List.length_append, List.length_singleton]
              exact all_snoc (fun y m => (ho y m).mono (by omega)) (ho5.mono (by omega))
        | false =>
          refine ⟨_, rfl, rfl, _, rfl, ite2 (fun _ => ?_) (fun _ => ?_)⟩
          · refine ⟨_, rfl, _, rfl, _, rfl, d, sa, ns, a + rs.length, ?_, C24.ent, fun l2 bs2 rs2 H5 C5 nl2 hl2 hR2 h21 h26 hT2 ho2 => ?_⟩
            · show [V.ref d, V.int ((a : Int) + ((bs.map V.ref).length : Int))] = _
              rw [hh]
            · have hl5 := C5.but _ _ (C24.ned l0) hl4
              have hb2 := Paired.length hR2
              refine ⟨l, l2, _, _, rfl, rfl, hl5, hl2, sz (by rw [List.length_map, List.length_map]; omega), fun l3 hl3 => ?_⟩
              refine ⟨l3, _, _, _, _, _, rfl, bs ++ bs2, rs ++ rs2, (C24.trans C5).new hl3, (C24.trans C5).here hl3, by rw [upd_same, List.map_append], ?_, by rw [List.length_append]; omega, by rw [tests_app, List.length_append]; omega, ?_⟩
              · exact RowsAt.kp (Paired.app (hR4.kp C5.kp) hR2) (Kp.new hl3)
              · rw [List.length_append]
                exact all_app (fun y m => (ho y m).mono (by omega)) (fun y m => (ho2 y m).mono (by omega))
          · refine ⟨_, rfl, _, _, rfl, rfl, _, rfl, ite2 (fun c => ?_) (fun _ => ?_)⟩
            · have hn0 : 0 < n := by
                have c := of_decide_eq_true c
                omega
              have hPn : PB n = 6 + 3 * PB (n - 1) := by
                obtain ⟨n', e⟩ : ∃ n', n = n' + 1 := ⟨n - 1, by omega⟩
                subst e
                rfl
              have hP1 := PB_le (n := n - 1) (by omega)
              refine ⟨_, rfl, _, rfl, _, _, rfl, rfl, _, rfl, _, _, rfl, rfl, ?_⟩
              refine hk hn0 _ _ _ _ ⟨d, sa, ns, a + rs.length + 2, ?_, by omega, C24.ent, fun li bsi rsi H5 C5 nli hli hRi hzi hTi hoi => ?_⟩
              · show [V.ref d, V.int ((a : Int) + ((bs.map V.ref).length : Int) + 2), V.int ((n : Int) - 1)] = [V.ref d, V.int ((a + rs.length + 2 : Nat) : Int), V.int ((n - 1 : Nat) : Int)]
                rw [hh, show ((n - 1 : Nat) : Int) = (n : Int) - 1 by omega]
                rfl
              · have hl5 := C5.but _ _ (C24.ned l0) hl4
                have hR5 := hR4.kp C5.kp
                have hbi := Paired.length hRi
                have C25 := C24.trans C5
                have nlli : l ≠ li := ne_of_none hl4 nli
                refine ⟨_, rfl, _, _, rfl, rfl, _, rfl, li, _, rfl, .inl (SqL.of hli), _, _, rfl, rfl, ?_⟩
                refine ⟨_, rfl, _, rfl, _, rfl, _, _, rfl, rfl, (by show 3 ≤ sizeLine; decide), fun t1 ht1 => ?_⟩
                refine alloc ht1 fun H6 s6 e6 => ?_
                refine ⟨_, rfl, _, _, rfl, rfl, _, rfl, _, _, rfl, rfl, (by show 3 ≤ sizeLine; decide), fun t2 ht2 => ?_⟩
                refine alloc ht2 fun H7 s7 e7 => ?_
                refine ⟨(by show 2 ≤ sizeLine; decide), fun l6 hl6 => ?_⟩
                refine alloc hl6 fun H8 s8 e8 => ?_
                have S58 := (s6.trans s7).trans s8
                refine ⟨l, l6, _, _, rfl, rfl, S58 _ _ hl5, e8, sz (by rw [List.length_map]; show _ + 2 ≤ _; omega), fun l7 hl7 => ?_⟩
                refine alloc hl7 fun H9 s9 e9 => ?_
                refine ⟨_, rfl, l7, li, _, _, rfl, rfl, e9, (S58.trans s9) _ _ hli, sz (by rw [List.length_append, List.length_map, List.length_map]; show _ + 2 + _ ≤ _; omega), fun l8 hl8 => ?_⟩
                refine alloc hl8 fun H10 s10 e10 => ?_
                refine ⟨_, rfl, _, rfl, _, _, rfl, rfl, _, rfl, _, _, rfl, rfl, (by show 3 ≤ sizeLine; decide), fun t3 ht3 => ?_⟩
                refine alloc ht3 fun H11 s11 e11 => ?_
                refine ⟨_, rfl, _, _, rfl, rfl, (by show 3 ≤ sizeLine; decide), fun t4 ht4 => ?_⟩
                refine alloc ht4 fun H12 s12 e12 => ?_
                refine ⟨_, rfl, _, _, rfl, rfl, _, rfl, _, _, rfl, rfl, (by show 3 ≤ sizeLine; decide), fun t5 ht5 => ?_⟩
                refine alloc ht5 fun H13 s13 e13 => ?_
                refine ⟨(by show 3 ≤ sizeLine; decide), fun l9 hl9 => ?_⟩
                refine alloc hl9 fun H14 s14 e14 => ?_
                have S1014 := ((s11.trans s12).trans s13).trans s14
                refine ⟨l8, l9, _, _, rfl, rfl, S1014 _ _ e10, e14, sz (by rw [List.length_append, List.length_append, List.length_map, List.length_map]; show _ + 2 + _ + 3 ≤ _; omega), fun l10 hl10 => ?_⟩
                refine alloc hl10 fun H15 s15 e15 => ?_
                refine ⟨_, rfl, .inl ⟨rfl, _, SqL.of e15⟩, _, rfl, _, _, rfl, rfl, _, rfl, _, _, rfl, rfl, (by show 3 ≤ sizeLine; decide), fun t6 ht6 => ?_⟩
                refine alloc ht6 fun H16 s16 e16 => ?_
                have S516 := (((S58.trans s9).trans s10).trans S1014).trans (s15.trans s16)
                have C26 := C25.same S516
                have n10 : H l10 = none := C25.here ((((S58.trans s9).trans s10).trans S1014).free hl10)
                have f10 : H16 l10 = some (.lst (((bs.map V.ref ++ [.ref t1, .ref t2]) ++ bsi.map V.ref) ++ [.ref t3, .ref t4, .ref t5])) := s16 _ _ e15
                refine ⟨l10, _, _, rfl, rfl, f10, szl (by simp only [List.length_append, List.length_map, List.length_cons, List.length_nil]; omega), ?_⟩
                refine ⟨l10, _, _, _, _, _, rfl, ((bs ++ [t1, t2]) ++ bsi) ++ ([t3, t4, t5] ++ [t6]),
                  ((rs ++ [Row.load n (a + rs.length + 1), .store (2 + n) (a + rs.length + 2)]) ++ rsi) ++ ([Row.load (2 + n) (a + rs.length + 2 + rsi.length + 1), .take 0 (a + rs.length + 2 + rsi.length + 2), .store (2 + n) (a + rs.length + 2 + rsi.length + 3)] ++ [Row.test (a + rs.length + 2 + rsi.length + 4) (a + rs.length + 2)]),
                  C26.mut n10, n10, ?_, ?_, ?_, ?_, ?_⟩
                · rw [upd_same]
                  simp only [List.map_append, List.map_cons, List.map_nil, List.append_assoc]
                · refine RowsAt.kp ?_ (Kp.lst f10)
                  have hbe : (a : Int) + ((bs.map V.ref).length : Int) + 2 + ((bsi.map V.ref).length : Int) = ((a + rs.length + 2 + rsi.length : Nat) : Int) := by rw [hh, List.length_map, hbi]; rfl
                  refine Paired.app (Paired.app (Paired.app (hR5.kp (Kp.same S516)) (.cons ?_ (.cons ?_ .nil))) (hRi.kp (Kp.same S516))) (Paired.app (.cons ?_ (.cons ?_ (.cons ?_ .nil))) (Paired.one ?_))
                  · refine (s7.trans (s8.trans (s9.trans (s10.trans (S1014.trans (s15.trans s16)))))) _ _ (e6.trans ?_)
                    show some (HO.tup [V.str "load", V.int (n : Int), V.int ((a : Int) + ((bs.map V.ref).length : Int) + 1)]) = _
                    rw [hh]
                    rfl
                  · refine (s8.trans (s9.trans (s10.trans (S1014.trans (s15.trans s16))))) _ _ (e7.trans ?_)
                    show some (HO.tup [V.str "store", V.int (2 + (n : Int)), V.int ((a : Int) + ((bs.map V.ref).length : Int) + 2)]) = _
                    rw [hh, show (2 : Int) + (n : Int) = ((2 + n : Nat) : Int) by omega]
                    rfl
                  · refine (s12.trans (s13.trans (s14.trans (s15.trans s16)))) _ _ (e11.trans ?_)
                    show some (HO.tup [V.str "load", V.int (2 + (n : Int)), V.int ((a : Int) + ((bs.map V.ref).length : Int) + 2 + ((bsi.map V.ref).length : Int) + 1)]) = _
                    rw [hbe, show (2 : Int) + (n : Int) = ((2 + n : Nat) : Int) by omega]
                    rfl
                  · refine (s13.trans (s14.trans (s15.trans s16))) _ _ (e12.trans ?_)
                    show some (HO.tup [V.str "take", V.int 0, V.int ((a : Int) + ((bs.map V.ref).length : Int) + 2 + ((bsi.map V.ref).length : Int) + 2)]) = _
                    rw [hbe]
                    rfl
                  · refine (s14.trans (s15.trans s16)) _ _ (e13.trans ?_)
                    show some (HO.tup [V.str "store", V.int (2 + (n : Int)), V.int ((a : Int) + ((bs.map V.ref).length : Int) + 2 + ((bsi.map V.ref).length : Int) + 3)]) = _
                    rw [hbe, show (2 : Int) + (n : Int) = ((2 + n : Nat) : Int) by omega]
                    rfl
                  · refine e16.trans ?_
                    show some (HO.tup [V.str "test", V.int ((a : Int) + ((bs.map V.ref).length : Int) + 2 + ((bsi.map V.ref).length : Int) + 4), V.int ((a : Int) + ((bs.map V.ref).length : Int) + 2)]) = _
                    rw [hbe, hh]
                    rfl
                · simp only [List.length_append, List.length_cons, List.length_nil]
                  omega
                · have t1 := isT_le (.test (a + rs.length + 2 + rsi.length + 4) (a + rs.length + 2))
                  have q1 : isT (.load n (a + rs.length + 1)) = 0 := isT_plain trivial
                  have q2 : isT (.store (2 + n) (a + rs.length + 2)) = 0 := isT_plain trivial
                  have q3 : isT (.load (2 + n) (a + rs.length + 2 + rsi.length + 1)) = 0 := isT_plain trivial
                  have q4 : isT (.take 0 (a + rs.length + 2 + rsi.length + 2)) = 0 := isT_plain trivial
                  have q5 : isT (.store (2 + n) (a + rs.length + 2 + rsi.length + 3)) = 0 := isT_plain trivial
                  simp only [tests_app, tests_cons, tests_one, show tests [] = 0 from rfl, q1, q2, q3, q4, q5, List.length_append, List.length_cons, List.length_nil]
                  omega
                · have hL : (((rs ++ [Row.load n (a + rs.length + 1), .store (2 + n) (a + rs.length + 2)]) ++ rsi) ++ ([Row.load (2 + n) (a + rs.length + 2 + rsi.length + 1), .take 0 (a + rs.length + 2 + rsi.length + 2), .store (2 + n) (a + rs.length + 2 + rsi.length + 3)] ++ [Row.test (a + rs.length + 2 + rsi.length + 4) (a + rs.length + 2)])).length = rs.length + rsi.length + 6 := by
                    simp only [List.length_append, List.length_cons, List.length_nil]
                    omega
                  rw [hL]
                  refine all_app (all_app (all_app (fun y m => (ho y m).mono (by omega)) ?_) (fun y m => (hoi y m).mono (by omega))) (all_app ?_ ?_)
                  all_goals
                    intro y m
                    simp only [List.mem_cons, List.mem_singleton, List.not_mem_nil, or_false] at m
                    first
                      | (rcases m with rfl | rfl | rfl <;> (simp only [Row.ok]; omega))
                      | (rcases m with rfl | rfl <;> (simp only [Row.ok]; omega))
                      | (rcases m with rfl; simp only [Row.ok]; omega)
            · exact ⟨l, _, _, _, _, _, rfl, bs, rs, C24, l0, hl4, hR4, by omega, hT, ho⟩
      · intro F' hF
        refine ⟨_, rfl, _, _, rfl, rfl, _, rfl, ite2 (fun _ => hF _ _ C3) (fun _ => ?_)⟩
        refine ⟨_, rfl, rfl, _, rfl, ite2 (fun _ => ?_) (fun _ => hF _ _ C3)⟩
        refine ⟨_, rfl, _, _, rfl, rfl, _, rfl, ite2 (fun _ => ?_) (fun _ => hF _ _ C3)⟩
        refine ⟨_, rfl, d, sa, ns, _, rfl, (C2.trans C3).ent, by decide, by decide, fun n7 H5 n70 n71 C5 => ?_⟩
        exact ⟨rfl, _, rfl, hF _ _ (C3.trans C5)⟩
    · rintro σ H2 ⟨l, x4, x5, x6, x7, x8, rfl, bs, rs, C2, l0, hl, hR, hz, hT, ho⟩
      refine ⟨_, rfl, kq l bs rs H2 C2 l0 hl hR ?_ hT ho⟩
      refine Nat.le_trans hz (Nat.mul_le_mul_right _ ?_)
      omega
theorem ok_body (cBody : FBody K mg) (cFork : FFork K mg) (cStraight : FStraight K mg) (cNext : FNext K mg) (T : Bt mg) : ∀ n : Nat, FnOk P w K mg base CX0 (n + 4) cBody.f cBody.fd pBody (spBody K n)
  | 0 => body_one (k := 3) cBody cFork cStraight cNext T (Nat.le_refl _) ok_no (fun h => absurd h (Nat.lt_irrefl 0))
  | n + 1 => body_one (k := n + 4) cBody cFork cStraight cNext T (by omega) (ok_body cBody cFork cStraight cNext T n) (fun _ vs H Q E h => h)
def spBodyU (K : Frg) : Sp := fun vs H Q E => ∃ n, n ≤ 2 ∧ spBody K n vs H Q E
theorem ok_bodyU (cBody : FBody K mg) (cFork : FFork K mg) (cStraight : FStraight K mg) (cNext : FNext K mg) (T : Bt mg) : FnOk P w K mg base CX0 6 cBody.f cBody.fd pBody (spBodyU K) := by
  refine ⟨fun vs H Q E ⟨n, hn, h⟩ => (ok_body (P := P) (w := w) (base := base) cBody cFork cStraight cNext T n).len _ _ _ _ h, fun A outer s H args us vs Q E hr he hb hv ⟨n, hn, h⟩ => ?_⟩
  exact ((ok_body cBody cFork cStraight cNext T n).mono (by omega)).run A outer s H args us vs Q E hr he hb hv h
end
end DL
namespace DL
open PySem L2 DLR
/-! ### programs -/
structure Prog where
  ws : List Int
  rows : List Row
structure Good (p : Prog) : Prop where
  r1 : 1 ≤ p.rows.length
  r40 : p.rows.length ≤ 40
  w8 : p.ws.length ≤ 8
  num : ∀ x ∈ p.ws, -1000000 ≤ x ∧ x ≤ 1000000
  ok : ∀ r ∈ p.rows, r.ok p.ws.length p.rows.length
def ProgAt (H : Hp) (a : Addr) (p : Prog) : Prop :=
  ∃ (wa ra : Addr) (bs : List Addr), H a = some (.tup [.ref wa, .ref ra]) ∧ H wa = some (.tup (p.ws.map V.int)) ∧ H ra = some (.tup (bs.map V.ref)) ∧ RowsAt H bs p.rows
theorem ProgAt.kp {H H' : Hp} {a : Addr} {p : Prog} (h : ProgAt H a p) (k : Kp H H') : ProgAt H' a p := by
  obtain ⟨wa, ra, bs, h1, h2, h3, h4⟩ := h
  exact ⟨wa, ra, bs, k _ _ h1, k _ _ h2, k _ _ h3, h4.kp k⟩
def nI (n : Nat) : V := .int (n : Int)
def PopAt (K : Frg) (H0 : Hp) (d sa : Addr) (ns : List Int) (D l : Addr) (all : List Nat) (i : Nat) (H : Hp) : Prop :=
  ∃ ks ls : List Nat, Dc K H0 H d sa ns ∧ H0 D = none ∧ H0 l = none ∧ D ≠ l ∧ H D = some (.lst (ks.map nI)) ∧ H l = some (.lst (ls.map nI)) ∧ (ks ++ ls).Perm all ∧ ks.length = i
theorem PopAt.perm {K : Frg} {H0 H : Hp} {d sa : Addr} {ns : List Int} {D l : Addr} {all : List Nat} (h : PopAt K H0 d sa ns D l all all.length H) :
    ∃ ks : List Nat, Dc K H0 H d sa ns ∧ H0 D = none ∧ H D = some (.lst (ks.map nI)) ∧ ks.Perm all := by
  obtain ⟨ks, ls, C, nD, nl, ne, hD, hl, hp, hk⟩ := h
  have e := hp.length_eq
  rw [List.length_append, hk] at e
  have z : ls = [] := List.length_eq_zero_iff.mp (by omega)
  subst z
  rw [List.append_nil] at hp
  exact ⟨ks, C, nD, hD, hp⟩
theorem erase_pm {α : Type} : ∀ {l : List α} {j : Nat} {x : α}, l[j]? = some x → (x :: l.eraseIdx j).Perm l
  | [], j, x, h => by simp at h
  | y :: l, 0, x, h => by
    have e : y = x := by simpa using h
    subst e
    exact List.Perm.refl _
  | y :: l, j + 1, x, h => by
    have ih := erase_pm (l := l) (j := j) (x := x) (by simpa using h)
    exact (List.Perm.swap y x _).trans (List.Perm.cons y ih)
theorem sl1 {xs : List V} (h : 1 ≤ xs.length) : cutV xs none (some 1) = xs.take 1 := by
  unfold cutV
  have e : HT.sIx xs.length xs.length (some 1) = min 1 xs.length := HT.sIx_nat _ _ 1
  rw [e, HT.sIx_none, List.drop_zero, Nat.sub_zero, Nat.min_eq_left h]
theorem drop1 {xs : List V} : cutV xs (some 1) none = xs.drop 1 := by
  unfold cutV
  have e : HT.sIx xs.length 0 (some 1) = min 1 xs.length := HT.sIx_nat _ _ 1
  rw [e, HT.sIx_none]
  cases xs with
  | nil => rfl
  | cons x xs =>
    have q : min 1 (x :: xs).length = 1 := Nat.min_eq_left (by simp)
    rw [q]
    exact List.take_of_length_le (by simp)
theorem map_erase {α β : Type} (f : α → β) : ∀ (l : List α) (j : Nat), (l.eraseIdx j).map f = (l.map f).eraseIdx j
  | [], _ => rfl
  | _ :: _, 0 => rfl
  | x :: l, j + 1 => by
    show f x :: (l.eraseIdx j).map f = f x :: (l.map f).eraseIdx j
    rw [map_erase f l j]
theorem pop_perm {ks ls all : List Nat} {j : Nat} {x : Nat} (h : (ks ++ ls).Perm all) (e : ls[j]? = some x) : ((ks ++ [x]) ++ ls.eraseIdx j).Perm all := by
  refine List.Perm.trans ?_ h
  rw [List.append_assoc]
  exact List.Perm.append_left _ (erase_pm e)
theorem nI_get {l : List Nat} {j : Nat} (h : j < l.length) : (l.map nI)[j]? = some (.int ((l[j] : Nat) : Int)) := by
  rw [List.getElem?_map, List.getElem?_eq_getElem h]
  rfl
theorem nI_getD {l : List Nat} {j : Nat} (h : j < l.length) : (l.map nI)[j]? = some (.int ((l.getD j 0 : Nat) : Int)) := by
  rw [nI_get h, List.getD_eq_getElem?_getD, List.getElem?_eq_getElem h]
  rfl
theorem nI_flat (l : List Nat) : (l.map nI).all flatV = true := by
  rw [List.all_eq_true]
  intro x hx
  obtain ⟨n, _, rfl⟩ := List.mem_map.mp hx
  rfl
theorem nI_none {l : List Nat} {x m : Nat} {z : V} (h : l[m]? ≠ some x) (e : (l.map nI)[m]? = some z) : eqV z (.int (x : Int)) = false := by
  rw [List.getElem?_map] at e
  cases q : l[m]? with
  | none => rw [q] at e; cases e
  | some y =>
    rw [q] at e
    have ez : nI y = z := Option.some.inj e
    subst ez
    show ((y : Int) == (x : Int)) = false
    refine beq_eq_false_iff_ne.mpr fun z => h ?_
    rw [q, Int.ofNat_inj.mp z]
theorem rgV_nI (n : Nat) : rgV 0 (n : Int) = (List.range n).map nI := by
  unfold rgV
  have e : ((n : Int) - 0).toNat = n := by omega
  rw [e]
  refine List.map_congr_left fun i _ => ?_
  show V.int (0 + (i : Int)) = V.int (i : Int)
  rw [Int.zero_add]
theorem rgV_nI1 (n : Nat) : rgV 1 (n : Int) = ((List.range (n - 1)).map (· + 1)).map nI := by
  unfold rgV
  have e : ((n : Int) - 1).toNat = n - 1 := by omega
  rw [e, List.map_map]
  refine List.map_congr_left fun i _ => ?_
  show V.int (1 + (i : Int)) = V.int ((i + 1 : Nat) : Int)
  rw [show ((i + 1 : Nat) : Int) = 1 + (i : Int) by omega]
def Row.ren (f g : Nat → Nat) : Row → Row
  | .load w n => .load (f w) (g n)
  | .add w n => .add (f w) (g n)
  | .take w n => .take (f w) (g n)
  | .store w n => .store (f w) (g n)
  | .say n => .say (g n)
  | .test a b => .test (g a) (g b)
  | .stop => .stop
def Row.uses : Row → Bool
  | .load _ _ => true
  | .add _ _ => true
  | .take _ _ => true
  | .store _ _ => true
  | _ => false
def Row.word : Row → Str
  | .load _ _ => "load"
  | .add _ _ => "add"
  | .take _ _ => "take"
  | .store _ _ => "store"
  | .say _ => "say"
  | .test _ _ => "test"
  | .stop => "stop"
theorem Row.w0 (r : Row) : (rowVs r)[0]? = some (.str r.word) := by cases r <;> rfl
theorem Row.ren_len (f g : Nat → Nat) (r : Row) : (rowVs (r.ren f g)).length = (rowVs r).length := by cases r <;> rfl
theorem Row.ren_w (f g : Nat → Nat) (r : Row) : (rowVs r).take 1 = (rowVs (r.ren f g)).take 1 := by cases r <;> rfl
theorem Row.ren_ok {f g : Nat → Nat} {W N : Nat} (hf : ∀ x, x < W → f x < W) (hg : ∀ x, x < N → g x < N) : ∀ {r : Row}, r.ok W N → (r.ren f g).ok W N := fun {r} h => by
  cases r <;> simp only [Row.ok, Row.ren] at * <;> first | exact ⟨hf _ h.1, hg _ h.2⟩ | exact ⟨hg _ h.1, hg _ h.2⟩ | exact hg _ h
theorem Row.ren_at {f g : Nat → Nat} {W N : Nat} : ∀ {r : Row} {i : Nat}, r.ok W N → i + 1 < (rowVs r).length → ∃ x : Nat, (rowVs r)[i + 1]? = some (.int (x : Int)) ∧
    ((i == 0 && r.uses) = true → x < W ∧ (rowVs (r.ren f g))[i + 1]? = some (.int (f x : Int))) ∧ ((i == 0 && r.uses) = false → x < N ∧ (rowVs (r.ren f g))[i + 1]? = some (.int (g x : Int))) := by
  intro r i h hi
  have hi3 : i < 2 := by have := Row.vs_len r; omega
  match i, hi3 with
  | 0, _ =>
    cases r <;> first
      | exact ⟨_, rfl, fun _ => ⟨h.1, rfl⟩, fun e => Bool.noConfusion e⟩
      | exact ⟨_, rfl, fun e => Bool.noConfusion e, fun _ => ⟨h, rfl⟩⟩
      | exact ⟨_, rfl, fun e => Bool.noConfusion e, fun _ => ⟨h.1, rfl⟩⟩
      | (exfalso; simp [rowVs] at hi)
  | 1, _ =>
    cases r <;> first
      | exact ⟨_, rfl, fun e => Bool.noConfusion e, fun _ => ⟨h.2, rfl⟩⟩
      | (exfalso; simp [rowVs] at hi)
theorem Row.in4 (r : Row) : inV (.str r.word) [.str "load", .str "add", .str "take", .str "store"] = r.uses := by cases r <;> (dsimp only [Row.word, Row.uses]; decide +kernel)
theorem first_of {l : List Nat} {x : Nat} (h : x ∈ l) : ∃ j, j < l.length ∧ l[j]? = some x ∧ ∀ m, m < j → l[m]? ≠ some x := by
  induction l with
  | nil => cases h
  | cons y l ih =>
    by_cases e : y = x
    · exact ⟨0, by simp, by simp [e], fun m hm => absurd hm (Nat.not_lt_zero _)⟩
    · obtain ⟨j, h1, h2, h3⟩ := ih ((List.mem_cons.mp h).resolve_left fun z => e z.symm)
      refine ⟨j + 1, by simp; omega, by simpa using h2, fun m hm => ?_⟩
      cases m with
      | zero => simpa using e
      | succ m => simpa using h3 m (by omega)
theorem refs_of {F : Addr → Row → Prop} : ∀ {l : List V}, (∀ i, i < l.length → ∃ b r, l[i]? = some (.ref b) ∧ F b r) → ∃ bs rs, l = bs.map V.ref ∧ Paired F bs rs
  | [], _ => ⟨[], [], rfl, .nil⟩
  | x :: l, h => by
    obtain ⟨b, r, h1, h2⟩ := h 0 (by simp)
    obtain ⟨bs, rs, h3, h4⟩ := refs_of (l := l) fun i hi => by
      obtain ⟨b, r, q1, q2⟩ := h (i + 1) (by simp; omega)
      exact ⟨b, r, by simpa using q1, q2⟩
    have e : x = .ref b := by simpa using h1
    exact ⟨b :: bs, r :: rs, by rw [e, h3]; rfl, .cons h2 h4⟩
theorem asg_elim {te : TE} {g : TG} {D : Ends} {σ : L2.St} {H : Hp} (R : V → Hp → Prop) (key : ∀ v H', R v H' → g v σ H' D.nx) (test : ∀ Q' : VK, (∀ v H', R v H' → Q' v H') → te σ H Q') : tAsg te g D σ H := test _ key
theorem ixN_nat {n x : Nat} (h : x < n) : ixN n (x : Int) = some x := by
  unfold ixN
  rw [if_pos (by omega), if_pos (by omega)]
  rfl
structure MixAt (K : Frg) (H0 : Hp) (d sa : Addr) (ns : List Int) (D1 ln lf : Addr) (ks nums ts : List Nat) (W N : Nat) (i : Nat) (H : Hp) : Prop where
  dc : Dc K H0 H d sa ns
  nf : H0 lf = none
  ne1 : D1 ≠ lf
  ne2 : ln ≠ lf
  names : H D1 = some (.lst (ks.map nI))
  numbers : H ln = some (.lst (nums.map nI))
  found : ∃ fs : List V, H lf = some (.lst fs) ∧ fs.length = N ∧ ∀ x, x < N → x ∈ nums.take i → ∃ b r, fs[x]? = some (.ref b) ∧ H b = some (.tup (rowVs r)) ∧ r.ok W N ∧ ∃ j, nums[j]? = some x ∧ isT r = ts.getD j 0
theorem MixAt.same {K : Frg} {H0 H H' : Hp} {d sa : Addr} {ns : List Int} {D1 ln lf : Addr} {ks nums ts : List Nat} {W N i : Nat} (m : MixAt K H0 d sa ns D1 ln lf ks nums ts W N i H) (s : Same1 H H') : MixAt K H0 d sa ns D1 ln lf ks nums ts W N i H' := by
  obtain ⟨fs, h1, h2, h3⟩ := m.found
  refine ⟨m.dc.same s, m.nf, m.ne1, m.ne2, s _ _ m.names, s _ _ m.numbers, fs, s _ _ h1, h2, fun x hx hm => ?_⟩
  obtain ⟨b, r, q1, q2, q3⟩ := h3 x hx hm
  exact ⟨b, r, q1, s _ _ q2, q3⟩
theorem MixAt.put {K : Frg} {H0 H : Hp} {d sa : Addr} {ns : List Int} {D1 ln lf : Addr} {ks nums ts : List Nat} {W N i y : Nat} {t : Addr} {r : Row} {fs : List V} (m : MixAt K H0 d sa ns D1 ln lf ks nums ts W N i H) (hf : H lf = some (.lst fs)) (hy : nums[i]? = some y) (hyN : y < N)
    (ht : H t = some (.tup (rowVs r))) (ho : r.ok W N) (hT : isT r = ts.getD i 0) : MixAt K H0 d sa ns D1 ln lf ks nums ts W N (i + 1) (upd H lf (.lst (fs.set y (.ref t)))) := by
  obtain ⟨fs', h1, h2, h3⟩ := m.found
  rw [hf] at h1
  have e : fs = fs' := by injection (Option.some.inj h1)
  subst e
  have kp : Kp H (upd H lf (.lst (fs.set y (.ref t)))) := Kp.lst hf
  refine ⟨m.dc.mut m.nf, m.nf, m.ne1, m.ne2, by rw [upd_ne m.ne1]; exact m.names, by rw [upd_ne m.ne2]; exact m.numbers, fs.set y (.ref t), upd_same, by rw [List.length_set]; exact h2, fun x hx hm => ?_⟩
  by_cases e : y = x
  · subst e
    exact ⟨t, r, by rw [List.getElem?_set_self (by omega)], kp _ _ ht, ho, i, hy, hT⟩
  · rw [List.getElem?_set_ne e]
    rw [List.take_add_one, hy] at hm
    rcases List.mem_append.mp hm with q | q
    · obtain ⟨b, r, q1, q2, q3⟩ := h3 x hx q
      exact ⟨b, r, q1, kp _ _ q2, q3⟩
    · have q : x = y := by simpa using q
      exact absurd q.symm e
theorem isT_of {r r' : Row} (h : rowVs r = rowVs r') : isT r = isT r' := by
  unfold isT
  rw [h]
theorem isT_ren (f g : Nat → Nat) (r : Row) : isT (r.ren f g) = isT r := by
  unfold isT
  have e : (rowVs (r.ren f g))[0]? = (rowVs r)[0]? := by cases r <;> rfl
  rw [e]
theorem permN_sum {α : Type} {f : α → Nat} {l m : List α} (h : l.Perm m) : (l.map f).sum = (m.map f).sum := by
  induction h with
  | nil => rfl
  | cons x _ ih => rw [List.map_cons, List.map_cons, List.sum_cons, List.sum_cons, ih]
  | swap x y l =>
    rw [List.map_cons, List.map_cons, List.map_cons, List.map_cons, List.sum_cons, List.sum_cons, List.sum_cons, List.sum_cons]
    omega
  | trans _ _ a b => rw [a, b]
theorem tests_range (rs : List Row) : tests rs = ((List.range rs.length).map fun x => isT (rs.getD x .stop)).sum := by
  unfold tests
  congr 1
  refine List.ext_getElem (by simp) fun i h1 h2 => ?_
  rw [List.length_map] at h1
  rw [List.getElem_map, List.getElem_map, List.getElem_range, List.getD_eq_getElem?_getD, List.getElem?_eq_getElem h1]
  rfl
theorem tests_perm {rs rs' : List Row} {nums : List Nat} (hl : rs'.length = rs.length) (hp : nums.Perm (List.range rs.length)) (h : ∀ x, x < rs.length → ∃ j, nums[j]? = some x ∧ isT (rs'.getD x .stop) = (rs.map isT).getD j 0) : tests rs' = tests rs := by
  have nd : nums.Nodup := hp.nodup_iff.mpr List.nodup_range
  rw [tests_range rs', hl, ← permN_sum hp]
  unfold tests
  congr 1
  have nl : nums.length = rs.length := by rw [hp.length_eq, List.length_range]
  refine List.ext_getElem (by rw [List.length_map, List.length_map, nl]) fun i h1 h2 => ?_
  rw [List.length_map] at h1 h2
  rw [List.getElem_map, List.getElem_map]
  have hx : nums[i] < rs.length := List.mem_range.mp (hp.mem_iff.mp (List.getElem_mem h1))
  obtain ⟨j, hj, e⟩ := h nums[i] hx
  obtain ⟨hj1, hj2⟩ := List.getElem?_eq_some_iff.mp hj
  have ij : j = i := (List.getElem_inj nd).mp hj2
  subst ij
  rw [e, List.getD_eq_getElem?_getD, List.getElem?_map, List.getElem?_eq_getElem h2]
  rfl
abbrev sMixed : Stmt := top 56
abbrev pMixed : List Str := ["_law_d", "_law_program"]
abbrev FMixed (K : Frg) (mg : Str → Option Value) := Fd K mg "_law_mixed" sMixed pMixed
def spMixed (K : Frg) : Sp := fun vs H Q _ => ∃ (d sa : Addr) (ns : List Int) (a : Addr) (p : Prog), vs = [.ref d, .ref a] ∧ Ent K H d sa ns ∧ ProgAt H a p ∧ Good p ∧
  ∀ b q H', Dc K H H' d sa ns → ProgAt H' b q → Good q → tests q.rows = tests p.rows → q.rows.length = p.rows.length → Q (.ref b) H'
section
variable {P : Program} {w : World} {K : PySem.W.Frag} {mg : Str → Option Value} {base : Heap}
abbrev nMixed : List Str := ["_law_d", "_law_program", "_law_worths", "_law_rows", "_law_left", "_law_names", "_law_row", "_law_numbers", "_law_found", "_law_number", "_law_told_here", "_law_k", "_law_is_worth", "_law_order", "_law_worth"]
theorem scMixed : FnScope nMixed pMixed (defScope sMixed) := ⟨rfl, rfl, rfl, by decide +kernel, rfl, by decide +kernel, by decide +kernel⟩
theorem ok_mixed (cMixed : FMixed K mg) (cNext : FNext K mg) (T : Bt mg) : FnOk P w K mg base CX0 2 cMixed.f cMixed.fd pMixed (spMixed K) := by
  have GNext : FnOk P w K mg base CX0 1 cNext.f cNext.fd ["_law_dice_here", "_law_many"] (spNext K) := ok_next cNext.F T
  refine cMixed.F.ok scMixed (fun vs H Q E h => ?_) (fun cdv A outer s H vs Q E hr h => ?_)
  · obtain ⟨d, sa, ns, a, p, rfl, _⟩ := h
    rfl
  · obtain ⟨d, sa, ns, a, p, rfl, hE, ⟨wa, ra, bs, ha, hwa, hra, hR⟩, g, kq⟩ := h
    refine ⟨_, (pss_cons (ps_asg (pv 1) (pg_tup rfl (pgs_cons (pg_name (i := 2) scMixed.nd rfl (Or.inr rfl)) (pgs_cons (pg_name (i := 3) scMixed.nd rfl (Or.inl rfl)) pgs_nil))))
      (pss_cons (ps_set (i := 4) scMixed.nd rfl (Or.inr rfl) (pe_listRg rfl (by rfl) T.list (prg_1 (by rfl) T.range (pe_callB call_len_seq (by rfl) T.len PySem.boot_len (pa_cons (pv 2) pa_nil)))))
      (pss_cons (ps_set (i := 5) scMixed.nd rfl (Or.inr rfl) (pe_lc (own := [("_law_worth", 14)]) (g := gName 14) (tt := tYes) rfl scMixed.nd (pi_tup (pv 2)) (blkOk_by (N := nMixed) (sc := defScope sMixed) (by decide +kernel)) (fun _ _ _ _ _ => (pg_name (i := 14) scMixed.nd rfl (Or.inl rfl))) (fun _ _ _ _ _ => pts_nil) (fun _ _ _ _ _ => (pe_bmK K rfl PySem.F.plainAttrs_list PySem.F.slot_list_pop PySem.F.type_list_pop mt_popAt (pv 4) (pa_cons (pe_call GNext (hr.mono (by first | omega | decide)) (by rfl) cNext.m cNext.F.kp cNext.b .nil pass0 (pa_cons (pv 0) (pa_cons (pe_callB (call_lenK K rfl) (by rfl) T.len PySem.boot_len (pa_cons (pv 4) pa_nil)) pa_nil))) pa_nil)))))
      (pss_cons (ps_set (i := 4) scMixed.nd rfl (Or.inr rfl) (pe_listRg rfl (by rfl) T.list (prg_2 (by rfl) T.range pe_int (pe_callB call_len_seq (by rfl) T.len PySem.boot_len (pa_cons (pv 3) pa_nil)))))
      (pss_cons (ps_set (i := 7) scMixed.nd rfl (Or.inl rfl) (pe_op op_cat (pe_lst (pa_cons pe_int pa_nil)) (pe_lc (own := [("_law_row", 6)]) (g := gName 6) (tt := tYes) rfl scMixed.nd (pi_tup (pe_slice sl_tupS (pv 3) (po_some pe_int) po_none)) (blkOk_by (N := nMixed) (sc := defScope sMixed) (by decide +kernel)) (fun _ _ _ _ _ => (pg_name (i := 6) scMixed.nd rfl (Or.inl rfl))) (fun _ _ _ _ _ => pts_nil) (fun _ _ _ _ _ => (pe_bmK K rfl PySem.F.plainAttrs_list PySem.F.slot_list_pop PySem.F.type_list_pop mt_popAt (pv 4) (pa_cons (pe_call GNext (hr.mono (by first | omega | decide)) (by rfl) cNext.m cNext.F.kp cNext.b .nil pass0 (pa_cons (pv 0) (pa_cons (pe_callB (call_lenK K rfl) (by rfl) T.len PySem.boot_len (pa_cons (pv 4) pa_nil)) pa_nil))) pa_nil))))))
      (pss_cons (ps_set (i := 8) scMixed.nd rfl (Or.inl rfl) (pe_op op_rep (pe_lst (pa_cons pe_non pa_nil)) (pe_callB call_len_seq (by rfl) T.len PySem.boot_len (pa_cons (pv 3) pa_nil))))
      (pss_cons (ps_for PassesOwn.never rfl (pi_enumT (by rfl) T.enumerate (pa_cons (pv 3) pa_nil)) (pg_tup rfl (pgs_cons (pg_name (i := 9) scMixed.nd rfl (Or.inl rfl)) (pgs_cons (pg_name (i := 6) scMixed.nd rfl (Or.inl rfl)) pgs_nil)))
          (pss_cons (ps_set (i := 10) scMixed.nd rfl (Or.inl rfl) (pe_slice sl_tupS (pv 6) po_none (po_some pe_int)))
          (pss_cons (ps_for PassesOwn.never rfl (pi_range2 rfl T.range (pa_cons pe_int (pa_cons (pe_callB call_len_seq (by rfl) T.len PySem.boot_len (pa_cons (pv 6) pa_nil)) pa_nil))) (pg_name (i := 11) scMixed.nd rfl (Or.inl rfl))
              (pss_cons (ps_set (i := 12) scMixed.nd rfl (Or.inl rfl) (pe_and (pe_cmpR op_eq (pv 11) pe_int (nomark _)) (pe_one (pe_cmpR op_in_seq (pe_ix ix_tup (pv 6) pe_int (fun _ _ => rfl)) (pe_tup (pa_cons pe_str (pa_cons pe_str (pa_cons pe_str (pa_cons pe_str pa_nil))))) rfl))))
              (pss_one (ps_set (i := 10) scMixed.nd rfl (Or.inl rfl) (pe_op op_catS (pv 10) (pe_tup (pa_cons (pe_ix ix_list (pe_ifExp (pt_val (pv 12)) (pv 5) (pv 7)) (pe_ix ix_tup (pv 6) (pv 11) (fun _ _ => rfl)) (fun _ _ => rfl)) pa_nil)))))))
          (pss_one (ps_asg (pv 10) (pg_sub (pv 8) (pe_ix ix_list (pv 7) (pv 9) (fun _ _ => rfl)) set_list))))))
      (pss_cons (ps_setLc (i := 13) (own := [("_law_worth", 14)]) (g := gName 14) (tt := tYes) rfl scMixed.nd rfl rfl (sw_true rfl rfl rfl (by decide +kernel)) (pi_range1 rfl T.range (pa_cons (pe_callB call_len_seq (by rfl) T.len PySem.boot_len (pa_cons (pv 2) pa_nil)) pa_nil)) (blkOk_by (N := nMixed) (sc := defScope sMixed) (by decide +kernel)) (fun _ _ _ _ _ => (pg_name (i := 14) scMixed.nd rfl (Or.inl rfl))) (fun _ _ _ _ _ => pts_nil) (fun _ _ _ _ _ => (pe_bmK K rfl PySem.F.plainAttrs_list PySem.F.slot_list_index PySem.F.type_list_index (mt_indexK K rfl) (pv 5) (pa_cons (pv 14) pa_nil))))
      (pss_one (ps_ret (pe_tup (pa_cons (pe_callTy call_tuple_of (by rfl) T.tuple (by decide +kernel) (pa_cons (pe_lc (own := [("_law_worth", 14)]) (g := gName 14) (tt := tYes) rfl scMixed.nd (pi_list (pv 13)) (blkOk_by (N := nMixed) (sc := defScope sMixed) (by decide +kernel)) (fun _ _ _ _ _ => (pg_name (i := 14) scMixed.nd rfl (Or.inl rfl))) (fun _ _ _ _ _ => pts_nil) (fun _ _ _ _ _ => (pe_ix (ix_tupK K rfl) (pv 2) (pv 14) (fun _ _ => rfl)))) pa_nil)) (pa_cons (pe_callTy call_tuple_of (by rfl) T.tuple (by decide +kernel) (pa_cons (pv 8) pa_nil)) pa_nil))))))))))))), ?_⟩
    have hK0 := Dc.refl hE
    have hbr := Paired.length hR
    refine ⟨_, rfl, a, _, rfl, SqT.of ha, rfl, .ref wa, _, rfl, .ref ra, _, rfl, rfl, ?_⟩
    have hW8 := g.w8
    have hR40 := g.r40
    have hR1 := g.r1
    refine ⟨_, rfl, wa, _, rfl, .inr (SqT.of hwa), _, rfl, RgOk.of_le (Int.le_refl _) (by rw [List.length_map]; omega) (by omega) (by omega), fun l1 hl1 => ?_⟩
    refine alloc hl1 fun H1 s1 e1 => ?_
    rw [List.length_map, rgV_nI] at e1
    have C1 := hK0.same s1
    refine ⟨_, rfl, wa, rfl, ⟨_, SqT.of (s1 _ _ hwa)⟩, fun D1 hD1 => ?_⟩
    have nDl : D1 ≠ l1 := (ne_of_none e1 hD1).symm
    refine lc_tup (K := K) (a := wa) (xs := p.ws.map V.int) (PopAt K H d sa ns D1 l1 (List.range p.ws.length))
      ⟨[], _, C1.new hD1, C1.here hD1, hl1, nDl, upd_same, by rw [upd_ne nDl.symm]; exact e1, List.Perm.refl _, rfl⟩ (fun i H2 _ ⟨_, _, C, _⟩ => SqT.of (C.kp _ _ hwa)) ?_ ?_
    · rintro i x H2 hi ⟨ks, ls, C2, nD, nl, ne, hD, hl, hp, hk⟩
      have hiW : i < p.ws.length := by
        have q := (List.getElem?_eq_some_iff.mp hi).1
        rwa [List.length_map] at q
      have hle := hp.length_eq
      rw [List.length_append, hk, List.length_range] at hle
      refine ⟨rfl, _, rfl, .inl ⟨rfl, _, SqL.of hl⟩, _, rfl, _, rfl, l1, _, rfl, .inl (SqL.of hl), d, sa, ns, _, rfl, C2.ent, ?_, ?_, fun n H3 n0 n1 C3 => ?_⟩
      · rw [List.length_map]; omega
      · rw [List.length_map]; omega
      · rw [List.length_map] at n1
        obtain ⟨j, hj⟩ : ∃ j : Nat, n = (j : Int) := ⟨n.toNat, by omega⟩
        subst hj
        have hjl : j < ls.length := by omega
        have hl3 := C3.but _ _ (C2.ned nl) hl
        have hD3 := C3.but _ _ (C2.ned nD) hD
        refine ⟨l1, _, _, j, _, rfl, rfl, hl3, by omega, by omega, ?_, nI_get hjl, _, ?_, szl (show (ks.map nI).length < 100000 by rw [List.length_map]; omega), ?_⟩
        · rw [List.length_map, seqIndex_of (by omega) (by omega)]
          rfl
        · rw [upd_ne ne]; exact hD3
        · refine ⟨ks ++ [ls[j]], ls.eraseIdx j, ((C2.trans C3).mut nl).mut nD, nD, nl, ne, ?_, ?_, pop_perm hp (List.getElem?_eq_getElem hjl), by rw [List.length_append, hk]; rfl⟩
          · rw [upd_same, List.map_append]; rfl
          · rw [upd_ne ne.symm, upd_same, map_erase]
    · intro H2 h2
      rw [List.length_map] at h2
      obtain ⟨ks, C2, nD1, hks, hkp⟩ := PopAt.perm (all := List.range p.ws.length) (by rw [List.length_range]; exact h2)
      have hra2 := C2.kp _ _ hra
      refine ⟨_, rfl, ra, _, rfl, .inr (SqT.of hra2), _, _, rfl, rfl, RgOk.of_le (by decide) (by rw [List.length_map]; omega) (by decide) (by omega), fun l2 hl2 => ?_⟩
      refine alloc hl2 fun H3 s3 e3 => ?_
      rw [List.length_map, hbr, rgV_nI1] at e3
      have C3 := C2.same s3
      refine ⟨(by show 1 ≤ sizeLine; decide), fun l0 hl0 => ?_⟩
      refine alloc hl0 fun H4 s4 e4 => ?_
      have C4 := C3.same s4
      refine ⟨_, rfl, _, rfl, ra, _, rfl, C4.kp _ _ hra, fun p2 H5 s5 e5 => ?_⟩
      rw [drop1] at e5
      have C5 := C4.same s5
      refine ⟨p2, rfl, ⟨_, SqT.of e5⟩, fun D2 hD2 => ?_⟩
      have hxl : ((bs.map V.ref).drop 1).length = p.rows.length - 1 := by rw [List.length_drop, List.length_map, hbr]
      have el2 : H5 l2 = some (.lst (((List.range (p.rows.length - 1)).map (· + 1)).map nI)) := (s4.trans s5) _ _ e3
      have el0 : H5 l0 = some (.lst [.int 0]) := s5 _ _ e4
      have hks5 : H5 D1 = some (.lst (ks.map nI)) := ((s3.trans s4).trans s5) _ _ hks
      have nDl2 : D2 ≠ l2 := (ne_of_none el2 hD2).symm
      have nl2 : H l2 = none := C2.here hl2
      have nl0 : H l0 = none := C3.here hl0
      have nDa : D1 ≠ l2 := ne_of_none hks hl2
      have nDb : D1 ≠ D2 := ne_of_none hks5 hD2
      have nl02 : l0 ≠ l2 := (ne_of_none e3 hl0).symm
      have nl0D : l0 ≠ D2 := ne_of_none el0 hD2
      refine lc_tup (K := K) (a := p2) (xs := (bs.map V.ref).drop 1)
        (fun i H6 => PopAt K H d sa ns D2 l2 ((List.range (p.rows.length - 1)).map (· + 1)) i H6 ∧ H6 D1 = some (.lst (ks.map nI)) ∧ H6 l0 = some (.lst [.int 0]) ∧ H6 p2 = some (.tup ((bs.map V.ref).drop 1)))
        ⟨⟨[], _, C5.new hD2, C5.here hD2, nl2, nDl2, upd_same, by rw [upd_ne nDl2.symm]; exact el2, List.Perm.refl _, rfl⟩, by rw [upd_ne nDb]; exact hks5, by rw [upd_ne nl0D]; exact el0,
          by rw [upd_ne (ne_of_none e5 hD2)]; exact e5⟩ (fun i H2 _ ⟨_, _, _, q⟩ => SqT.of q) ?_ ?_
      · rintro i x H2 hi ⟨⟨ks2, ls, C2, nD, nl, ne, hD, hl, hp, hk⟩, g1, g0, g2⟩
        have hiW : i < p.rows.length - 1 := by
          have q := (List.getElem?_eq_some_iff.mp hi).1
          rwa [hxl] at q
        have hle := hp.length_eq
        rw [List.length_append, hk, List.length_map, List.length_range] at hle
        refine ⟨rfl, _, rfl, .inl ⟨rfl, _, SqL.of hl⟩, _, rfl, _, rfl, l2, _, rfl, .inl (SqL.of hl), d, sa, ns, _, rfl, C2.ent, ?_, ?_, fun n H3 n0 n1 C3 => ?_⟩
        · rw [List.length_map]; omega
        · rw [List.length_map]; omega
        · rw [List.length_map] at n1
          obtain ⟨j, hj⟩ : ∃ j : Nat, n = (j : Int) := ⟨n.toNat, by omega⟩
          subst hj
          have hjl : j < ls.length := by omega
          have hl3 := C3.but _ _ (C2.ned nl) hl
          have hD3 := C3.but _ _ (C2.ned nD) hD
          refine ⟨l2, _, _, j, _, rfl, rfl, hl3, by omega, by omega, ?_, nI_get hjl, _, ?_, szl (show (ks2.map nI).length < 100000 by rw [List.length_map]; omega), ?_⟩
          · rw [List.length_map, seqIndex_of (by omega) (by omega)]
            rfl
          · rw [upd_ne ne]; exact hD3
          · refine ⟨⟨ks2 ++ [ls[j]], ls.eraseIdx j, ((C2.trans C3).mut nl).mut nD, nD, nl, ne, ?_, ?_, pop_perm hp (List.getElem?_eq_getElem hjl), by rw [List.length_append, hk]; rfl⟩, ?_, ?_, ?_⟩
            · rw [upd_same, List.map_append]; rfl
            · rw [upd_ne ne.symm, upd_same, map_erase]
            · rw [upd_ne nDb, upd_ne nDa]; exact C3.but _ _ (C2.ned nD1) g1
            · rw [upd_ne nl0D, upd_ne nl02]; exact C3.but _ _ (C2.ned nl0) g0
            · exact ((C3.kp.trans (Kp.lst hl3)).trans (Kp.lst (by rw [upd_ne ne]; exact hD3))) _ _ g2
      · rintro H6 ⟨h6, g1, g0, g2⟩
        rw [hxl] at h6
        obtain ⟨ms, C6, nD2, hms, hmp⟩ := PopAt.perm (all := (List.range (p.rows.length - 1)).map (· + 1)) (by rw [List.length_map, List.length_range]; exact h6)
        have hml := hmp.length_eq
        rw [List.length_map, List.length_range] at hml
        refine ⟨l0, D2, _, _, rfl, rfl, g0, hms, sz (by rw [List.length_map]; show 1 + _ ≤ _; omega), fun ln hln => ?_⟩
        refine alloc hln fun H7 s7 e7 => ?_
        have e7 : H7 ln = some (.lst ((0 :: ms).map nI)) := e7
        have C7 := C6.same s7
        refine ⟨(by show 1 ≤ sizeLine; decide), fun l7 hl7 => ?_⟩
        refine alloc hl7 fun H8 s8 e8 => ?_
        have C8 := C7.same s8
        have hra8 := C8.kp _ _ hra
        refine ⟨_, rfl, ra, _, rfl, .inr (SqT.of hra8), l7, _, _, rfl, rfl, e8, ?_, ?_, ?_, fun lf hlf => ?_⟩
        · rw [List.length_map]; omega
        · rw [List.length_map]; omega
        · refine sz ?_
          show 1 * _ ≤ _
          rw [List.length_map]; omega
        refine alloc hlf fun H9 s9 e9 => ?_
        rw [List.flatten_replicate_singleton, List.length_map, hbr] at e9
        have C9 := C8.same s9
        have n1f : D1 ≠ lf := ne_of_none ((s7.trans s8) _ _ g1) hlf
        have n2f : ln ≠ lf := ne_of_none (s8 _ _ e7) hlf
        have hmem : ∀ x, x ∈ (0 :: ms) ↔ x < p.rows.length := fun x => by
          rw [List.mem_cons, hmp.mem_iff, List.mem_map]
          constructor
          · rintro (q | ⟨y, q1, q2⟩)
            · omega
            · have := List.mem_range.mp q1; omega
          · intro q
            cases x with
            | zero => exact .inl rfl
            | succ x => exact .inr ⟨x, List.mem_range.mpr (by omega), rfl⟩
        have hpm : (0 :: ms).Perm (List.range p.rows.length) := by
          have e : List.range p.rows.length = 0 :: (List.range (p.rows.length - 1)).map (· + 1) := by
            rw [show p.rows.length = (p.rows.length - 1) + 1 by omega, List.range_succ_eq_map]
            rfl
          rw [e]
          exact hmp.cons 0
        have hkm : ∀ x, x ∈ ks ↔ x < p.ws.length := fun x => by rw [hkp.mem_iff, List.mem_range]
        have hnl : (0 :: ms).length = p.rows.length := by show ms.length + 1 = _; omega
        have hkl : ks.length = p.ws.length := by rw [hkp.length_eq, List.length_range]
        have hf : ∀ x, x < p.ws.length → ks.getD x 0 < p.ws.length := fun x hx => by
          rw [List.getD_eq_getElem?_getD, List.getElem?_eq_getElem (by omega)]
          exact (hkm _).mp (List.getElem_mem _)
        have hg : ∀ x, x < p.rows.length → (0 :: ms).getD x 0 < p.rows.length := fun x hx => by
          rw [List.getD_eq_getElem?_getD, List.getElem?_eq_getElem (by omega)]
          exact (hmem _).mp (List.getElem_mem _)
        refine ⟨_, rfl, ra, _, rfl, SqT.of (C9.kp _ _ hra), for_enumT (K := K) (a := ra) (xs := bs.map V.ref)
          (fun i σ H' => ∃ x6 x9 x10 x11 x12 : Option V, σ = [some (.ref d), some (.ref a), some (.ref wa), some (.ref ra), some (.ref l2), some (.ref D1), x6, some (.ref ln), some (.ref lf), x9, x10, x11, x12, none, none] ∧
            MixAt K H d sa ns D1 ln lf ks (0 :: ms) (p.rows.map isT) p.ws.length p.rows.length i H')
          ⟨_, _, _, _, _, rfl, C9, C8.here hlf, n1f, n2f, ((s7.trans s8).trans s9) _ _ g1, (s8.trans s9) _ _ e7, _, e9, List.length_replicate, fun _ _ q => absurd q (by simp)⟩
          (fun i σ H' ⟨_, _, _, _, _, _, m⟩ => SqT.of (m.dc.kp _ _ hra)) ?_ ?_⟩
        · rintro i x T' σ H' hi ⟨x6, x9, x10, x11, x12, rfl, m⟩ hT'
          have hiR : i < p.rows.length := by
            have q := (List.getElem?_eq_some_iff.mp hi).1
            rwa [List.length_map, hbr] at q
          obtain ⟨r, hr1⟩ : ∃ r, p.rows[i]? = some r := ⟨_, List.getElem?_eq_getElem hiR⟩
          obtain ⟨b, hb1, hb2⟩ := Paired.getR hR hr1
          have hrm : r ∈ p.rows := List.mem_of_getElem? hr1
          have hro := g.ok r hrm
          have ex : x = V.ref b := by
            rw [List.getElem?_map, hb1] at hi
            exact (Option.some.inj hi).symm
          subst ex
          refine alloc hT' fun H2 s2 e2 => ?_
          have m2 := m.same s2
          have hb3 := m2.dc.kp _ _ hb2
          refine ⟨T', _, rfl, SqT.of e2, rfl, _, _, rfl, _, _, rfl, rfl, ?_⟩
          refine ⟨_, rfl, _, rfl, b, _, rfl, hb3, fun t H3 s3 e3 => ?_⟩
          have rl := Row.vs_len r
          rw [sl1 rl.1, Row.ren_w (fun x => ks.getD x 0) (fun x => (0 :: ms).getD x 0)] at e3
          have m3 := m2.same s3
          have hb4 := s3 _ _ hb3
          refine ⟨_, rfl, b, _, rfl, .inr (SqT.of hb4), _, _, rfl, ⟨by decide, by decide, by omega, by omega⟩, ?_⟩
          refine for_range (lo := 1) (n := (((rowVs r).length : Int) - 1).toNat) (fun j σ H' => ∃ (x11 x12 : Option V) (t : Addr), σ = [some (.ref d), some (.ref a), some (.ref wa), some (.ref ra), some (.ref l2), some (.ref D1), some (.ref b), some (.ref ln), some (.ref lf), some (.int (i : Int)), some (.ref t), x11, x12, none, none] ∧
            Same1 H3 H' ∧ H' t = some (.tup ((rowVs (r.ren (fun x => ks.getD x 0) (fun x => (0 :: ms).getD x 0))).take (1 + j)))) ⟨_, _, t, rfl, Same.refl _, e3⟩ ?_ ?_
          · rintro j σ H4 hj ⟨x11, x12, t, rfl, S4, ht⟩
            have hj1 : j + 1 < (rowVs r).length := by omega
            obtain ⟨x, hx, hx1, hx2⟩ := Row.ren_at (f := fun x => ks.getD x 0) (g := fun x => (0 :: ms).getD x 0) hro hj1
            have hb5 := S4 _ _ hb4
            have ej : (1 : Int) + (j : Int) = ((j + 1 : Nat) : Int) := by omega
            refine asg_elim (fun v H' => v = .bl (j == 0 && r.uses) ∧ Same1 H4 H') ?_ ?_
            · rintro v H5 ⟨rfl, s5⟩
              have S5 := S4.trans s5
              have m5 := m3.same S5
              have fin : ∀ (y : Nat) (t5 t6 : Addr) (H6 H7 : Hp) (c : Bool), (rowVs (r.ren (fun x => ks.getD x 0) (fun x => (0 :: ms).getD x 0)))[j + 1]? = some (.int (y : Int)) → Same1 H5 H6 → Same1 H6 H7 →
                  H7 t6 = some (.tup ((rowVs (r.ren (fun x => ks.getD x 0) (fun x => (0 :: ms).getD x 0))).take (1 + j) ++ [.int (y : Int)])) →
                  Same1 H3 H7 ∧ H7 t6 = some (.tup ((rowVs (r.ren (fun x => ks.getD x 0) (fun x => (0 :: ms).getD x 0))).take (1 + (j + 1)))) := by
                intro y t5 t6 H6 H7 c q1 q2 q3 q4
                refine ⟨(S5.trans q2).trans q3, q4.trans ?_⟩
                rw [show 1 + (j + 1) = (1 + j) + 1 by omega, List.take_add_one, show 1 + j = j + 1 by omega, q1]
                rfl
              cases hc : (j == 0 && r.uses) with
              | true =>
                obtain ⟨q1, q2⟩ := hx1 hc
                refine ⟨_, rfl, _, rfl, _, rfl, _, rfl, _, rfl, _, rfl, b, _, _, .int (x : Int), rfl, rfl, SqT.of (s5 _ _ hb5), by rw [ej]; exact atI_nat hx, D1, _, _, _, rfl, rfl, SqL.of m5.names, atI_nat (nI_getD (by rw [hkl]; exact q1)), (by show 1 ≤ sizeLine; decide), fun t5 ht5 => ?_⟩
                refine alloc ht5 fun H6 s6 e6 => ?_
                refine ⟨t, t5, _, _, rfl, rfl, (s5.trans s6) _ _ ht, e6, sz (by rw [List.length_take]; show _ + 1 ≤ _; omega), fun t6 H7 s7 e7 => ?_⟩
                exact ⟨_, _, t6, rfl, fin _ t5 t6 H6 H7 true q2 s6 s7 e7⟩
              | false =>
                obtain ⟨q1, q2⟩ := hx2 hc
                refine ⟨_, rfl, _, rfl, _, rfl, _, rfl, _, rfl, _, rfl, b, _, _, .int (x : Int), rfl, rfl, SqT.of (s5 _ _ hb5), by rw [ej]; exact atI_nat hx, ln, _, _, _, rfl, rfl, SqL.of m5.numbers, atI_nat (nI_getD (by rw [hnl]; exact q1)), (by show 1 ≤ sizeLine; decide), fun t5 ht5 => ?_⟩
                refine alloc ht5 fun H6 s6 e6 => ?_
                refine ⟨t, t5, _, _, rfl, rfl, (s5.trans s6) _ _ ht, e6, sz (by rw [List.length_take]; show _ + 1 ≤ _; omega), fun t6 H7 s7 e7 => ?_⟩
                exact ⟨_, _, t6, rfl, fin _ t5 t6 H6 H7 true q2 s6 s7 e7⟩
            · intro Q' hQ
              refine ⟨_, rfl, rfl, _, rfl, ite2 (fun c => ?_) (fun c => ?_)⟩
              · have c := of_decide_eq_true c
                have c : (1 : Int) + (j : Int) = 1 := by injection c
                have j0 : j = 0 := by omega
                subst j0
                refine ⟨_, rfl, b, _, _, _, rfl, rfl, SqT.of hb5, atI_nat (j := 0) (Row.w0 r), (by show 4 ≤ sizeLine; decide), fun t4 ht4 => ?_⟩
                refine alloc ht4 fun H5 s5 e5 => ?_
                refine ⟨t4, _, rfl, .inr (SqT.of e5), rfl, rfl, hQ _ _ ⟨?_, s5⟩⟩
                show V.bl (inV (.str r.word) [.str "load", .str "add", .str "take", .str "store"]) = V.bl (0 == 0 && r.uses)
                rw [Row.in4]
                rfl
              · refine hQ _ _ ⟨?_, Same.refl _⟩
                have hj0 : j ≠ 0 := fun e => by subst e; exact c (decide_eq_true rfl)
                rw [beq_false_of_ne hj0]
                rfl
          · rintro σ H4 ⟨x11, x12, t, rfl, S4, ht⟩
            have m4 := m3.same S4
            rw [List.take_of_length_le (by rw [Row.ren_len]; omega)] at ht
            obtain ⟨fs, hf1, hf2, hf3⟩ := m4.found
            have hy := nI_getD (l := 0 :: ms) (j := i) (by rw [hnl]; exact hiR)
            have hy2 : (0 :: ms)[i]? = some ((0 :: ms).getD i 0) := by
              rw [List.getD_eq_getElem?_getD, List.getElem?_eq_getElem (by rw [hnl]; exact hiR)]
              rfl
            have hyN := hg i hiR
            refine ⟨_, rfl, _, rfl, _, rfl, _, rfl, ln, _, _, _, rfl, rfl, SqL.of m4.numbers, atI_nat hy, lf, fs, _, (0 :: ms).getD i 0, rfl, rfl, hf1, ixN_nat (by rw [hf2]; exact hyN), ?_⟩
            exact ⟨_, _, _, _, _, rfl, m4.put hf1 hy2 hyN ht (Row.ren_ok hf hg hro) (by rw [isT_ren, List.getD_eq_getElem?_getD, List.getElem?_map, hr1]; rfl)⟩
        · rintro σ H' ⟨x6, x9, x10, x11, x12, rfl, m⟩
          rw [List.length_map, hbr] at m
          obtain ⟨fs, hf1, hf2, hf3⟩ := m.found
          obtain ⟨bs', rs', hfs, hF⟩ := refs_of (F := fun b r => H' b = some (.tup (rowVs r)) ∧ r.ok p.ws.length p.rows.length) (l := fs) (fun i hi => by
            obtain ⟨b, r, q1, q2, q3, _⟩ := hf3 i (by omega) (by rw [List.take_of_length_le (by omega)]; exact (hmem i).mpr (by omega))
            exact ⟨b, r, q1, q2, q3⟩)
          have hwa2 := m.dc.kp _ _ hwa
          have hfl : bs'.length = p.rows.length := by rw [← hf2, hfs, List.length_map]
          have hrl : rs'.length = p.rows.length := by rw [← Paired.length hF, hfl]
          have hTT : tests rs' = tests p.rows := by
            refine tests_perm (nums := 0 :: ms) hrl hpm fun x hx => ?_
            obtain ⟨b, r, q1, q2, q3, j, q4, q5⟩ := hf3 x (by omega) (by rw [List.take_of_length_le (by omega)]; exact (hmem x).mpr hx)
            refine ⟨j, q4, ?_⟩
            rw [← q5]
            have hx' : x < rs'.length := by omega
            obtain ⟨b', hb1, hb2⟩ := Paired.getR hF (List.getElem?_eq_getElem hx')
            have eb : b' = b := by
              rw [hfs, List.getElem?_map, hb1] at q1
              exact V.ref.inj (Option.some.inj q1)
            subst eb
            have e2 := hb2.1
            rw [q2] at e2
            rw [List.getD_eq_getElem?_getD, List.getElem?_eq_getElem hx']
            exact (isT_of (HO.tup.inj (Option.some.inj e2))).symm
          refine ⟨_, rfl, wa, _, rfl, .inr (SqT.of hwa2), _, rfl, by rw [List.length_map]; omega, by rw [List.length_map]; omega, fun D3 hD3 => ?_⟩
          have n13 : D1 ≠ D3 := ne_of_none m.names hD3
          have nf3 : lf ≠ D3 := ne_of_none hf1 hD3
          refine lc_range (lo := 0) (n := (((p.ws.map V.int).length : Nat) : Int).toNat) (fun i H2 => ∃ js : List Nat, Dc K H H2 d sa ns ∧ H D3 = none ∧ H2 D3 = some (.lst (js.map nI)) ∧ js.length = i ∧ (∀ x ∈ js, x < p.ws.length) ∧ Kp H' H2 ∧ H2 D1 = some (.lst (ks.map nI)) ∧ H2 lf = some (.lst fs))
            ⟨[], m.dc.new hD3, m.dc.here hD3, upd_same, rfl, fun _ h => absurd h (by simp), Kp.new hD3, by rw [upd_ne n13]; exact m.names, by rw [upd_ne nf3]; exact hf1⟩ ?_ ?_
          · rintro i H2 hi ⟨js, C, nD3, hj, hjl, hjm, k2, g1, g2⟩
            have hiW : i < p.ws.length := by rw [List.length_map] at hi; omega
            obtain ⟨j, j1, j2, j3⟩ := first_of ((hkm i).mpr hiW)
            have e0 : (0 : Int) + (i : Int) = (i : Int) := Int.zero_add _
            rw [e0]
            refine ⟨rfl, _, rfl, .inl ⟨rfl, _, SqL.of g1⟩, _, rfl, D1, _, _, j, .int (i : Int), rfl, rfl, SqL.of g1, rfl, nI_flat ks, ?_, ?_, fun m z hm e => nI_none (j3 m hm) e, _, hj, szl (by rw [List.length_map]; omega), ?_⟩
            · rw [List.getElem?_map, j2]; rfl
            · show ((i : Int) == (i : Int)) = true
              exact beq_self_eq_true _
            · refine ⟨js ++ [j], C.mut nD3, nD3, by rw [upd_same, List.map_append]; rfl, by rw [List.length_append, hjl]; rfl, all_snoc hjm (by omega), k2.trans (Kp.lst hj), by rw [upd_ne n13]; exact g1, by rw [upd_ne nf3]; exact g2⟩
          · rintro H2 ⟨js, C, nD3, hj, hjl, hjm, k2, g1, g2⟩
            rw [List.length_map, Int.toNat_natCast] at hjl
            have hwa3 := k2 _ _ hwa2
            refine ⟨_, rfl, D3, rfl, ⟨_, SqL.of hj⟩, fun D4 hD4 => ?_⟩
            have nf4 : lf ≠ D4 := ne_of_none g2 hD4
            have n34 : D3 ≠ D4 := ne_of_none hj hD4
            refine lc_list (K := K) (a := D3) (xs := js.map nI) (fun i H3 => ∃ us : List Int, Dc K H H3 d sa ns ∧ H D4 = none ∧ H3 D4 = some (.lst (us.map V.int)) ∧ us.length = i ∧ (∀ x ∈ us, x ∈ p.ws) ∧ Kp H2 H3 ∧ H3 D3 = some (.lst (js.map nI)) ∧ H3 lf = some (.lst fs))
              ⟨[], C.new hD4, C.here hD4, upd_same, rfl, fun _ h => absurd h (by simp), Kp.new hD4, by rw [upd_ne n34]; exact hj, by rw [upd_ne nf4]; exact g2⟩ (fun i H3 _ ⟨_, _, _, _, _, _, _, q, _⟩ => SqL.of q) ?_ ?_
            · rintro i x H3 hi ⟨us, C3, nD4, hu, hul, hum, k3, g3, g4⟩
              have hij : i < js.length := by
                have q := (List.getElem?_eq_some_iff.mp hi).1
                rwa [List.length_map] at q
              have ex : x = .int ((js[i] : Nat) : Int) := by
                rw [nI_get hij] at hi
                exact (Option.some.inj hi).symm
              subst ex
              have hjw := hjm _ (List.getElem_mem hij)
              have hat : (p.ws.map V.int)[js[i]]? = some (.int p.ws[js[i]]) := by
                rw [List.getElem?_map, List.getElem?_eq_getElem hjw]
                rfl
              refine ⟨rfl, _, rfl, _, rfl, wa, _, _, _, rfl, rfl, SqT.of (k3 _ _ hwa3), atI_nat hat, _, hu, szl (by rw [List.length_map]; omega), ?_⟩
              exact ⟨us ++ [p.ws[js[i]]], C3.mut nD4, nD4, by rw [upd_same, List.map_append]; rfl, by rw [List.length_append, hul]; rfl, all_snoc hum (List.getElem_mem _), k3.trans (Kp.lst hu), by rw [upd_ne n34]; exact g3, by rw [upd_ne nf4]; exact g4⟩
            · rintro H3 ⟨us, C3, nD4, hu, hul, hum, k3, g3, g4⟩
              rw [List.length_map, hjl] at hul
              refine ⟨D4, _, rfl, .inl ⟨SqL.of hu, fun t1 ht1 => ?_⟩⟩
              refine alloc ht1 fun H4 s4 e4 => ?_
              refine ⟨_, rfl, lf, _, rfl, .inl ⟨SqL.of (s4 _ _ g4), fun t2 ht2 => ?_⟩⟩
              refine alloc ht2 fun H5 s5 e5 => ?_
              refine ⟨(by show 2 ≤ sizeLine; decide), fun t3 ht3 => ?_⟩
              refine alloc ht3 fun H6 s6 e6 => ?_
              have S36 := (s4.trans s5).trans s6
              have kF : Kp H' H6 := (k2.trans k3).trans (Kp.same S36)
              refine kq t3 ⟨us, rs'⟩ H6 (C3.same S36) ⟨t1, t2, bs', e6, (s5.trans s6) _ _ e4, ?_, ?_⟩ ⟨?_, ?_, ?_, ?_, ?_⟩ hTT hrl
              · rw [← hfs]; exact s6 _ _ e5
              · exact Paired.mapP hF fun b r q => kF _ _ q.1
              · show 1 ≤ rs'.length
                omega
              · show rs'.length ≤ 40
                omega
              · show us.length ≤ 8
                omega
              · exact fun x hx => g.num x (hum x hx)
              · intro r hr
                show r.ok us.length rs'.length
                rw [hul, hrl]
                obtain ⟨i, hi⟩ := List.getElem?_of_mem hr
                obtain ⟨b, _, q⟩ := Paired.getR hF hi
                exact q.2
end
end DL
namespace DL
open PySem L2 DLR
def rowD : Row → PyData
  | .load w n => .tuple [.str "load", .int (w : Int), .int (n : Int)]
  | .add w n => .tuple [.str "add", .int (w : Int), .int (n : Int)]
  | .take w n => .tuple [.str "take", .int (w : Int), .int (n : Int)]
  | .store w n => .tuple [.str "store", .int (w : Int), .int (n : Int)]
  | .say n => .tuple [.str "say", .int (n : Int)]
  | .test a b => .tuple [.str "test", .int (a : Int), .int (b : Int)]
  | .stop => .tuple [.str "stop"]
theorem rowD_dp {K : Frg} {H : Hp} {b : Addr} {r : Row} (h : H b = some (.tup (rowVs r))) : Dp K H (.ref b) (rowD r) := by
  cases r <;> exact .tup (SqT.of h) (by first | exact .cons (.str _) (.cons (.int _) (.cons (.int _) .nil)) | exact .cons (.str _) (.cons (.int _) .nil) | exact .cons (.str _) .nil)
theorem rowsD_dp {K : Frg} {H : Hp} : ∀ {bs : List Addr} {rs : List Row}, RowsAt H bs rs → DpAll K H (bs.map V.ref) (rs.map rowD)
  | _, _, .nil => .nil
  | _, _, .cons h t => .cons (rowD_dp h) (rowsD_dp t)
theorem strOk4 : (["load", "add", "take", "store", "say", "test", "stop"] : List Str).all PyData.strOk = true := by decide +kernel
theorem rowD_lay (r : Row) : (rowD r).canLay0 = true := by
  have k : ∀ x ∈ (["load", "add", "take", "store", "say", "test", "stop"] : List Str), PyData.strOk x = true := List.all_eq_true.mp strOk4
  cases r <;> (simp only [rowD, PyData.canLay0, PyData.canLayAll0, Bool.and_true, Bool.and_eq_true]; apply k; simp)
theorem rowsD_lay : ∀ rs : List Row, PyData.canLayAll0 (rs.map rowD) = true
  | [] => rfl
  | r :: rs => by
    show ((rowD r).canLay0 && PyData.canLayAll0 (rs.map rowD)) = true
    rw [rowD_lay, rowsD_lay rs]
    rfl
theorem rowsD_dep : ∀ rs : List Row, PyData.depthAll (rs.map rowD) ≤ 3
  | [] => by decide
  | r :: rs => by
    have h := rowsD_dep rs
    show max (rowD r).depth (PyData.depthAll (rs.map rowD)) ≤ 3
    have : (rowD r).depth ≤ 3 := by cases r <;> simp [rowD, PyData.depth, PyData.depthAll]
    omega
theorem eq_nil {K : Frg} {H : Hp} {l e : Addr} {bs : List Addr} {rs : List Row} {Q : VK} (hl : H l = some (.lst (bs.map V.ref))) (hR : RowsAt H bs rs) (he : H e = some (.lst [])) (q : Q (.bl rs.isEmpty) H) : rEqD K (.ref l) (.ref e) H Q := by
  refine ⟨.list (rs.map rowD), .list [], .lst (SqL.of hl) (rowsD_dp hR), .lst (SqL.of he) .nil, ?_, by decide +kernel, ?_⟩
  · show (PyData.canLayAll0 (rs.map rowD) && decide (PyData.depth (.list (rs.map rowD)) ≤ 64)) = true
    rw [rowsD_lay]
    refine decide_eq_true ?_
    have := rowsD_dep rs
    show _ + _ ≤ 64
    omega
  · have e : PyData.eqv (.list (rs.map rowD)) (.list []) = rs.isEmpty := by cases rs <;> rfl
    rw [e]; exact q
theorem seq_elim {t u : TS} {D : Ends} {σ : L2.St} {H : Hp} (R : L2.St → Hp → Prop) (key : ∀ σ' H', R σ' H' → u D σ' H') (first : ∀ N : L2.St → Hp → Prop, (∀ σ' H', R σ' H' → N σ' H') → t { D with nx := N } σ H) : tSeq t u D σ H := first _ key
def RowsL (K : Frg) (H0 : Hp) (d sa : Addr) (ns : List Int) (t3 : Addr) (ws : List Int) (l : Addr) (z : Nat) (H : Hp) : Prop :=
  ∃ bs rs, Dc K H0 H d sa ns ∧ H t3 = some (.tup (ws.map V.int)) ∧ H l = some (.lst (bs.map V.ref)) ∧ RowsAt H bs rs ∧ rs.length ≤ z ∧ 4 * tests rs ≤ rs.length ∧ ∀ r ∈ rs, r.ok 8 (rs.length + 1)
abbrev sStopping : Stmt := top 57
abbrev pStopping : List Str := ["_law_d", "_law_deep"]
abbrev FStopping (K : Frg) (mg : Str → Option Value) := Fd K mg "_law_stopping" sStopping pStopping
def spStopping (K : Frg) : Sp := fun vs H Q _ => ∃ (d sa : Addr) (ns : List Int) (n : Nat), vs = [.ref d, .int (n : Int)] ∧ n ≤ 2 ∧ Ent K H d sa ns ∧
  ∀ b q H', Dc K H H' d sa ns → ProgAt H' b q → Good q → 4 * tests q.rows ≤ q.rows.length → Q (.ref b) H'
section
variable {P : Program} {w : World} {K : PySem.W.Frag} {mg : Str → Option Value} {base : Heap}
abbrev nStopping : List Str := ["_law_d", "_law_deep", "_law_worths", "_law_rows", "_law_program", "_law_k"]
theorem scStopping : FnScope nStopping pStopping (defScope sStopping) := ⟨rfl, rfl, rfl, by decide +kernel, rfl, by decide +kernel, by decide +kernel⟩
theorem ok_stopping (cStopping : FStopping K mg) (cMixed : FMixed K mg) (cBody : FBody K mg) (cFork : FFork K mg) (cStraight : FStraight K mg) (cNext : FNext K mg) (T : Bt mg) : FnOk P w K mg base CX0 7 cStopping.f cStopping.fd pStopping (spStopping K) := by
  have GNext : FnOk P w K mg base CX0 1 cNext.f cNext.fd ["_law_dice_here", "_law_many"] (spNext K) := ok_next cNext.F T
  have GStraight : FnOk P w K mg base CX0 2 cStraight.f cStraight.fd ["_law_d", "_law_at"] (spStraight K) := ok_straight cStraight cNext T
  have GBody : FnOk P w K mg base CX0 6 cBody.f cBody.fd pBody (spBodyU K) := ok_bodyU cBody cFork cStraight cNext T
  have GMixed : FnOk P w K mg base CX0 2 cMixed.f cMixed.fd pMixed (spMixed K) := ok_mixed cMixed cNext T
  refine cStopping.F.ok scStopping (fun vs H Q E h => ?_) (fun cdv A outer s H vs Q E hr h => ?_)
  · obtain ⟨d, sa, ns, n, rfl, _⟩ := h
    rfl
  · obtain ⟨d, sa, ns, n, rfl, hn, hE, kq⟩ := h
    refine ⟨_, (pss_cons (ps_set (i := 2) scStopping.nd rfl (Or.inl rfl) (pe_tup (pa_cons pe_int (pa_cons (pe_op op_add pe_int (pe_call GNext (hr.mono (by first | omega | decide)) (by rfl) cNext.m cNext.F.kp cNext.b .nil pass0 (pa_cons (pv 0) (pa_cons pe_int pa_nil)))) (pa_cons (pe_op op_add pe_int (pe_call GNext (hr.mono (by first | omega | decide)) (by rfl) cNext.m cNext.F.kp cNext.b .nil pass0 (pa_cons (pv 0) (pa_cons pe_int pa_nil)))) (pa_cons pe_int (pa_cons pe_int pa_nil)))))))
      (pss_cons (ps_set (i := 2) scStopping.nd rfl (Or.inl rfl) (pe_op op_catS (pv 2) (pe_callTy call_tuple_of (by rfl) T.tuple (by decide +kernel) (pa_cons (pe_lc (own := [("_law_k", 5)]) (g := gName 5) (tt := tYes) rfl scStopping.nd (pi_range1 rfl T.range (pa_cons pe_int pa_nil)) (blkOk_by (N := nStopping) (sc := defScope sStopping) (by decide +kernel)) (fun _ _ _ _ _ => (pg_name (i := 5) scStopping.nd rfl (Or.inl rfl))) (fun _ _ _ _ _ => pts_nil) (fun _ _ _ _ _ => (pe_op op_sub (pe_call GNext (hr.mono (by first | omega | decide)) (by rfl) cNext.m cNext.F.kp cNext.b .nil pass0 (pa_cons (pv 0) (pa_cons pe_int pa_nil))) pe_int))) pa_nil))))
      (pss_cons (ps_set (i := 3) scStopping.nd rfl (Or.inl rfl) (pe_call GBody (hr.mono (by first | omega | decide)) (by rfl) cBody.m cBody.F.kp cBody.b .nil pass0 (pa_cons (pv 0) (pa_cons pe_int (pa_cons (pv 1) pa_nil)))))
      (pss_cons (ps_while PassesOwn.never (pt_cmpR op_gt (pe_callB call_len_seq (by rfl) T.len PySem.boot_len (pa_cons (pv 3) pa_nil)) pe_int (nomark _))
          (pss_one (ps_set (i := 3) scStopping.nd rfl (Or.inl rfl) (pe_call GBody (hr.mono (by first | omega | decide)) (by rfl) cBody.m cBody.F.kp cBody.b .nil pass0 (pa_cons (pv 0) (pa_cons pe_int (pa_cons pe_int pa_nil)))))))
      (pss_cons (ps_if (pt_cmpR (op_eqD hr.units) (pv 3) (pe_lst pa_nil) (nomark _))
          (pss_one (ps_set (i := 3) scStopping.nd rfl (Or.inl rfl) (pe_lst (pa_cons (pe_call GStraight (hr.mono (by first | omega | decide)) (by rfl) cStraight.m cStraight.F.kp cStraight.b .nil pass0 (pa_cons (pv 0) (pa_cons pe_int pa_nil))) pa_nil))))
          pss_nil)
      (pss_cons (ps_set (i := 4) scStopping.nd rfl (Or.inl rfl) (pe_tup (pa_cons (pv 2) (pa_cons (pe_op op_catS (pe_callTy call_tuple_of (by rfl) T.tuple (by decide +kernel) (pa_cons (pv 3) pa_nil)) (pe_tup (pa_cons (pe_tup (pa_cons pe_str pa_nil)) pa_nil))) pa_nil))))
      (pss_one (ps_ret (pe_ifExp (pt_cmpR op_eq (pe_call GNext (hr.mono (by first | omega | decide)) (by rfl) cNext.m cNext.F.kp cNext.b .nil pass0 (pa_cons (pv 0) (pa_cons pe_int pa_nil))) pe_int (nomark _)) (pe_call GMixed (hr.mono (by first | omega | decide)) (by rfl) cMixed.m cMixed.F.kp cMixed.b .nil pass0 (pa_cons (pv 0) (pa_cons (pv 4) pa_nil))) (pv 4)))))))))), ?_⟩
    refine ⟨_, rfl, d, sa, ns, _, rfl, hE, by decide, by decide, fun n5 H1 a0 a1 C1 => ?_⟩
    refine ⟨_, _, rfl, rfl, _, rfl, d, sa, ns, _, rfl, C1.ent, by decide, by decide, fun n4 H2 b0 b1 C2 => ?_⟩
    refine ⟨_, _, rfl, rfl, (by show 5 ≤ sizeLine; decide), fun t1 ht1 => ?_⟩
    refine alloc ht1 fun H3 s3 e3 => ?_
    have C3 := (C1.trans C2).same s3
    refine ⟨_, rfl, _, rfl, by decide, by decide, fun D hD => ?_⟩
    refine lc_range (lo := 0) (n := 3) (fun i H4 => ∃ us : List Int, Dc K H H4 d sa ns ∧ H D = none ∧ H4 D = some (.lst (us.map V.int)) ∧ us.length = i ∧ (∀ x ∈ us, -3 ≤ x ∧ x ≤ 3) ∧ Kp H3 H4)
      ⟨[], C3.new hD, C3.here hD, upd_same, rfl, fun _ h => absurd h (by simp), Kp.new hD⟩ ?_ ?_
    · rintro i H4 hi ⟨us, C4, nD, hu, hul, hum, k4⟩
      refine ⟨rfl, _, rfl, d, sa, ns, _, rfl, C4.ent, by decide, by decide, fun m H5 m0 m1 C5 => ?_⟩
      have hu5 := C5.but _ _ (C4.ned nD) hu
      refine ⟨_, _, rfl, rfl, _, hu5, szl (by rw [List.length_map]; omega), us ++ [m - 3], (C4.trans C5).mut nD, nD, by rw [upd_same, List.map_append]; rfl, by rw [List.length_append, hul]; rfl, all_snoc hum (by omega), (k4.trans C5.kp).trans (Kp.lst hu5)⟩
    · rintro H4 ⟨us, C4, nD, hu, hul, hum, k4⟩
      refine ⟨D, _, rfl, .inl ⟨SqL.of hu, fun t2 ht2 => ?_⟩⟩
      refine alloc ht2 fun H5 s5 e5 => ?_
      refine ⟨t1, t2, _, _, rfl, rfl, s5 _ _ (k4 _ _ e3), e5, sz (by rw [List.length_map]; show 5 + _ ≤ _; omega), fun t3 H6 s6 e6 => ?_⟩
      have e6 : H6 t3 = some (.tup (([1, 1 + n5, 1 + n4, 0, 0] ++ us).map V.int)) := by rw [e6, List.map_append]; rfl
      have hwl : ([1, 1 + n5, 1 + n4, 0, 0] ++ us).length = 8 := by simp [hul]
      have hwm : ∀ x ∈ ([1, 1 + n5, 1 + n4, 0, 0] ++ us), -1000000 ≤ x ∧ x ≤ 1000000 := by
        intro x hx
        rcases List.mem_append.mp hx with q | q
        · simp only [List.mem_cons, List.not_mem_nil, or_false] at q
          omega
        · have := hum x q; omega
      revert e6 hwl hwm
      generalize ([1, 1 + n5, 1 + n4, 0, 0] ++ us) = ws
      intro e6 hwl hwm
      have C6 := (C4.same s5).same s6
      have hP := PB_le hn
      refine ⟨_, rfl, _, rfl, n, hn, d, sa, ns, 0, rfl, hn, C6.ent, fun l bs rs H7 C7 nl hl hR hz hT ho => ?_⟩
      have w0 : RowsL K H d sa ns t3 ws l 300 H7 := ⟨bs, rs, C6.trans C7, C7.kp _ _ e6, hl, hR, by omega, hT, fun r hr => (ho r hr).mono (by omega)⟩
      refine ⟨fun m σ H' => ∃ l, σ = [some (.ref d), some (.int (n : Int)), some (.ref t3), some (.ref l), none, none] ∧ RowsL K H d sa ns t3 ws l (39 + m * 300) H', ⟨1, l, rfl, ?_⟩, ?_⟩
      · obtain ⟨bs, rs, q1, q2, q3, q4, q5, q6⟩ := w0
        exact ⟨bs, rs, q1, q2, q3, q4, by omega, q6⟩
      rintro m σ H8 ⟨l, rfl, bs, rs, C8, ht3, hl, hR, hz, hT, ho⟩
      have hbr := Paired.length hR
      refine ⟨_, rfl, l, _, rfl, .inl (SqL.of hl), _, _, rfl, rfl, _, rfl, ite2 (fun c => ?_) (fun c => ?_)⟩
      · have c : (39 : Int) < (((bs.map V.ref).length : Nat) : Int) := of_decide_eq_true c
        rw [List.length_map, hbr] at c
        refine ⟨_, fun σ' H' q => q, _, rfl, 0, by decide, d, sa, ns, 0, rfl, by decide, C8.ent, fun l2 bs2 rs2 H9 C9 nl2 hl2 hR2 hz2 hT2 ho2 => ?_⟩
        refine ⟨0, ?_, l2, rfl, bs2, rs2, C8.trans C9, C9.kp _ _ ht3, hl2, hR2, ?_, hT2, fun r hr => (ho2 r hr).mono (by omega)⟩
        · cases m with
          | zero => omega
          | succ m => exact Nat.succ_pos m
        · have z : rs2.length ≤ 3 * 6 := hz2
          omega
      · have c : ¬ (39 : Int) < (((bs.map V.ref).length : Nat) : Int) := fun q => c (decide_eq_true q)
        rw [List.length_map, hbr] at c
        dsimp only
        refine seq_elim (fun σ' H' => ∃ l bs rs, σ' = [some (.ref d), some (.int (n : Int)), some (.ref t3), some (.ref l), none, none] ∧ Dc K H H' d sa ns ∧ H' t3 = some (.tup (ws.map V.int)) ∧ H' l = some (.lst (bs.map V.ref)) ∧ RowsAt H' bs rs ∧ 1 ≤ rs.length ∧ rs.length ≤ 39 ∧ 4 * tests rs ≤ rs.length ∧ ∀ r ∈ rs, r.ok 8 (rs.length + 1)) ?_ ?_
        · rintro σ' H9 ⟨l, bs, rs, rfl, C9, ht3, hl, hR, h1, h39, hT, ho⟩
          have hbr := Paired.length hR
          refine ⟨_, rfl, _, rfl, l, _, rfl, .inl ⟨SqL.of hl, fun t4 ht4 => ?_⟩⟩
          refine alloc ht4 fun H10 s10 e10 => ?_
          refine ⟨(by show 1 ≤ sizeLine; decide), fun t5 ht5 => ?_⟩
          refine alloc ht5 fun H11 s11 e11 => ?_
          refine ⟨(by show 1 ≤ sizeLine; decide), fun t6 ht6 => ?_⟩
          refine alloc ht6 fun H12 s12 e12 => ?_
          refine ⟨t4, t6, _, _, rfl, rfl, (s11.trans s12) _ _ e10, e12, sz (by rw [List.length_map]; show _ + 1 ≤ _; omega), fun t7 H13 s13 e13 => ?_⟩
          refine ⟨(by show 2 ≤ sizeLine; decide), fun t8 ht8 => ?_⟩
          refine alloc ht8 fun H14 s14 e14 => ?_
          have S914 := ((((s10.trans s11).trans s12).trans s13).trans s14)
          have C14 := C9.same S914
          have hP : ProgAt H14 t8 ⟨ws, rs ++ [.stop]⟩ := by
            refine ⟨t3, t7, bs ++ [t5], e14, S914 _ _ ht3, ?_, ?_⟩
            · rw [s14 _ _ e13, List.map_append]; rfl
            · exact Paired.app (hR.kp (Kp.same S914)) (Paired.one (((s12.trans s13).trans s14) _ _ e11))
          have hG : Good ⟨ws, rs ++ [.stop]⟩ := by
            refine ⟨?_, ?_, ?_, hwm, ?_⟩
            · show 1 ≤ (rs ++ [Row.stop]).length
              rw [List.length_append]; exact Nat.le_add_left 1 _
            · show (rs ++ [Row.stop]).length ≤ 40
              rw [List.length_append]; show _ + 1 ≤ 40; omega
            · show ws.length ≤ 8
              omega
            · intro r hr
              show r.ok ws.length (rs ++ [Row.stop]).length
              rw [hwl, List.length_append]
              rcases List.mem_append.mp hr with q | q
              · exact ho r q
              · rw [List.mem_singleton.mp q]; trivial
          have hTs : 4 * tests (rs ++ [Row.stop]) ≤ (rs ++ [Row.stop]).length := by
            rw [tests_app, tests_one, isT_stop, List.length_append]
            omega
          refine ⟨_, rfl, d, sa, ns, _, rfl, C14.ent, by decide, by decide, fun n2 H15 m0 m1 C15 => ?_⟩
          refine ⟨rfl, _, rfl, ite2 (fun _ => ?_) (fun _ => ?_)⟩
          · exact ⟨_, rfl, _, rfl, d, sa, ns, t8, _, rfl, C15.ent, hP.kp C15.kp, hG, fun b q H16 C16 hp hg hT1 hT2 => kq b q H16 ((C14.trans C15).trans C16) hp hg (by rw [hT1, hT2]; exact hTs)⟩
          · exact ⟨_, rfl, kq t8 _ H15 (C14.trans C15) (hP.kp C15.kp) hG hTs⟩
        · intro N hN
          refine ⟨_, rfl, Nat.zero_le _, fun e he => ?_⟩
          refine alloc he fun H9 s9 e9 => ?_
          have C9 := C8.same s9
          refine eq_nil (s9 _ _ hl) (hR.kp (Kp.same s9)) e9 ⟨_, rfl, ?_⟩
          cases rs with
          | nil =>
            refine ⟨_, rfl, d, sa, ns, 0, rfl, C9.ent, fun t r H10 C10 ht hp ho2 => ?_⟩
            refine ⟨(by show 1 ≤ sizeLine; decide), fun l9 hl9 => hN _ _ ?_⟩
            exact ⟨l9, [t], [r], rfl, (C9.trans C10).new hl9, (C10.kp.trans (Kp.new hl9)) _ _ (s9 _ _ ht3), upd_same, Paired.one (Kp.new hl9 _ _ ht), Nat.le_refl _, (by show 1 ≤ 39; decide), (by rw [tests_one, isT_plain hp]; exact Nat.zero_le _), fun y hy => by rw [List.mem_singleton.mp hy]; exact ho2⟩
          | cons r rs =>
            exact hN _ _ ⟨l, bs, r :: rs, rfl, C9, s9 _ _ ht3, s9 _ _ hl, hR.kp (Kp.same s9), by simp, by omega, hT, ho⟩
end
end DL
namespace DL
open PySem L2 DLR
theorem word5 {a : Nat} {j : Nat} (hj : j < 5) : ∃ wd : Str, ([V.str "load", V.str "add", V.str "take", V.str "store", V.str "add"] : List V)[j]? = some (.str wd) ∧ ∀ x y : Nat, ∃ r : Row, rowVs r = [.str wd, .int (x : Int), .int (y : Int)] ∧ ∀ W N, x < W → y < N → r.ok W N := by
  match j, hj with
  | 0, _ => exact ⟨_, rfl, fun x y => ⟨.load x y, rfl, fun _ _ p q => ⟨p, q⟩⟩⟩
  | 1, _ => exact ⟨_, rfl, fun x y => ⟨.add x y, rfl, fun _ _ p q => ⟨p, q⟩⟩⟩
  | 2, _ => exact ⟨_, rfl, fun x y => ⟨.take x y, rfl, fun _ _ p q => ⟨p, q⟩⟩⟩
  | 3, _ => exact ⟨_, rfl, fun x y => ⟨.store x y, rfl, fun _ _ p q => ⟨p, q⟩⟩⟩
  | 4, _ => exact ⟨_, rfl, fun x y => ⟨.add x y, rfl, fun _ _ p q => ⟨p, q⟩⟩⟩
def AnyAt (K : Frg) (H0 : Hp) (d sa : Addr) (ns : List Int) (wt : Addr) (us : List Int) (l : Addr) (N : Nat) (i : Nat) (H : Hp) : Prop :=
  ∃ bs rs, Dc K H0 H d sa ns ∧ H0 l = none ∧ H wt = some (.tup (us.map V.int)) ∧ H l = some (.lst (bs.map V.ref)) ∧ RowsAt H bs rs ∧ rs.length = i ∧ ∀ r ∈ rs, r.ok us.length N
theorem AnyAt.put {K : Frg} {H0 H : Hp} {d sa : Addr} {ns : List Int} {wt : Addr} {us : List Int} {l : Addr} {N : Nat} {i : Nat} {bs : List Addr} {rs : List Row} {t : Addr} {r : Row} (C : Dc K H0 H d sa ns) (n0 : H0 l = none) (hw : H wt = some (.tup (us.map V.int)))
    (hl : H l = some (.lst (bs.map V.ref))) (hR : RowsAt H bs rs) (hi : rs.length = i) (ho : ∀ r ∈ rs, r.ok us.length N) (ht : H t = some (.tup (rowVs r))) (hr : r.ok us.length N) : AnyAt K H0 d sa ns wt us l N (i + 1) (upd H l (.lst (bs.map V.ref ++ [.ref t]))) := by
  have k : Kp H (upd H l (.lst (bs.map V.ref ++ [.ref t]))) := Kp.lst hl
  exact ⟨bs ++ [t], rs ++ [r], C.mut n0, n0, k _ _ hw, by rw [upd_same, List.map_append]; rfl, RowsAt.kp (Paired.app hR (Paired.one ht)) k, by rw [List.length_append, hi]; rfl, all_snoc ho hr⟩
abbrev sAny : Stmt := top 58
abbrev FAny (K : Frg) (mg : Str → Option Value) := Fd K mg "_law_any" sAny ["_law_d"]
def spAny (K : Frg) : Sp := fun vs H Q _ => ∃ (d sa : Addr) (ns : List Int), vs = [.ref d] ∧ Ent K H d sa ns ∧
  ∀ b q H', Dc K H H' d sa ns → ProgAt H' b q → Good q → Q (.ref b) H'
section
variable {P : Program} {w : World} {K : PySem.W.Frag} {mg : Str → Option Value} {base : Heap}
abbrev nAny : List Str := ["_law_d", "_law_many", "_law_rows", "_law_worths", "_law_size", "_law_number", "_law_near", "_law_way", "_law_k"]
theorem scAny : FnScope nAny ["_law_d"] (defScope sAny) := ⟨rfl, rfl, rfl, by decide +kernel, rfl, by decide +kernel, by decide +kernel⟩
theorem ok_any (cAny : FAny K mg) (cStopping : FStopping K mg) (cMixed : FMixed K mg) (cBody : FBody K mg) (cFork : FFork K mg) (cStraight : FStraight K mg) (cNext : FNext K mg) (T : Bt mg) : FnOk P w K mg base CX0 8 cAny.f cAny.fd ["_law_d"] (spAny K) := by
  have GNext : FnOk P w K mg base CX0 1 cNext.f cNext.fd ["_law_dice_here", "_law_many"] (spNext K) := ok_next cNext.F T
  have GStopping : FnOk P w K mg base CX0 7 cStopping.f cStopping.fd pStopping (spStopping K) := ok_stopping cStopping cMixed cBody cFork cStraight cNext T
  refine cAny.F.ok scAny (fun vs H Q E h => ?_) (fun cdv A outer s H vs Q E hr h => ?_)
  · obtain ⟨d, sa, ns, rfl, _⟩ := h
    rfl
  · obtain ⟨d, sa, ns, rfl, hE, kq⟩ := h
    refine ⟨_, (pss_cons (ps_if (pt_cmpR op_gt (pe_call GNext (hr.mono (by first | omega | decide)) (by rfl) cNext.m cNext.F.kp cNext.b .nil pass0 (pa_cons (pv 0) (pa_cons pe_int pa_nil))) pe_int (nomark _))
          (pss_one (ps_ret (pe_call GStopping (hr.mono (by first | omega | decide)) (by rfl) cStopping.m cStopping.F.kp cStopping.b .nil pass0 (pa_cons (pv 0) (pa_cons (pe_call GNext (hr.mono (by first | omega | decide)) (by rfl) cNext.m cNext.F.kp cNext.b .nil pass0 (pa_cons (pv 0) (pa_cons pe_int pa_nil))) pa_nil)))))
          pss_nil)
      (pss_cons (ps_par (i := 1) (j := 2) (by rfl) scAny.nd rfl rfl (by decide) rfl rfl (pa_cons (pe_call GNext (hr.mono (by first | omega | decide)) (by rfl) cNext.m cNext.F.kp cNext.b .nil pass0 (pa_cons (pv 0) (pa_cons pe_int pa_nil))) (pa_cons (pe_lst pa_nil) pa_nil)) (by rfl))
      (pss_cons (ps_set (i := 3) scAny.nd rfl (Or.inl rfl) (pe_callTy call_tuple_of (by rfl) T.tuple (by decide +kernel) (pa_cons (pe_lc (own := [("_law_k", 8)]) (g := gName 8) (tt := tYes) rfl scAny.nd (pi_range1 rfl T.range (pa_cons (pv 1) pa_nil)) (blkOk_by (N := nAny) (sc := defScope sAny) (by decide +kernel)) (fun _ _ _ _ _ => (pg_name (i := 8) scAny.nd rfl (Or.inl rfl))) (fun _ _ _ _ _ => pts_nil) (fun _ _ _ _ _ => (pe_ix (ix_listK K rfl) (pe_lst (pa_cons (pe_op op_sub (pe_call GNext (hr.mono (by first | omega | decide)) (by rfl) cNext.m cNext.F.kp cNext.b .nil pass0 (pa_cons (pv 0) (pa_cons pe_int pa_nil))) pe_int) (pa_cons (pe_op op_sub (pe_call GNext (hr.mono (by first | omega | decide)) (by rfl) cNext.m cNext.F.kp cNext.b .nil pass0 (pa_cons (pv 0) (pa_cons pe_int pa_nil))) (pe_op op_pow pe_int pe_int)) pa_nil))) (pe_call GNext (hr.mono (by first | omega | decide)) (by rfl) cNext.m cNext.F.kp cNext.b .nil pass0 (pa_cons (pv 0) (pa_cons pe_int pa_nil))) (fun _ _ => rfl)))) pa_nil)))
      (pss_cons (ps_set (i := 4) scAny.nd rfl (Or.inl rfl) (pe_op op_add pe_int (pe_call GNext (hr.mono (by first | omega | decide)) (by rfl) cNext.m cNext.F.kp cNext.b .nil pass0 (pa_cons (pv 0) (pa_cons (pe_ix ix_list (pe_lst (pa_cons pe_int (pa_cons pe_int (pa_cons pe_int pa_nil)))) (pe_call GNext (hr.mono (by first | omega | decide)) (by rfl) cNext.m cNext.F.kp cNext.b .nil pass0 (pa_cons (pv 0) (pa_cons pe_int pa_nil))) (fun _ _ => rfl)) pa_nil)))))
      (pss_cons (ps_for PassesOwn.never rfl (pi_range1 rfl T.range (pa_cons (pv 4) pa_nil)) (pg_name (i := 5) scAny.nd rfl (Or.inl rfl))
          (pss_cons (ps_set (i := 6) scAny.nd rfl (Or.inl rfl) (pe_ix ix_list (pe_lst (pa_cons (pe_op op_mod (pe_op op_add (pv 5) pe_int) (pv 4)) (pa_cons (pe_call GNext (hr.mono (by first | omega | decide)) (by rfl) cNext.m cNext.F.kp cNext.b .nil pass0 (pa_cons (pv 0) (pa_cons (pv 4) pa_nil))) pa_nil))) (pe_callTy call_int1 (by rfl) T.int (by decide +kernel) (pa_cons (pe_cmpR op_eq (pe_call GNext (hr.mono (by first | omega | decide)) (by rfl) cNext.m cNext.F.kp cNext.b .nil pass0 (pa_cons (pv 0) (pa_cons pe_int pa_nil))) pe_int (nomark _)) pa_nil)) (fun _ _ => rfl)))
          (pss_cons (ps_set (i := 7) scAny.nd rfl (Or.inl rfl) (pe_call GNext (hr.mono (by first | omega | decide)) (by rfl) cNext.m cNext.F.kp cNext.b .nil pass0 (pa_cons (pv 0) (pa_cons pe_int pa_nil))))
          (pss_one (ps_if (PW.pt (pw_and (pt_cmpR op_lt (pv 7) pe_int (nomark _)) (pw_and1 (pt_cmpR op_gt (pv 1) pe_int (nomark _)))))
              (pss_one (ps_expr (pe_bm PySem.F.plainAttrs_list PySem.F.slot_list_append PySem.F.type_list_append mt_append (pv 2) (pa_cons (pe_tup (pa_cons (pe_ix ix_list (pe_lst (pa_cons pe_str (pa_cons pe_str (pa_cons pe_str (pa_cons pe_str (pa_cons pe_str pa_nil)))))) (pv 7) (fun _ _ => rfl)) (pa_cons (pe_call GNext (hr.mono (by first | omega | decide)) (by rfl) cNext.m cNext.F.kp cNext.b .nil pass0 (pa_cons (pv 0) (pa_cons (pv 1) pa_nil))) (pa_cons (pv 6) pa_nil)))) pa_nil))))
              (pss_one (ps_expr (pe_bm PySem.F.plainAttrs_list PySem.F.slot_list_append PySem.F.type_list_append mt_append (pv 2) (pa_cons (pe_ix ix_list (pe_lst (pa_cons (pe_tup (pa_cons pe_str (pa_cons (pv 6) pa_nil))) (pa_cons (pe_tup (pa_cons pe_str (pa_cons (pe_call GNext (hr.mono (by first | omega | decide)) (by rfl) cNext.m cNext.F.kp cNext.b .nil pass0 (pa_cons (pv 0) (pa_cons (pv 4) pa_nil))) (pa_cons (pv 6) pa_nil)))) (pa_cons (pe_tup (pa_cons pe_str pa_nil)) pa_nil)))) (pe_op op_mod (pv 7) pe_int) (fun _ _ => rfl)) pa_nil)))))))))
      (pss_one (ps_ret (pe_tup (pa_cons (pv 3) (pa_cons (pe_callTy call_tuple_of (by rfl) T.tuple (by decide +kernel) (pa_cons (pv 2) pa_nil)) pa_nil)))))))))), ?_⟩
    refine ⟨_, rfl, d, sa, ns, _, rfl, hE, by decide, by decide, fun n0 H1 a0 a1 C1 => ?_⟩
    refine ⟨_, _, rfl, rfl, _, rfl, ite2 (fun _ => ?_) (fun _ => ?_)⟩
    · refine ⟨_, rfl, _, rfl, d, sa, ns, _, rfl, C1.ent, by decide, by decide, fun n1 H2 b0 b1 C2 => ?_⟩
      refine ⟨d, sa, ns, n1.toNat, ?_, by omega, C2.ent, fun b q H3 C3 hp hg _ => kq b q H3 ((C1.trans C2).trans C3) hp hg⟩
      show [V.ref d, V.int n1] = _
      rw [Int.toNat_of_nonneg b0]
    refine ⟨_, rfl, d, sa, ns, _, rfl, C1.ent, by decide, by decide, fun many H2 b0 b1 C2 => ?_⟩
    obtain ⟨mn, rfl⟩ : ∃ mn : Nat, many = (mn : Int) := ⟨many.toNat, by omega⟩
    refine ⟨Nat.zero_le _, fun l hl => ?_⟩
    refine alloc hl fun H3 s3 e3 => ?_
    have C3 := (C1.trans C2).same s3
    have nl : H l = none := (C1.trans C2).here hl
    refine ⟨_, _, rfl, ?_⟩
    refine ⟨_, rfl, _, rfl, by omega, by omega, fun D hD => ?_⟩
    have nlD : l ≠ D := ne_of_none e3 hD
    refine lc_range (lo := 0) (n := (mn : Int).toNat) (fun i H4 => ∃ us : List Int, Dc K H H4 d sa ns ∧ H D = none ∧ H4 D = some (.lst (us.map V.int)) ∧ us.length = i ∧ (∀ x ∈ us, -1000000 ≤ x ∧ x ≤ 1000000) ∧ H4 l = some (.lst []))
      ⟨[], C3.new hD, C3.here hD, upd_same, rfl, fun _ h => absurd h (by simp), by rw [upd_ne nlD]; exact e3⟩ ?_ ?_
    · rintro i H4 hi ⟨us, C4, nD, hu, hul, hum, hl4⟩
      refine ⟨rfl, _, rfl, d, sa, ns, _, rfl, C4.ent, by decide, by decide, fun m1 H5 m10 m11 C5 => ?_⟩
      refine ⟨_, _, rfl, rfl, _, rfl, d, sa, ns, _, rfl, C5.ent, by decide, by decide, fun m2 H6 m20 m21 C6 => ?_⟩
      refine ⟨_, _, rfl, rfl, ⟨by decide, by decide, by decide⟩, _, _, rfl, rfl, (by show 2 ≤ sizeLine; decide), fun lx hlx => ?_⟩
      refine alloc hlx fun H7 s7 e7 => ?_
      have C7 := (C5.trans C6).same s7
      refine ⟨_, rfl, d, sa, ns, _, rfl, C7.ent, by decide, by decide, fun m3 H8 m30 m31 C8 => ?_⟩
      have C48 := C7.trans C8
      have hu8 := C48.but _ _ (C4.ned nD) hu
      have hl8 := C48.but _ _ (C4.ned nl) hl4
      have hx8 := C8.but _ _ (((C4.trans C5).trans C6).ned (((C4.trans C5).trans C6).here hlx)) e7
      have e6 : ((10 : Int) ^ (6 : Int).toNat) = 1000000 := by decide
      obtain ⟨z, hz, hz1, hz2⟩ : ∃ z : Int, atI ([V.int (m1 - 4), V.int (m2 - (10 : Int) ^ (6 : Int).toNat)] : List V) m3 = some (.int z) ∧ -1000000 ≤ z ∧ z ≤ 1000000 := by
        rcases (show m3 = 0 ∨ m3 = 1 by omega) with q | q
        · exact ⟨m1 - 4, by rw [q]; exact at0, by omega, by omega⟩
        · exact ⟨m2 - 1000000, by rw [q, e6]; exact at1, by omega, by omega⟩
      refine ⟨lx, _, _, _, rfl, rfl, SqL.of hx8, hz, _, hu8, szl (by rw [List.length_map]; omega), us ++ [z], (C4.trans C48).mut nD, nD, by rw [upd_same, List.map_append]; rfl, by rw [List.length_append, hul]; rfl, all_snoc hum ⟨hz1, hz2⟩, by rw [upd_ne nlD]; exact hl8⟩
    · rintro H4 ⟨us, C4, nD, hu, hul, hum, hl4⟩
      rw [Int.toNat_natCast] at hul
      refine ⟨D, _, rfl, .inl ⟨SqL.of hu, fun wt hwt => ?_⟩⟩
      refine alloc hwt fun H5 s5 e5 => ?_
      have C5 := C4.same s5
      refine ⟨_, rfl, (by show 3 ≤ sizeLine; decide), fun ly hly => ?_⟩
      refine alloc hly fun H6 s6 e6 => ?_
      have C6 := C5.same s6
      refine ⟨_, rfl, d, sa, ns, _, rfl, C6.ent, by decide, by decide, fun m3 H7 m30 m31 C7 => ?_⟩
      have C67 := C6.trans C7
      obtain ⟨z, hz, hz1, hz2⟩ : ∃ z : Int, atI ([V.int 6, V.int 12, V.int 40] : List V) m3 = some (.int z) ∧ 0 < z ∧ z ≤ 40 := by
        rcases (show m3 = 0 ∨ m3 = 1 ∨ m3 = 2 by omega) with q | q | q
        · exact ⟨6, by rw [q]; exact at0, by decide, by decide⟩
        · exact ⟨12, by rw [q]; exact at1, by decide, by decide⟩
        · exact ⟨40, by rw [q]; exact at2, by decide, by decide⟩
      refine ⟨ly, _, _, _, rfl, rfl, SqL.of (C7.but _ _ (C5.ned (C5.here hly)) e6), hz, d, sa, ns, _, rfl, C67.ent, hz1, by omega, fun m4 H8 m40 m41 C8 => ?_⟩
      refine ⟨_, _, rfl, rfl, ?_⟩
      have C8' := C67.trans C8
      obtain ⟨N, hN⟩ : ∃ N : Nat, 1 + m4 = (N : Int) := ⟨(1 + m4).toNat, by omega⟩
      have hN1 : 1 ≤ N := by omega
      have hN40 : N ≤ 40 := by omega
      refine ⟨_, rfl, 1 + m4, rfl, by omega, by omega, ?_⟩
      refine for_range (lo := 0) (n := (1 + m4).toNat) (fun i σ H' => ∃ x5 x6 x7 : Option V, σ = [some (.ref d), some (.int (mn : Int)), some (.ref l), some (.ref wt), some (.int (N : Int)), x5, x6, x7, none] ∧ AnyAt K H d sa ns wt us l N i H')
        ⟨none, none, none, by rw [← hN]; rfl, [], [], C8', nl, (C7.kp.trans C8.kp) _ _ (s6 _ _ e5), (C7.trans C8).but _ _ (C6.ned nl) ((s5.trans s6) _ _ hl4), .nil, rfl, fun _ h => absurd h (by simp)⟩ ?_ ?_
      · rintro i σ H9 hi ⟨x5, x6, x7, rfl, bs, rs, C9, _, hw9, hl9, hR, hil, ho⟩
        have hbr := Paired.length hR
        have hiN : i < N := by omega
        refine ⟨_, rfl, _, _, rfl, rfl, _, rfl, _, _, rfl, rfl, (by omega), _, rfl, _, rfl, d, sa, ns, _, rfl, C9.ent, (by omega), (by omega), fun m5 H10 m50 m51 C10 => ?_⟩
        refine ⟨(by show 2 ≤ sizeLine; decide), fun lz hlz => ?_⟩
        refine alloc hlz fun H11 s11 e11 => ?_
        have C11 := C10.same s11
        refine ⟨_, rfl, d, sa, ns, _, rfl, C11.ent, by decide, by decide, fun m6 H12 m60 m61 C12 => ?_⟩
        obtain ⟨z, hz, hzN⟩ : ∃ z : Nat, atI ([V.int ((0 + (i : Int) + 1) % (N : Int)), V.int m5] : List V) (if decide (V.int m6 = V.int 3) = true then 1 else 0) = some (.int (z : Int)) ∧ z < N := by
          by_cases c : decide (V.int m6 = V.int 3) = true
          · rw [if_pos c]
            obtain ⟨z, q⟩ : ∃ z : Nat, m5 = (z : Int) := ⟨m5.toNat, by omega⟩
            exact ⟨z, by rw [q]; exact at1, by omega⟩
          · rw [if_neg c]
            have q0 := Int.emod_nonneg (0 + (i : Int) + 1) (show (N : Int) ≠ 0 by omega)
            have q1 := Int.emod_lt_of_pos (0 + (i : Int) + 1) (show (0 : Int) < (N : Int) by omega)
            obtain ⟨z, q⟩ : ∃ z : Nat, (0 + (i : Int) + 1) % (N : Int) = (z : Int) := ⟨((0 + (i : Int) + 1) % (N : Int)).toNat, by omega⟩
            exact ⟨z, by rw [q]; exact at0, by omega⟩
        have C912 := C11.trans C12
        refine ⟨rfl, .inr ⟨_, rfl, lz, _, _, _, rfl, rfl, SqL.of (C12.but _ _ (C10.ned (C10.here hlz)) e11), hz, ?_⟩⟩
        refine ⟨_, rfl, d, sa, ns, _, rfl, C912.ent, by decide, by decide, fun wy H13 w0 w1 C13 => ?_⟩
        dsimp only [gName]
        have C913 := C912.trans C13
        have hl13 := C913.but _ _ (C9.ned nl) hl9
        have hw13 := C913.kp _ _ hw9
        have hR13 := hR.kp C913.kp
        refine if_elim (fun b H' => H' = H13 ∧ (b = true → wy < 5 ∧ 0 < mn)) ?_ ?_
        · rintro bb _ ⟨rfl, hbb⟩
          cases bb with
          | true =>
            obtain ⟨hw5, hm0⟩ := hbb rfl
            refine ⟨_, rfl, .inl ⟨rfl, _, SqL.of hl13⟩, (by show 5 ≤ sizeLine; decide), fun l5 hl5 => ?_⟩
            refine alloc hl5 fun H14 s14 e14 => ?_
            obtain ⟨j, rfl⟩ : ∃ j : Nat, wy = (j : Int) := ⟨wy.toNat, by omega⟩
            obtain ⟨wd, hwd, hrow⟩ := word5 (a := 0) (j := j) (by omega)
            have C14 := C913.same s14
            refine ⟨_, rfl, l5, _, _, _, rfl, rfl, SqL.of e14, atI_nat hwd, ?_⟩
            refine ⟨_, rfl, _, rfl, d, sa, ns, _, rfl, C14.ent, (by omega), (by omega), fun m7 H15 m70 m71 C15 => ?_⟩
            obtain ⟨y, rfl⟩ : ∃ y : Nat, m7 = (y : Int) := ⟨m7.toNat, by omega⟩
            obtain ⟨r, hr1, hr2⟩ := hrow y z
            refine ⟨_, rfl, (by show 3 ≤ sizeLine; decide), fun t ht => ?_⟩
            refine alloc ht fun H16 s16 e16 => ?_
            have C16 := (C14.trans C15).same s16
            have hl16 := C16.but _ _ (C9.ned nl) hl9
            refine ⟨l, _, _, rfl, rfl, hl16, szl (by rw [List.length_map]; omega), _, _, _, rfl, ?_⟩
            exact AnyAt.put (C9.trans C16) nl (C16.kp _ _ hw9) hl16 (hR.kp C16.kp) hil ho (by rw [e16, hr1]) (hr2 _ _ (by omega) hzN)
          | false =>
            refine ⟨_, rfl, .inl ⟨rfl, _, SqL.of hl13⟩, _, rfl, (by show 2 ≤ sizeLine; decide), fun t1 ht1 => ?_⟩
            refine alloc ht1 fun H14 s14 e14 => ?_
            have C14 := C913.same s14
            refine ⟨_, rfl, _, rfl, d, sa, ns, _, rfl, C14.ent, (by omega), (by omega), fun m7 H15 m70 m71 C15 => ?_⟩
            obtain ⟨y, rfl⟩ : ∃ y : Nat, m7 = (y : Int) := ⟨m7.toNat, by omega⟩
            refine ⟨_, rfl, (by show 3 ≤ sizeLine; decide), fun t2 ht2 => ?_⟩
            refine alloc ht2 fun H16 s16 e16 => ?_
            refine ⟨(by show 1 ≤ sizeLine; decide), fun t3 ht3 => ?_⟩
            refine alloc ht3 fun H17 s17 e17 => ?_
            refine ⟨(by show 3 ≤ sizeLine; decide), fun lx hlx => ?_⟩
            refine alloc hlx fun H18 s18 e18 => ?_
            have C18 := (((C14.trans C15).same s16).same s17).same s18
            obtain ⟨t, r, hat, htr, hrr⟩ : ∃ (t : Addr) (r : Row), atI ([V.ref t1, V.ref t2, V.ref t3] : List V) (wy % 3) = some (.ref t) ∧ H18 t = some (.tup (rowVs r)) ∧ r.ok us.length N := by
              have S18 := s17.trans s18
              rcases (show wy % 3 = 0 ∨ wy % 3 = 1 ∨ wy % 3 = 2 by omega) with q | q | q
              · exact ⟨t1, .say z, by rw [q]; exact at0, (C15.kp.trans (Kp.same (s16.trans S18))) _ _ e14, hzN⟩
              · exact ⟨t2, .test y z, by rw [q]; exact at1, S18 _ _ e16, by omega, hzN⟩
              · exact ⟨t3, .stop, by rw [q]; exact at2, s18 _ _ e17, trivial⟩
            have hl18 := C18.but _ _ (C9.ned nl) hl9
            refine ⟨_, rfl, _, _, rfl, rfl, (by show (0 : Int) < 3; decide), lx, _, _, _, rfl, rfl, SqL.of e18, hat, l, _, _, rfl, rfl, hl18, szl (by rw [List.length_map]; omega), _, _, _, rfl, ?_⟩
            exact AnyAt.put (C9.trans C18) nl (C18.kp _ _ hw9) hl18 (hR.kp C18.kp) hil ho htr hrr
        · intro F' hF
          refine ⟨_, rfl, _, _, rfl, rfl, _, rfl, ite2 (fun c => ?_) (fun _ => hF _ _ ⟨rfl, fun e => Bool.noConfusion e⟩)⟩
          have c := of_decide_eq_true c
          refine ⟨_, rfl, _, _, rfl, rfl, _, rfl, hF _ _ ⟨rfl, fun e => ⟨c, ?_⟩⟩⟩
          have e := of_decide_eq_true e
          omega
      · rintro σ H9 ⟨x5, x6, x7, rfl, bs, rs, C9, _, hw9, hl9, hR, hil, ho⟩
        have hbr := Paired.length hR
        refine ⟨_, rfl, _, rfl, l, _, rfl, .inl ⟨SqL.of hl9, fun t1 ht1 => ?_⟩⟩
        refine alloc ht1 fun H10 s10 e10 => ?_
        refine ⟨(by show 2 ≤ sizeLine; decide), fun t2 ht2 => ?_⟩
        refine alloc ht2 fun H11 s11 e11 => ?_
        have S := s10.trans s11
        have hNl : rs.length = N := by omega
        refine kq t2 ⟨us, rs⟩ H11 (C9.same S) ⟨wt, t1, bs, e11, S _ _ hw9, s11 _ _ e10, hR.kp (Kp.same S)⟩ ⟨?_, ?_, ?_, hum, ?_⟩
        · show 1 ≤ rs.length
          omega
        · show rs.length ≤ 40
          omega
        · show us.length ≤ 8
          omega
        · intro r hr
          show r.ok us.length rs.length
          rw [hNl]
          exact ho r hr
end
end DL
namespace DL
open PySem L2 DLR
/-! ### the machine -/
def ring (n : Int) : Int := (n + 1000000000) % 2000000000 - 1000000000
structure Mach where
  desk : Int
  ws : List Int
  said : List Int
def InR (x : Int) : Prop := -1000000000 ≤ x ∧ x < 1000000000
theorem ring_in (n : Int) : InR (ring n) := by
  have h0 := Int.emod_nonneg (n + 1000000000) (show (2000000000 : Int) ≠ 0 by decide)
  have h1 := Int.emod_lt_of_pos (n + 1000000000) (show (0 : Int) < 2000000000 by decide)
  unfold ring InR
  omega
theorem ring_id {n : Int} (h : InR n) : ring n = n := by
  unfold ring
  rw [Int.emod_eq_of_lt (by unfold InR at h; omega) (by unfold InR at h; omega)]
  omega
theorem ring_add (a b : Int) : ring (ring a + b) = ring (a + b) := by
  unfold ring
  have e : (a + 1000000000) % 2000000000 - 1000000000 + b + 1000000000 = (a + 1000000000) % 2000000000 + b := by omega
  rw [e, Int.emod_add_emod]
  have e2 : a + 1000000000 + b = a + b + 1000000000 := by omega
  rw [e2]
structure MOk (m : Mach) : Prop where
  desk : InR m.desk
  ws : ∀ x ∈ m.ws, InR x
def Mach.at (m : Mach) (w : Nat) : Int := m.ws.getD w 0
def stepM (m : Mach) : Row → Mach × Option Nat
  | .load w n => ({ m with desk := m.at w }, some n)
  | .add w n => ({ m with desk := ring (m.desk + m.at w) }, some n)
  | .take w n => ({ m with desk := ring (m.desk - m.at w) }, some n)
  | .store w n => ({ m with ws := m.ws.set w m.desk }, some n)
  | .say n => ({ m with said := m.said ++ [m.desk] }, some n)
  | .test a b => (m, some (if m.desk = 0 then a else b))
  | .stop => (m, none)
theorem at_in {m : Mach} (h : MOk m) {w : Nat} (hw : w < m.ws.length) : m.ws[w]? = some (m.at w) ∧ InR (m.at w) := by
  have e : m.ws[w]? = some (m.at w) := by
    unfold Mach.at
    rw [List.getD_eq_getElem?_getD, List.getElem?_eq_getElem hw]
    rfl
  exact ⟨e, h.ws _ (List.mem_of_getElem? e)⟩
theorem stepM_ok {m : Mach} (h : MOk m) {r : Row} {N : Nat} (ho : r.ok m.ws.length N) : MOk (stepM m r).1 ∧ (stepM m r).1.ws.length = m.ws.length ∧ (stepM m r).1.said.length ≤ m.said.length + 1 ∧ ∀ n, (stepM m r).2 = some n → n < N := by
  cases r with
  | load w n => exact ⟨⟨(at_in h ho.1).2, h.ws⟩, rfl, Nat.le_succ _, fun k e => by cases e; exact ho.2⟩
  | add w n => exact ⟨⟨ring_in _, h.ws⟩, rfl, Nat.le_succ _, fun k e => by cases e; exact ho.2⟩
  | take w n => exact ⟨⟨ring_in _, h.ws⟩, rfl, Nat.le_succ _, fun k e => by cases e; exact ho.2⟩
  | store w n =>
    refine ⟨⟨h.desk, fun x hx => ?_⟩, List.length_set .., Nat.le_succ _, fun k e => by cases e; exact ho.2⟩
    rcases List.mem_or_eq_of_mem_set hx with q | q
    · exact h.ws x q
    · rw [q]; exact h.desk
  | say n => exact ⟨⟨h.desk, h.ws⟩, rfl, by show (m.said ++ [m.desk]).length ≤ _; rw [List.length_append]; exact Nat.le_refl _, fun k e => by cases e; exact ho⟩
  | test a b =>
    refine ⟨h, rfl, Nat.le_succ _, fun k e => ?_⟩
    have e : (if m.desk = 0 then a else b) = k := Option.some.inj e
    rw [← e]
    split
    · exact ho.1
    · exact ho.2
  | stop => exact ⟨h, rfl, Nat.le_succ _, fun k e => by cases e⟩
def oV : Option Nat → V
  | none => .non
  | some n => .int (n : Int)
/-! ### the law's own machine: a dict -/
def kW : Key := .inr "worths"
def kD : Key := .inr "desk"
def kS : Key := .inr "said"
theorem k_WD : kW ≠ kD := by decide +kernel
theorem k_WS : kW ≠ kS := by decide +kernel
theorem k_DS : kD ≠ kS := by decide +kernel
structure LawM (ex : Key → Option V) (H : Hp) (ad aw as_ : Addr) (m : Mach) : Prop where
  dic : ∃ kvs : List (Key × V), H ad = some (.dK kvs) ∧ kvs.length ≤ 100 ∧ valV kvs kW = some (.ref aw) ∧ valV kvs kD = some (.int m.desk) ∧ valV kvs kS = some (.ref as_) ∧ ∀ k, k ≠ kW → k ≠ kD → k ≠ kS → valV kvs k = ex k
  ws : H aw = some (.lst (m.ws.map V.int))
  said : H as_ = some (.lst (m.said.map V.int))
  ne : aw ≠ as_
def But3 (a b c : Addr) (H H' : Hp) : Prop := ∀ x o, x ≠ a → x ≠ b → x ≠ c → H x = some o → H' x = some o
theorem But3.of {a b c : Addr} {H H' : Hp} (s : Same1 H H') : But3 a b c H H' := fun x o _ _ _ h => s x o h
theorem But3.trans {a b c : Addr} {H H1 H2 : Hp} (s : But3 a b c H H1) (t : But3 a b c H1 H2) : But3 a b c H H2 := fun x o h1 h2 h3 h => t x o h1 h2 h3 (s x o h1 h2 h3 h)
theorem But3.upd1 {a b c : Addr} {H : Hp} {o : HO} : But3 a b c H (upd H a o) := fun x u h _ _ e => by rw [upd_ne h]; exact e
theorem But3.upd2 {a b c : Addr} {H : Hp} {o : HO} : But3 a b c H (upd H b o) := fun x u _ h _ e => by rw [upd_ne h]; exact e
theorem But3.upd3 {a b c : Addr} {H : Hp} {o : HO} : But3 a b c H (upd H c o) := fun x u _ _ h e => by rw [upd_ne h]; exact e
theorem LawM.same {ex : Key → Option V} {H H' : Hp} {ad aw as_ : Addr} {m : Mach} (h : LawM ex H ad aw as_ m) (s : Same1 H H') : LawM ex H' ad aw as_ m := by
  obtain ⟨⟨kvs, h1, h2⟩, h3, h4, h5⟩ := h
  exact ⟨⟨kvs, s _ _ h1, h2⟩, s _ _ h3, s _ _ h4, h5⟩
theorem put_len {κ : Type} [DecidableEq κ] {kvs : List (κ × V)} {k : κ} {v x : V} (h : valV kvs k = some x) : (putK kvs k v).length = kvs.length := by
  unfold putK
  rw [valV_any, h, if_pos (by rfl), List.length_map]
theorem LawM.put {ex : Key → Option V} {H : Hp} {ad aw as_ : Addr} {m : Mach} {kvs : List (Key × V)} {z : Int} (h : LawM ex H ad aw as_ m) (e : H ad = some (.dK kvs)) : LawM ex (upd H ad (.dK (putK kvs kD (.int z)))) ad aw as_ { m with desk := z } := by
  obtain ⟨⟨kvs', h1, h2, h3, h4, h5, h9⟩, h6, h7, h8⟩ := h
  rw [e] at h1
  have q : kvs = kvs' := by injection (Option.some.inj h1)
  subst q
  have nw : aw ≠ ad := ne_of h6 e (by intro z; cases z)
  have ns : as_ ≠ ad := ne_of h7 e (by intro z; cases z)
  refine ⟨⟨putK kvs kD (.int z), upd_same, by rw [put_len h4]; exact h2, ?_, ?_, ?_, fun k a b c => by rw [valV_put, if_neg (fun z => b z)]; exact h9 k a b c⟩, by rw [upd_ne nw]; exact h6, by rw [upd_ne ns]; exact h7, h8⟩
  · rw [valV_put, if_neg k_WD]; exact h3
  · rw [valV_put, if_pos rfl]
  · rw [valV_put, if_neg k_DS.symm]; exact h5
theorem dget {H : Hp} {a : Addr} {kvs : List (Key × V)} {k : Key} {v : V} (e : H a = some (.dK kvs)) (h : valV kvs k = some v) : DGet H a (kV k) (some v) := by
  have q := DGet.k (k := k) e
  rw [h] at q
  exact q
def Row.ar : Row → Bool
  | .load _ _ => true
  | .add _ _ => true
  | .take _ _ => true
  | _ => false
theorem Row.in3 (r : Row) : inV (.str r.word) [.str "load", .str "add", .str "take"] = r.ar := by cases r <;> (dsimp only [Row.word, Row.ar]; decide +kernel)
def Row.isWd (s : Str) (r : Row) : Bool := decide (V.str r.word = V.str s)
def Row.fac (r : Row) : Int × Int := match r with
  | .load _ _ => (0, 1)
  | .take _ _ => (1, -1)
  | _ => (1, 1)
theorem Row.f1 (r : Row) : (if (!decide (V.str r.word = V.str "load")) = true then (1 : Int) else 0) = r.fac.1 := by
  cases r with
  | load _ _ => exact (by decide +kernel : (if (!decide (V.str "load" = V.str "load")) = true then (1 : Int) else 0) = 0)
  | add _ _ => exact (by decide +kernel : (if (!decide (V.str "add" = V.str "load")) = true then (1 : Int) else 0) = 1)
  | take _ _ => exact (by decide +kernel : (if (!decide (V.str "take" = V.str "load")) = true then (1 : Int) else 0) = 1)
  | store _ _ => exact (by decide +kernel : (if (!decide (V.str "store" = V.str "load")) = true then (1 : Int) else 0) = 1)
  | say _ => exact (by decide +kernel : (if (!decide (V.str "say" = V.str "load")) = true then (1 : Int) else 0) = 1)
  | test _ _ => exact (by decide +kernel : (if (!decide (V.str "test" = V.str "load")) = true then (1 : Int) else 0) = 1)
  | stop  => exact (by decide +kernel : (if (!decide (V.str "stop" = V.str "load")) = true then (1 : Int) else 0) = 1)
theorem Row.f2 (r : Row) : atI ([V.int 1, V.int (-1)] : List V) (if decide (V.str r.word = V.str "take") = true then (1 : Int) else 0) = some (.int r.fac.2) := by
  cases r with
  | load _ _ => exact (by decide +kernel : atI ([V.int 1, V.int (-1)] : List V) (if decide (V.str "load" = V.str "take") = true then (1 : Int) else 0) = some (.int (1)))
  | add _ _ => exact (by decide +kernel : atI ([V.int 1, V.int (-1)] : List V) (if decide (V.str "add" = V.str "take") = true then (1 : Int) else 0) = some (.int (1)))
  | take _ _ => exact (by decide +kernel : atI ([V.int 1, V.int (-1)] : List V) (if decide (V.str "take" = V.str "take") = true then (1 : Int) else 0) = some (.int (-1)))
  | store _ _ => exact (by decide +kernel : atI ([V.int 1, V.int (-1)] : List V) (if decide (V.str "store" = V.str "take") = true then (1 : Int) else 0) = some (.int (1)))
  | say _ => exact (by decide +kernel : atI ([V.int 1, V.int (-1)] : List V) (if decide (V.str "say" = V.str "take") = true then (1 : Int) else 0) = some (.int (1)))
  | test _ _ => exact (by decide +kernel : atI ([V.int 1, V.int (-1)] : List V) (if decide (V.str "test" = V.str "take") = true then (1 : Int) else 0) = some (.int (1)))
  | stop  => exact (by decide +kernel : atI ([V.int 1, V.int (-1)] : List V) (if decide (V.str "stop" = V.str "take") = true then (1 : Int) else 0) = some (.int (1)))
theorem Row.wd_eq (r : Row) : r.isWd "test" = (match r with | .test _ _ => true | _ => false) ∧ r.isWd "store" = (match r with | .store _ _ => true | _ => false) ∧ r.isWd "say" = (match r with | .say _ => true | _ => false) ∧ r.isWd "stop" = (match r with | .stop => true | _ => false) := by
  cases r with
  | load _ _ => exact (by decide +kernel : decide (V.str "load" = V.str "test") = false ∧ decide (V.str "load" = V.str "store") = false ∧ decide (V.str "load" = V.str "say") = false ∧ decide (V.str "load" = V.str "stop") = false)
  | add _ _ => exact (by decide +kernel : decide (V.str "add" = V.str "test") = false ∧ decide (V.str "add" = V.str "store") = false ∧ decide (V.str "add" = V.str "say") = false ∧ decide (V.str "add" = V.str "stop") = false)
  | take _ _ => exact (by decide +kernel : decide (V.str "take" = V.str "test") = false ∧ decide (V.str "take" = V.str "store") = false ∧ decide (V.str "take" = V.str "say") = false ∧ decide (V.str "take" = V.str "stop") = false)
  | store _ _ => exact (by decide +kernel : decide (V.str "store" = V.str "test") = false ∧ decide (V.str "store" = V.str "store") = true ∧ decide (V.str "store" = V.str "say") = false ∧ decide (V.str "store" = V.str "stop") = false)
  | say _ => exact (by decide +kernel : decide (V.str "say" = V.str "test") = false ∧ decide (V.str "say" = V.str "store") = false ∧ decide (V.str "say" = V.str "say") = true ∧ decide (V.str "say" = V.str "stop") = false)
  | test _ _ => exact (by decide +kernel : decide (V.str "test" = V.str "test") = true ∧ decide (V.str "test" = V.str "store") = false ∧ decide (V.str "test" = V.str "say") = false ∧ decide (V.str "test" = V.str "stop") = false)
  | stop  => exact (by decide +kernel : decide (V.str "stop" = V.str "test") = false ∧ decide (V.str "stop" = V.str "store") = false ∧ decide (V.str "stop" = V.str "say") = false ∧ decide (V.str "stop" = V.str "stop") = true)
theorem Row.ar_of {r : Row} (h : r.ar = true) {W N : Nat} (ho : r.ok W N) : ∃ w n : Nat, (rowVs r)[1]? = some (.int (w : Int)) ∧ w < W ∧ atI (rowVs r) (-1) = some (.int (n : Int)) ∧
    ∀ m : Mach, MOk m → w < m.ws.length → stepM m r = ({ m with desk := ring (m.desk * r.fac.1 + m.at w * r.fac.2) }, some n) := by
  cases r with
  | load w n =>
    refine ⟨w, n, rfl, ho.1, rfl, fun m hm hw => ?_⟩
    show ({ m with desk := m.at w }, some n) = ({ m with desk := ring (m.desk * 0 + m.at w * 1) }, some n)
    rw [Int.mul_zero, Int.zero_add, Int.mul_one, ring_id (at_in hm hw).2]
  | add w n =>
    refine ⟨w, n, rfl, ho.1, rfl, fun m hm hw => ?_⟩
    show ({ m with desk := ring (m.desk + m.at w) }, some n) = ({ m with desk := ring (m.desk * 1 + m.at w * 1) }, some n)
    rw [Int.mul_one, Int.mul_one]
  | take w n =>
    refine ⟨w, n, rfl, ho.1, rfl, fun m hm hw => ?_⟩
    show ({ m with desk := ring (m.desk - m.at w) }, some n) = ({ m with desk := ring (m.desk * 1 + m.at w * -1) }, some n)
    rw [Int.mul_one, Int.mul_neg_one]
    rfl
  | store w n => cases h
  | say n => cases h
  | test a b => cases h
  | stop => cases h
theorem Row.fb (r : Row) : (0 ≤ r.fac.1 ∧ r.fac.1 ≤ 1) ∧ (-1 ≤ r.fac.2 ∧ r.fac.2 ≤ 1) := by cases r <;> (dsimp only [Row.fac]; decide)
def spRing : Sp := fun vs H Q _ => ∃ n : Int, vs = [.int n] ∧ Q (.int (ring n)) H
def spStep : Sp := fun vs H Q _ => ∃ (ex : Key → Option V) (ad aw as_ ra : Addr) (m : Mach) (r : Row) (N : Nat), vs = [.ref ad, .ref ra] ∧ LawM ex H ad aw as_ m ∧ MOk m ∧ m.said.length ≤ 9000 ∧ H ra = some (.tup (rowVs r)) ∧ r.ok m.ws.length N ∧
  ∀ H', But3 ad aw as_ H H' → LawM ex H' ad aw as_ (stepM m r).1 → Q (oV (stepM m r).2) H'
section
variable {P : Program} {w : World} {K : PySem.W.Frag} {mg : Str → Option Value} {base : Heap}
abbrev nStep : List Str := ["_law_s", "_law_row", "_law_number"]
end
end DL
namespace DLR
open PySem PySem.Spec PyProof.Rows L2
/-! ### sorted(a dict whose keys are pairs of whole numbers), any number of them -/
def pairH (H : Hp) (a : Addr) : Int × Int := match H a with
  | some (.tup [.int i, .int j]) => (i, j)
  | _ => (0, 0)
theorem pairH_of {H : Hp} {a : Addr} {i j : Int} (h : H a = some (.tup [.int i, .int j])) : pairH H a = (i, j) := by
  unfold pairH
  rw [h]
def pairV (H : Hp) : Value → Int × Int
  | .ref a => pairH H a
  | _ => (0, 0)
def keyP (q : Int × Int) : List Key := [Sum.inl q.1, Sum.inl q.2]
def PairsAt (H : Hp) (bs : List Addr) (L : List (Int × Int)) : Prop := Paired (fun b q => H b = some (.tup [.int q.1, .int q.2])) bs L
theorem pairs_of_map {H : Hp} : ∀ {bs : List Addr}, (∀ b ∈ bs, H b = some (.tup [.int (pairH H b).1, .int (pairH H b).2])) → PairsAt H bs (bs.map (pairH H))
  | [], _ => .nil
  | b :: bs, h => .cons (h b List.mem_cons_self) (pairs_of_map fun c hc => h c (List.mem_cons_of_mem _ hc))
theorem keys_pairs {H : Hp} {kvs : List (List Key × V)} {ks : List (List Key × Addr × Value)} (r : KT H kvs ks) : ∀ {ps : List (Int × Int)}, kvs.map (·.1) = ps.map keyP → PairsAt H (ks.map fun x => x.2.1) ps := by
  induction r with
  | nil =>
    intro ps h
    cases ps with
    | nil => exact .nil
    | cons q ps => cases h
  | @cons p x pt xt h t ih =>
    intro ps hp
    cases ps with
    | nil => cases hp
    | cons q ps =>
      obtain ⟨e1, e2⟩ := List.cons.inj hp
      refine .cons ?_ (ih e2)
      have z := h.2.1
      have e1 : p.1 = keyP q := e1
      rw [e1] at z
      exact z
theorem pairs_map {H : Hp} : ∀ {bs : List Addr} {ps : List (Int × Int)}, PairsAt H bs ps → bs.map (pairH H) = ps
  | _, _, .nil => rfl
  | _, _, .cons h t => by
    rw [List.map_cons, pairs_map t, pairH_of h]
def rSortedDT : List V → Hp → VK → Prop := fun vs H Q => ∃ (d : Addr) (kvs : List (List Key × V)) (ps : List (Int × Int)), vs = [V.ref d] ∧ Rd H d (.dT kvs) ∧ kvs.map (·.1) = ps.map keyP ∧
  ∀ (p : Addr) (ys : List Addr) (L : List (Int × Int)), PairsAt H ys L → SrtO.Srtd SrtO.lexB L → SrtO.Stb SrtO.lexB L ps → H p = none → Q (.ref p) (upd H p (.lst (ys.map V.ref)))
theorem cr_sortedDT {X : Cx} (hc : X.calm = true) : CallR X (.builtin "sorted") rSortedDT := by
  intro pins s σ H vs us Q I r h
  obtain ⟨d, kvs, ps, rfl, hd, hps, q⟩ := h
  obtain ⟨u, rfl, rx⟩ := r.one
  cases rx
  obtain ⟨z, hs, ks, pr, o, es, ep, ho, hx, hdt, he, hn⟩ := (show ObjOk X.prog X.w H s.heap d (.dT kvs) from hd.ok I.hok)
  have l1 := size_of_entries he
  have l2 := Paired.length pr
  refine Calls.call_function_entry kind_sorted plain_sorted entry_sorted (args_sorted1 _) ?_
  unfold Builtin.«sorted»
  refine wpAny_bind (m := checkCount "sorted" 1 1 _) (wpAny_pure ?_)
  refine wpAny_bind (PySem.W.kdu_collect (A := X.A.in1) (kdl_raw hs hx hdt) (I.ok.hd hc) ho (by omega) fun h' tk acc kp it => ?_)
  have ea : acc.toList = (ks.map fun x => x.2.1).map Value.ref := by
    apply List.ext_getElem?
    intro j
    rw [List.map_map, List.getElem?_map]
    cases hj : acc.toList[j]? with
    | none =>
      have g := List.getElem?_eq_none_iff.mp hj
      rw [Array.length_toList, it.1, l1] at g
      rw [List.getElem?_eq_none g]
      rfl
    | some v =>
      obtain ⟨en, hen, hv⟩ := it.2 j v (by rw [← Array.getElem?_toList]; exact hj)
      have qe := entry_at he j
      rw [hen] at qe
      cases hb : ks[j]? with
      | none => rw [hb] at qe; cases qe
      | some b =>
        rw [hb] at qe
        have e2 := Option.some.inj qe
        rw [hv, e2]
        rfl
  have hal : acc.toList.length = ks.length := by rw [ea, List.length_map, List.length_map]
  have hz16 : acc.toList.length ≤ sizeLine := by omega
  have hP := keys_pairs pr hps
  have I1 : Inv X pins σ H { s with heap := h', toks := tk } := I.kept kp
  refine wpAny_bind (wpAny_newList ?_ hz16)
  have hoL : (h'.push (seqObj "list" acc.toList.toArray 0)).get? h'.objs.size = some (seqObj "list" acc.toList.toArray 0) := Heap.get?_push_size _ rfl
  have hpv : ∀ v ∈ acc.toList, Srt.IsPair (h'.push (seqObj "list" acc.toList.toArray 0)) v (pairV H v).1 (pairV H v).2 := by
    intro v hv
    rw [ea] at hv
    obtain ⟨b, hb, rfl⟩ := List.mem_map.mp hv
    obtain ⟨j, hj⟩ := List.getElem?_of_mem hb
    obtain ⟨y, hy, hy2⟩ := DL.Paired.get hP hj
    obtain ⟨_, its2, r2, o2, ho2, hc2, n2, hd2⟩ := I1.hok _ _ hy2
    obtain ⟨u1, u2, rfl, ri, rj⟩ := vals2 r2
    obtain ⟨t1, rfl⟩ := ri
    obtain ⟨t2, rfl⟩ := rj
    have e : pairV H (.ref b) = y := pairH_of hy2
    rw [e]
    exact ⟨b, o2, t1, t2, n2, rfl, Heap.get?_push_of_some _ ho2, hc2, hd2⟩
  show wpAny _ _ _ _ _ { s with heap := h'.push (seqObj "list" acc.toList.toArray 0), toks := tk }
  refine wpAny_bind (wpAny_holding (wpAny_call_entry slot_list_sort ⟨_, hoL, rfl⟩ entry_list_sort
    (SrtO.list_sort_ord (s := { s with heap := h'.push (seqObj "list" acc.toList.toArray 0), toks := tk }) (SrtO.swo_lex (pairV H)) hoL hz16 (fun h2 => ?_) fun out hs2 hb => ⟨_, rfl, ?_⟩) (args_list_sort _)))
  · refine SrtO.pairs_sortableO (by omega) hpv fun o3 e3 => ?_
    rw [show (({ s with heap := h'.push (seqObj "list" acc.toList.toArray 0), toks := tk } : Shared).heap.get? h'.objs.size) = _ from hoL] at e3
    cases e3
    intro c
    exact absurd (Value.type.inj c) (by decide)
  · obtain ⟨e', he'⟩ := PyProof.Rows.sortedHeap_at (vs := acc.toList) (out := out.toArray) hoL
    have href : ∀ u ∈ out, ∃ a, u = Value.ref a := fun u hu => by
      have m := hb.perm.mem_iff.mp hu
      rw [ea] at m
      obtain ⟨b, _, e⟩ := List.mem_map.mp m
      exact ⟨b, e.symm⟩
    obtain ⟨ys, hys⟩ : ∃ ys : List Addr, out = ys.map Value.ref := by
      clear hs2 hb he'
      induction out with
      | nil => exact ⟨[], rfl⟩
      | cons u t ih =>
        obtain ⟨a, ha⟩ := href u List.mem_cons_self
        obtain ⟨ys, e⟩ := ih fun v hv => href v (List.mem_cons_of_mem _ hv)
        exact ⟨a :: ys, by rw [ha, e]; rfl⟩
    have hlo : out.length ≤ sizeLine := by rw [hb.len]; exact hz16
    refine wpAny_pure ⟨_, rfl, .ref h'.objs.size, upd H h'.objs.size (.lst (ys.map V.ref)), I1.laid (t' := tk) (fun b u e => ?_) (Nat.le_refl _) ?_, rfl,
      q _ ys (ys.map (pairH H)) ?_ ?_ ?_ (I1.hok.fresh (Nat.le_refl _))⟩
    · have hlt : b < h'.objs.size := Heap.lt_size e
      rw [PyProof.Rows.sortedHeap_old (Nat.ne_of_lt hlt) (by rw [size_push']; exact Nat.lt_succ_of_lt hlt)]
      exact Heap.get?_push_of_some _ e
    · refine ⟨by rw [List.length_map, ← List.length_map (f := Value.ref), ← hys]; exact hlo, out, e', ?_, he'⟩
      rw [hys]
      exact vals_refs ys
    · refine pairs_of_map fun b hb2 => ?_
      have m : Value.ref b ∈ acc.toList := hb.perm.mem_iff.mp (by rw [hys]; exact List.mem_map.mpr ⟨b, hb2, rfl⟩)
      rw [ea] at m
      obtain ⟨c, hc2, e⟩ := List.mem_map.mp m
      cases e
      obtain ⟨j, hj⟩ := List.getElem?_of_mem hc2
      obtain ⟨y, hy, hy2⟩ := DL.Paired.get hP hj
      rw [pairH_of hy2]
      exact hy2
    · have e : ys.map (pairH H) = out.map (pairV H) := by rw [hys, List.map_map]; rfl
      rw [e]
      exact SrtO.srtd_map hs2
    · have e : ys.map (pairH H) = out.map (pairV H) := by rw [hys, List.map_map]; rfl
      have e2 : ps = acc.toList.map (pairV H) := by rw [ea, List.map_map, ← pairs_map hP]; rfl
      rw [e, e2]
      refine SrtO.Stb.map ?_ (pairV H) hb
      refine ⟨fun x y h => ?_, fun x y z h1 h2 => ?_⟩
      · have a := SrtO.lexB_iff.mp h
        exact SrtO.lexB_no.mpr (by omega)
      · have a := SrtO.lexB_no.mp h1
        have b := SrtO.lexB_no.mp h2
        exact SrtO.lexB_no.mpr (by omega)
end DLR
namespace DL
open PySem L2 DLR
/-! ### the mirror of a run -/
abbrev GL := List ((Int × Int) × V)
def gcount : Option V → Int
  | some (.int c) => c
  | _ => 0
def bump (g : GL) (q : Int × Int) : GL := putK g q (.int (gcount (valV g q) + 1))
structure RS where
  m : Mach
  cnt : List Int
  goes : GL
  here : Option Nat
def goesOf (g : GL) (r : Nat) : Option Nat → GL
  | none => g
  | some n => bump g ((r : Int), (n : Int))
def turnS (rows : List Row) (s : RS) : RS := match s.here with
  | none => s
  | some r => ⟨(stepM s.m (rows.getD r .stop)).1, s.cnt.set r (s.cnt.getD r 0 + 1),
      goesOf s.goes r (stepM s.m (rows.getD r .stop)).2,
      (stepM s.m (rows.getD r .stop)).2⟩
def startS (p : Prog) : RS := ⟨⟨0, p.ws, []⟩, List.replicate p.rows.length 0, [], some 0⟩
def runS (p : Prog) : Nat → RS
  | 0 => startS p
  | k + 1 => turnS p.rows (runS p k)
theorem runS_none {p : Prog} {j : Nat} (h : (runS p j).here = none) : ∀ k, runS p (j + k) = runS p j
  | 0 => rfl
  | k + 1 => by
    show turnS p.rows (runS p (j + k)) = _
    rw [runS_none h k]
    unfold turnS
    rw [h]
structure ROk (p : Prog) (k : Nat) (s : RS) : Prop where
  m : MOk s.m
  w : s.m.ws.length = p.ws.length
  said : s.m.said.length ≤ k
  dl : s.cnt.length = p.rows.length
  sum : s.here ≠ none → s.cnt.sum = (k : Int)
  le : s.cnt.sum ≤ (k : Int) ∧ 0 ≤ s.cnt.sum
  gok : ∀ e ∈ s.goes, ∃ c, e.2 = .int c
  gl : s.goes.length ≤ k
  here : ∀ r, s.here = some r → r < p.rows.length
theorem getD_set_sum {l : List Int} {r : Nat} (h : r < l.length) : (l.set r (l.getD r 0 + 1)).sum = l.sum + 1 := by
  have e : l[r]? = some (l.getD r 0) := by
    rw [List.getD_eq_getElem?_getD, List.getElem?_eq_getElem h]
    rfl
  rw [L2.sum_set e]
  omega
theorem sum_rep : ∀ n : Nat, (List.replicate n (0 : Int)).sum = 0
  | 0 => rfl
  | n + 1 => by
    rw [List.replicate_succ, List.sum_cons, sum_rep n]
    rfl
theorem putK_len {κ : Type} [DecidableEq κ] {kvs : List (κ × V)} {k : κ} {v : V} : (putK kvs k v).length ≤ kvs.length + 1 := by
  unfold putK
  split
  · rw [List.length_map]; omega
  · rw [List.length_append]; exact Nat.le_refl _
theorem putK_all {κ : Type} [DecidableEq κ] {kvs : List (κ × V)} {k : κ} {c : Int} (h : ∀ e ∈ kvs, ∃ c, e.2 = V.int c) : ∀ e ∈ putK kvs k (.int c), ∃ c, e.2 = V.int c := by
  intro e he
  unfold putK at he
  split at he
  · obtain ⟨x, hx, rfl⟩ := List.mem_map.mp he
    by_cases q : x.1 = k
    · rw [if_pos q]; exact ⟨c, rfl⟩
    · rw [if_neg q]; exact h x hx
  · rcases List.mem_append.mp he with q | q
    · exact h e q
    · rw [List.mem_singleton.mp q]; exact ⟨c, rfl⟩
theorem runS_ok {p : Prog} (g : Good p) : ∀ k, ROk p k (runS p k)
  | 0 => by
    refine ⟨⟨(by show -1000000000 ≤ (0 : Int) ∧ (0 : Int) < 1000000000; decide), fun x hx => ?_⟩, rfl, Nat.le_refl _, List.length_replicate, fun _ => ?_, ?_, fun _ h => absurd h (by simp [runS, startS]), Nat.le_refl _, fun r h => ?_⟩
    · have := g.num x hx
      unfold InR
      omega
    · show (List.replicate p.rows.length (0 : Int)).sum = 0
      exact sum_rep _
    · show (List.replicate p.rows.length (0 : Int)).sum ≤ 0 ∧ 0 ≤ (List.replicate p.rows.length (0 : Int)).sum
      rw [sum_rep]
      decide
    · have e : (0 : Nat) = r := Option.some.inj h
      rw [← e]
      exact g.r1
  | k + 1 => by
    have ih := runS_ok g k
    show ROk p (k + 1) (turnS p.rows (runS p k))
    generalize runS p k = s at ih ⊢
    unfold turnS
    cases hh : s.here with
    | none =>
      exact ⟨ih.m, ih.w, Nat.le_succ_of_le ih.said, ih.dl, fun q => absurd hh q, ⟨by show s.cnt.sum ≤ ((k + 1 : Nat) : Int); have := ih.le.1; omega, ih.le.2⟩, ih.gok, Nat.le_succ_of_le ih.gl, fun r h => by rw [hh] at h; cases h⟩
    | some r =>
      have hr := ih.here r hh
      have er : p.rows.getD r .stop = p.rows[r] := by rw [List.getD_eq_getElem?_getD, List.getElem?_eq_getElem hr]; rfl
      have ho : (p.rows.getD r .stop).ok s.m.ws.length p.rows.length := by
        rw [er, ih.w]
        exact g.ok _ (List.getElem_mem hr)
      obtain ⟨s1, s2, s3, s4⟩ := stepM_ok ih.m ho
      have hs := getD_set_sum (l := s.cnt) (r := r) (by rw [ih.dl]; exact hr)
      have hsum := ih.sum (by rw [hh]; simp)
      refine ⟨s1, s2.trans ih.w, ?_, by rw [List.length_set]; exact ih.dl, fun _ => by rw [hs, hsum]; rfl, ?_, ?_, ?_, fun n h => s4 n h⟩
      · show (stepM s.m (p.rows.getD r .stop)).1.said.length ≤ k + 1
        have := ih.said
        omega
      · show (s.cnt.set r (s.cnt.getD r 0 + 1)).sum ≤ _ ∧ 0 ≤ (s.cnt.set r (s.cnt.getD r 0 + 1)).sum
        rw [hs, hsum]
        omega
      · show ∀ e ∈ goesOf s.goes r (stepM s.m (p.rows.getD r .stop)).2, _
        cases (stepM s.m (p.rows.getD r .stop)).2 with
        | none => exact ih.gok
        | some n => exact putK_all ih.gok
      · show (goesOf s.goes r (stepM s.m (p.rows.getD r .stop)).2).length ≤ _
        cases (stepM s.m (p.rows.getD r .stop)).2 with
        | none => exact Nat.le_succ_of_le ih.gl
        | some n => exact Nat.le_trans putK_len (Nat.succ_le_succ ih.gl)
/-! ### the goes as they stand in a dict -/
def kmap (g : GL) : List (List Key × V) := g.map fun e => (keyP e.1, e.2)
theorem keyP_inj {a b : Int × Int} (h : keyP a = keyP b) : a = b := by
  obtain ⟨h1, h2⟩ := List.cons.inj h
  obtain ⟨h3, _⟩ := List.cons.inj h2
  exact Prod.ext (Sum.inl.inj h1) (Sum.inl.inj h3)
theorem kmap_val (g : GL) (q : Int × Int) : valV (kmap g) (keyP q) = valV g q := by
  induction g with
  | nil => rfl
  | cons e g ih =>
    by_cases h : e.1 = q
    · rw [valV_pos h]
      exact valV_pos (p := (keyP e.1, e.2)) (by rw [h])
    · rw [valV_neg h, ← ih]
      exact valV_neg (p := (keyP e.1, e.2)) (fun z => h (keyP_inj z))
theorem kmap_put (g : GL) (q : Int × Int) (v : V) : putK (kmap g) (keyP q) v = kmap (putK g q v) := by
  unfold putK
  have e : ((kmap g).any fun kv => decide (kv.1 = keyP q)) = (g.any fun kv => decide (kv.1 = q)) := by
    rw [valV_any, valV_any, kmap_val]
  rw [e]
  split
  · unfold kmap
    rw [List.map_map, List.map_map]
    refine List.map_congr_left fun x _ => ?_
    show (if keyP x.1 = keyP q then (keyP x.1, v) else (keyP x.1, x.2)) = (keyP (if x.1 = q then (x.1, v) else x).1, (if x.1 = q then (x.1, v) else x).2)
    by_cases h : x.1 = q
    · rw [if_pos h, if_pos (by rw [h])]
    · rw [if_neg h, if_neg (fun z => h (keyP_inj z))]
  · unfold kmap
    rw [List.map_append]
    rfl
theorem kmap_keys (g : GL) : (kmap g).map (·.1) = (g.map (·.1)).map keyP := by
  unfold kmap
  rw [List.map_map, List.map_map]
  rfl
theorem kmap_len (g : GL) : (kmap g).length = g.length := List.length_map _
theorem valV_mem {κ : Type} [DecidableEq κ] {g : List (κ × V)} {q : κ} {v : V} (h : valV g q = some v) : ∃ e ∈ g, e.2 = v := by
  induction g with
  | nil => cases h
  | cons e g ih =>
    by_cases z : e.1 = q
    · rw [valV_pos z] at h
      exact ⟨e, List.mem_cons_self, Option.some.inj h⟩
    · rw [valV_neg z] at h
      obtain ⟨x, hx, hy⟩ := ih h
      exact ⟨x, List.mem_cons_of_mem _ hx, hy⟩
theorem gget {g : GL} (h : ∀ e ∈ g, ∃ c, e.2 = V.int c) (q : Int × Int) : (valV g q).getD (.int 0) = .int (gcount (valV g q)) := by
  cases e : valV g q with
  | none => rfl
  | some v =>
    obtain ⟨x, hx, hy⟩ := valV_mem e
    obtain ⟨c, hc⟩ := h x hx
    rw [← hy, hc]
    rfl
theorem ggot {g : GL} (h : ∀ e ∈ g, ∃ c, e.2 = V.int c) {q : Int × Int} (m : q ∈ g.map (·.1)) : valV g q = some (.int (gcount (valV g q))) := by
  have e := gget h q
  cases z : valV g q with
  | none => exact absurd m (L2.valV_not z)
  | some v =>
    rw [z] at e
    exact congrArg some e
/-! ### what a run tells -/
structure Res (p : Prog) (fuel : Nat) (H0 H : Hp) (a ls le ld lg : Addr) (ys : List Addr) (L : List (Int × Int)) : Prop where
  same : Same1 H0 H
  top : H a = some (.tup [.ref ls, .ref le, .ref ld, .ref lg])
  fs : H0 ls = none
  fd : H0 ld = none
  fg : H0 lg = none
  said : H ls = some (.lst ((runS p fuel).m.said.map V.int))
  fin : H le = some (.tup [.str (if (runS p fuel).here = none then "stop" else "long")])
  cnt : H ld = some (.lst ((runS p fuel).cnt.map V.int))
  goes : H lg = some (.lst (ys.map V.ref))
  each : Paired (fun b q => H b = some (.tup [.int q.1, .int q.2, .int (gcount (valV (runS p fuel).goes q))])) ys L
  srt : SrtO.Srtd SrtO.lexB L
  stb : SrtO.Stb SrtO.lexB L ((runS p fuel).goes.map (·.1))
  n1 : ls ≠ ld
  n2 : ls ≠ lg
  n3 : ld ≠ lg
def spRun : Sp := fun vs H Q _ => ∃ (pa : Addr) (p : Prog) (fuel : Nat), vs = [.ref pa, .int (fuel : Int)] ∧ ProgAt H pa p ∧ Good p ∧ fuel ≤ 5000 ∧
  ∀ a ls le ld lg ys L H', Res p fuel H H' a ls le ld lg ys L → Q (.ref a) H'
end DL
namespace DL
open PySem L2 DLR
theorem relI {i : Int} {t : Tok} : RelV (.int i) (.int i t) := ⟨t, rfl⟩
structure Cn (mg : Str → Option Value) where
  tW : Tok
  tR : Tok
  tN : Tok
  mW : mg "MOST_WORTHS" = some (.int 8 tW)
  mR : mg "MOST_ROWS" = some (.int 40 tR)
  mN : mg "MOST_NUMBER" = some (.int 1000000 tN)
structure Cf (mg : Str → Option Value) where
  tF : Tok
  mF : mg "MOST_FUEL" = some (.int 5000 tF)
structure Cd (mg : Str → Option Value) where
  tL : Tok
  tC : Tok
  mL : mg "DESK_LOW" = some (.int (-1000000000) tL)
  mC : mg "DESK_COUNT" = some (.int 2000000000 tC)
abbrev sIsNumber : Stmt := top 15
abbrev sIsBetween : Stmt := top 16
abbrev sPart : Stmt := top 17
abbrev sCheckWorths : Stmt := top 22
abbrev FIsNumber (K : Frg) (mg : Str → Option Value) := Fd K mg "is_number" sIsNumber ["thing"]
abbrev FIsBetween (K : Frg) (mg : Str → Option Value) := Fd K mg "is_between" sIsBetween ["thing", "low", "high"]
abbrev FPart (K : Frg) (mg : Str → Option Value) := Fd K mg "part" sPart ["whole", "at"]
abbrev FCheckWorths (K : Frg) (mg : Str → Option Value) := Fd K mg "check_worths" sCheckWorths ["worths"]
def spNum : Sp := fun vs H Q _ => ∃ i : Int, vs = [.int i] ∧ Q (.bl true) H
def spBetween : Sp := fun vs H Q _ => ∃ i lo hi : Int, vs = [.int i, .int lo, .int hi] ∧ lo ≤ i ∧ i ≤ hi ∧ Q (.bl true) H
def spPart : Sp := fun vs H Q _ => ∃ (a : Addr) (xs : List V) (j : Nat) (v : V), vs = [.ref a, .int (j : Int)] ∧ H a = some (.tup xs) ∧ xs[j]? = some v ∧ Q v H
def spCheckWorths : Sp := fun vs H Q _ => ∃ (a : Addr) (ws : List Int), vs = [.ref a] ∧ H a = some (.tup (ws.map V.int)) ∧ ws.length ≤ 8 ∧ (∀ x ∈ ws, -1000000 ≤ x ∧ x ≤ 1000000) ∧ Q .non H
def spCheckFuel : Sp := fun vs H Q _ => ∃ n : Int, vs = [.int n] ∧ 0 ≤ n ∧ n ≤ 5000 ∧ Q .non H
section
variable {P : Program} {w : World} {K : PySem.W.Frag} {mg : Str → Option Value} {base : Heap}
theorem scIsNumber : FnScope ["thing"] ["thing"] (defScope sIsNumber) := ⟨rfl, rfl, rfl, by decide +kernel, rfl, by decide +kernel, by decide +kernel⟩
theorem ok_isNumber (c : FIsNumber K mg) (T : Bt mg) : FnOk P w K mg base CX0 1 c.f c.fd ["thing"] spNum := by
  refine c.F.ok scIsNumber (fun vs H Q E h => ?_) (fun cdv A outer s H vs Q E hr h => ?_)
  · obtain ⟨n, rfl, _⟩ := h
    rfl
  · obtain ⟨n, rfl, k⟩ := h
    refine ⟨_, (pss_one (ps_ret (pe_and (pe_callB call_isi (by rfl) T.isinstance (by decide +kernel) (pa_cons (pv 0) (pa_cons (pe_bltn (v := .ty "int") (by rfl) T.int (by decide +kernel) rfl) pa_nil))) (pe_one (pe_not (pe_callB call_isi (by rfl) T.isinstance (by decide +kernel) (pa_cons (pv 0) (pa_cons (pe_bltn (v := .ty "bool") (by rfl) T.bool (by decide +kernel) rfl) pa_nil)))))))), ?_⟩
    refine ⟨_, rfl, _, _, _, _, true, rfl, .ty _, .base (.int _), kit_ty (by decide +kernel), _, rfl, ?_⟩
    exact ⟨_, rfl, _, _, _, _, false, rfl, .ty _, .base (.int _), kit_ty (by decide +kernel), _, rfl, k⟩
theorem scIsBetween : FnScope ["thing", "low", "high"] ["thing", "low", "high"] (defScope sIsBetween) := ⟨rfl, rfl, rfl, by decide +kernel, rfl, by decide +kernel, by decide +kernel⟩
theorem ok_isBetween (c : FIsBetween K mg) (cIsNumber : FIsNumber K mg) (T : Bt mg) : FnOk P w K mg base CX0 2 c.f c.fd ["thing", "low", "high"] spBetween := by
  have GIsNumber : FnOk P w K mg base CX0 1 cIsNumber.f cIsNumber.fd ["thing"] spNum := ok_isNumber cIsNumber T
  refine c.F.ok scIsBetween (fun vs H Q E h => ?_) (fun cdv A outer s H vs Q E hr h => ?_)
  · obtain ⟨i, lo, hi, rfl, _⟩ := h
    rfl
  · obtain ⟨i, lo, hi, rfl, h1, h2, k⟩ := h
    refine ⟨_, (pss_one (ps_ret (pe_and (pe_call GIsNumber (hr.mono (by first | omega | decide)) (by rfl) cIsNumber.m cIsNumber.F.kp cIsNumber.b .nil pass0 (pa_cons (pv 0) pa_nil)) (pe_one (pe_chain op_le op_le (pv 1) (pv 0) (pv 2)))))), ?_⟩
    refine ⟨_, rfl, _, rfl, _, rfl, ?_⟩
    refine ⟨_, rfl, _, rfl, _, _, rfl, rfl, _, rfl, ?_⟩
    rw [decide_eq_true h1]
    refine iteT ⟨_, rfl, _, _, rfl, rfl, ?_⟩
    show Q (.bl (decide (i ≤ hi))) H
    rw [decide_eq_true h2]
    exact k
theorem scPart : FnScope ["whole", "at"] ["whole", "at"] (defScope sPart) := ⟨rfl, rfl, rfl, by decide +kernel, rfl, by decide +kernel, by decide +kernel⟩
theorem ok_part (c : FPart K mg) (T : Bt mg) : FnOk P w K mg base CX0 1 c.f c.fd ["whole", "at"] spPart := by
  refine c.F.ok scPart (fun vs H Q E h => ?_) (fun cdv A outer s H vs Q E hr h => ?_)
  · obtain ⟨a, xs, j, v, rfl, _⟩ := h
    rfl
  · obtain ⟨a, xs, j, v, rfl, h1, h2, k⟩ := h
    have hj := (List.getElem?_eq_some_iff.mp h2).1
    refine ⟨_, (pss_cons (ps_if (PW.pt (pw_and (pt_val (pe_callB call_isi (by rfl) T.isinstance (by decide +kernel) (pa_cons (pv 0) (pa_cons (pe_bltn (v := .ty "tuple") (by rfl) T.tuple (by decide +kernel) rfl) pa_nil)))) (pw_and1 (pt_cmpR op_lt (pv 1) (pe_callB call_len_seq (by rfl) T.len PySem.boot_len (pa_cons (pv 0) pa_nil)) (nomark _)))))
          (pss_one (ps_ret (pe_ix ix_tup (pv 0) (pv 1) (fun _ _ => rfl))))
          pss_nil)
      (pss_one (ps_ret pe_non))), ?_⟩
    refine ⟨_, rfl, _, _, _, _, true, rfl, .ty _, .base (.tup h1), kit_ty (by decide +kernel), _, rfl, ?_⟩
    refine ⟨_, rfl, _, rfl, a, _, rfl, .inr (SqT.of h1), _, _, rfl, rfl, _, rfl, ?_⟩
    rw [decide_eq_true (show (j : Int) < (xs.length : Int) by omega)]
    exact iteT ⟨_, rfl, _, rfl, a, _, _, _, rfl, rfl, SqT.of h1, atI_nat h2, k⟩
theorem scCheckWorths : FnScope ["worths", "worth"] ["worths"] (defScope sCheckWorths) := ⟨rfl, rfl, rfl, by decide +kernel, rfl, by decide +kernel, by decide +kernel⟩
theorem ok_checkWorths (c : FCheckWorths K mg) (cIsBetween : FIsBetween K mg) (cIsNumber : FIsNumber K mg) (T : Bt mg) (C : Cn mg) : FnOk P w K mg base CX0 3 c.f c.fd ["worths"] spCheckWorths := by
  have GIsBetween : FnOk P w K mg base CX0 2 cIsBetween.f cIsBetween.fd ["thing", "low", "high"] spBetween := ok_isBetween cIsBetween cIsNumber T
  refine c.F.ok scCheckWorths (fun vs H Q E h => ?_) (fun cdv A outer s H vs Q E hr h => ?_)
  · obtain ⟨a, ws, rfl, _⟩ := h
    rfl
  · obtain ⟨a, ws, rfl, h1, h8, hb, k⟩ := h
    refine ⟨_, (pss_cons (ps_if (PW.pt (pw_or (pt_not (pt_val (pe_callB call_isi (by rfl) T.isinstance (by decide +kernel) (pa_cons (pv 0) (pa_cons (pe_bltn (v := .ty "tuple") (by rfl) T.tuple (by decide +kernel) rfl) pa_nil))))) (pw_or1 (pt_cmpR op_gt (pe_callB call_len_seq (by rfl) T.len PySem.boot_len (pa_cons (pv 0) pa_nil)) (pe_glob rfl C.mW relI) (nomark _)))))
          (pss_one ps_never)
          pss_nil)
      (pss_one (ps_for PassesOwn.never rfl (pi_tup (pv 0)) (pg_name (i := 1) scCheckWorths.nd rfl (Or.inl rfl))
          (pss_one (ps_if (pt_not (pt_val (pe_call GIsBetween (hr.mono (by first | omega | decide)) (by rfl) cIsBetween.m cIsBetween.F.kp cIsBetween.b .nil pass0 (pa_cons (pv 1) (pa_cons (pe_un un_neg (pe_glob rfl C.mN relI)) (pa_cons (pe_glob rfl C.mN relI) pa_nil))))))
              (pss_one ps_never)
              pss_nil))))), ?_⟩
    refine ⟨_, rfl, _, _, _, _, true, rfl, .ty _, .base (.tup h1), kit_ty (by decide +kernel), _, rfl, ?_⟩
    refine ⟨_, rfl, a, _, rfl, .inr (SqT.of h1), _, _, rfl, rfl, _, rfl, ?_⟩
    rw [decide_eq_false (show ¬ (8 : Int) < ((ws.map V.int).length : Int) by rw [List.length_map]; omega)]
    refine iteF ⟨_, rfl, a, rfl, ⟨_, SqT.of h1⟩, for_tup (K := K) (a := a) (xs := ws.map V.int) (fun i σ H' => ∃ x : Option V, σ = [some (.ref a), x] ∧ H' = H) ⟨_, rfl, rfl⟩ (fun i σ H' _ ⟨_, _, e⟩ => by rw [e]; exact SqT.of h1) ?_ ?_⟩
    · rintro i x σ H' hi ⟨y, rfl, rfl⟩
      rw [List.getElem?_map] at hi
      cases hz : ws[i]? with
      | none => rw [hz] at hi; cases hi
      | some z =>
        rw [hz] at hi
        have e : V.int z = x := Option.some.inj hi
        subst e
        obtain ⟨b1, b2⟩ := hb z (List.mem_of_getElem? hz)
        refine ⟨_, rfl, _, rfl, z, _, _, rfl, by omega, by omega, _, rfl, ?_⟩
        exact ⟨_, rfl, rfl⟩
    · rintro σ H' ⟨y, rfl, rfl⟩
      exact k
end
end DL
namespace DL
open PySem L2 DLR
def Row.parts : Row → List Str
  | .say _ => ["next"]
  | .test _ _ => ["next", "next"]
  | .stop => []
  | _ => ["worth", "next"]
theorem Row.parts_len (r : Row) : (rowVs r).length = r.parts.length + 1 := by cases r <;> rfl
structure Pt (K : Frg) (w : World) (mg : Str → Option Value) where
  d : Addr
  es : Array DictEntry
  n : Nat
  m : mg "PARTS" = some (.ref d)
  kd : KDict K w d es n
  at_ : ∀ r : Row, ∃ t, PySem.W.nsIn K d r.word = some (some (.ref t)) ∧ ∀ H, SqT K H t (r.parts.map V.str)
theorem Pt.get {K : Frg} {w : World} {mg : Str → Option Value} (Z : Pt K w mg) (r : Row) : ∃ t, PySem.W.nsIn K Z.d r.word = some (some (.ref t)) ∧ KDct K w Z.d r.word (.ref t) ∧ ∀ H, SqT K H t (r.parts.map V.str) := by
  obtain ⟨t, h1, h2⟩ := Z.at_ r
  exact ⟨t, h1, ⟨_, _, _, Z.kd.at_, Z.kd.lit, h1, rfl⟩, h2⟩
theorem Row.args (r : Row) {i : Nat} (h : i < r.parts.length) : ∃ x : Nat, ((rowVs r).drop 1)[i]? = some (.int (x : Int)) ∧ ∀ {W N : Nat}, r.ok W N →
    (r.parts[i]? = some "worth" ∧ x < W) ∨ (r.parts[i]? = some "next" ∧ x < N) := by
  have hi : i < 2 := by cases r <;> simp [Row.parts] at h <;> omega
  match i, hi with
  | 0, _ =>
    cases r <;> first
      | exact ⟨_, rfl, fun o => .inl ⟨rfl, o.1⟩⟩
      | exact ⟨_, rfl, fun o => .inr ⟨rfl, o⟩⟩
      | exact ⟨_, rfl, fun o => .inr ⟨rfl, o.1⟩⟩
      | (exfalso; simp [Row.parts] at h)
  | 1, _ =>
    cases r <;> first
      | exact ⟨_, rfl, fun o => .inr ⟨rfl, o.2⟩⟩
      | (exfalso; simp [Row.parts] at h)
theorem Row.ints (r : Row) : ∃ ns : List Int, (rowVs r).drop 1 = ns.map V.int ∧ ns.length = r.parts.length := by
  cases r with
  | load a b => exact ⟨[(a : Int), (b : Int)], rfl, rfl⟩
  | add a b => exact ⟨[(a : Int), (b : Int)], rfl, rfl⟩
  | take a b => exact ⟨[(a : Int), (b : Int)], rfl, rfl⟩
  | store a b => exact ⟨[(a : Int), (b : Int)], rfl, rfl⟩
  | say b => exact ⟨[(b : Int)], rfl, rfl⟩
  | test a b => exact ⟨[(a : Int), (b : Int)], rfl, rfl⟩
  | stop => exact ⟨[], rfl, rfl⟩
abbrev sHasShape : Stmt := top 24
abbrev sCheckRow : Stmt := top 23
abbrev sCheckProgram : Stmt := top 21
abbrev FHasShape (K : Frg) (mg : Str → Option Value) := Fd K mg "has_shape" sHasShape ["row"]
abbrev FCheckRow (K : Frg) (mg : Str → Option Value) := Fd K mg "check_row" sCheckRow ["row", "number", "counts"]
abbrev FCheckProgram (K : Frg) (mg : Str → Option Value) := Fd K mg "check_program" sCheckProgram ["program"]
def spHasShape : Sp := fun vs H Q _ => ∃ (a : Addr) (r : Row), vs = [.ref a] ∧ H a = some (.tup (rowVs r)) ∧ ∀ H', Same1 H H' → Q (.bl true) H'
def kWo : Key := .inr "worth"
def kNx : Key := .inr "next"
def spCheckRow : Sp := fun vs H Q _ => ∃ (a c : Addr) (n : Int) (r : Row) (W N : Nat) (kvs : List (Key × V)), vs = [.ref a, .int n, .ref c] ∧ H a = some (.tup (rowVs r)) ∧ r.ok W N ∧
  H c = some (.dK kvs) ∧ valV kvs kWo = some (.int (W : Int)) ∧ valV kvs kNx = some (.int (N : Int)) ∧ ∀ H', Same1 H H' → Q .non H'
def spCheckProgram : Sp := fun vs H Q _ => ∃ (a : Addr) (p : Prog), vs = [.ref a] ∧ ProgAt H a p ∧ Good p ∧ ∀ H', Same1 H H' → Q .non H'
abbrev sUsesWorth : Stmt := top 18
abbrev FUsesWorth (K : Frg) (mg : Str → Option Value) := Fd K mg "uses_worth" sUsesWorth ["row"]
def spUses : Sp := fun vs H Q _ => ∃ (a : Addr) (r : Row), vs = [.ref a] ∧ H a = some (.tup (rowVs r)) ∧ Q (.bl r.uses) H
theorem uses_in (r : Row) : inV (.str "worth") (r.parts.map V.str) = r.uses := by
  cases r <;> (dsimp only [Row.parts, Row.uses, List.map]; decide +kernel)
section
variable {P : Program} {w : World} {K : PySem.W.Frag} {mg : Str → Option Value} {base : Heap}
abbrev nHasShape : List Str := ["row", "word", "thing"]
theorem scHasShape : FnScope nHasShape ["row"] (defScope sHasShape) := ⟨rfl, rfl, rfl, by decide +kernel, rfl, by decide +kernel, by decide +kernel⟩
theorem ok_hasShape (c : FHasShape K mg) (cPart : FPart K mg) (cIsNumber : FIsNumber K mg) (T : Bt mg) (Z : Pt K w mg) : FnOk P w K mg base CX0 2 c.f c.fd ["row"] spHasShape := by
  have GPart : FnOk P w K mg base CX0 1 cPart.f cPart.fd ["whole", "at"] spPart := ok_part cPart T
  have GIsNumber : FnOk P w K mg base CX0 1 cIsNumber.f cIsNumber.fd ["thing"] spNum := ok_isNumber cIsNumber T
  refine c.F.ok scHasShape (fun vs H Q E h => ?_) (fun cdv A outer s H vs Q E hr h => ?_)
  · obtain ⟨a, r, rfl, _⟩ := h
    rfl
  · obtain ⟨a, r, rfl, ha, k⟩ := h
    obtain ⟨t, z1, z2, z3⟩ := Z.get r
    obtain ⟨ns, n1, n2⟩ := Row.ints r
    have rl := Row.vs_len r
    refine ⟨_, (pss_cons (ps_set (i := 1) scHasShape.nd rfl (Or.inl rfl) (pe_call GPart (hr.mono (by first | omega | decide)) (by rfl) cPart.m cPart.F.kp cPart.b .nil pass0 (pa_cons (pv 0) (pa_cons pe_int pa_nil))))
      (pss_cons (ps_if (PW.pt (pw_or (pt_not (pt_val (pe_callB call_isi (by rfl) T.isinstance (by decide +kernel) (pa_cons (pv 1) (pa_cons (pe_bltn (v := .ty "str") (by rfl) T.str (by decide +kernel) rfl) pa_nil))))) (pw_or1 (pt_cmpR (op_notIn_kd Z.kd) (pv 1) (pe_glob (v := .ref Z.d) rfl Z.m rfl) rfl))))
          (pss_one (ps_ret pe_bl))
          pss_nil)
      (pss_one (ps_ret (pe_and (pe_cmpR op_eq (pe_callB call_len_seq (by rfl) T.len PySem.boot_len (pa_cons (pv 0) pa_nil)) (pe_op op_add (pe_callB call_len_seq (by rfl) T.len PySem.boot_len (pa_cons (pe_ix ix_kdict (pe_glob (v := .ref Z.d) rfl Z.m rfl) (pv 1) (fun _ _ => rfl)) pa_nil)) pe_int) (nomark _)) (pe_one (pe_callB (cr_all rfl) (by rfl) T.all (by decide +kernel) (pa_cons (pe_lc (own := [("thing", 2)]) (g := gName 2) (tt := tYes) rfl scHasShape.nd (pi_tup (pe_slice sl_tupS (pv 0) (po_some pe_int) po_none)) (blkOk_by (N := nHasShape) (sc := defScope sHasShape) (by decide +kernel)) (fun _ _ _ _ _ => (pg_name (i := 2) scHasShape.nd rfl (Or.inl rfl))) (fun _ _ _ _ _ => pts_nil) (fun _ _ _ _ _ => (pe_call GIsNumber (hr.mono (by first | omega | decide)) (by rfl) cIsNumber.m cIsNumber.F.kp cIsNumber.b .nil pass0 (pa_cons (pv 2) pa_nil)))) pa_nil)))))))), ?_⟩
    refine ⟨_, rfl, a, _, 0, _, rfl, ha, Row.w0 r, ?_⟩
    refine ⟨_, rfl, _, _, _, _, true, rfl, .ty _, .base (.str _), kit_ty (by decide +kernel), _, rfl, ?_⟩
    refine ⟨_, rfl, _, _, rfl, rfl, z1, _, rfl, ?_⟩
    refine ⟨_, rfl, a, _, rfl, .inr (SqT.of ha), _, rfl, Z.d, _, _, rfl, rfl, z2, t, _, rfl, .inr (z3 H), _, _, rfl, rfl, rfl, _, rfl, ?_⟩
    rw [List.length_map, Row.parts_len, decide_eq_true (show V.int ((r.parts.length + 1 : Nat) : Int) = V.int ((r.parts.length : Int) + 1) from rfl)]
    refine iteT ⟨_, rfl, _, rfl, a, _, rfl, ha, fun t2 H2 s2 e2 => ?_⟩
    rw [drop1, n1] at e2
    refine ⟨t2, rfl, ⟨_, SqT.of e2⟩, fun D hD => ?_⟩
    refine lc_tup (K := K) (a := t2) (xs := ns.map V.int) (fun i H' => H' D = some (.lst ((List.replicate i true).map V.bl)) ∧ Same1 H2 H') ⟨upd_same, Same.new hD⟩ (fun i H' _ ⟨_, q⟩ => SqT.of (q _ _ e2)) ?_ ?_
    · rintro i x H3 hi ⟨hd, s3⟩
      have hin : i < ns.length := by
        have q := (List.getElem?_eq_some_iff.mp hi).1
        rwa [List.length_map] at q
      obtain ⟨z, rfl⟩ : ∃ z, x = V.int z := by
        rw [List.getElem?_map, List.getElem?_eq_getElem hin] at hi
        exact ⟨_, (Option.some.inj hi).symm⟩
      refine ⟨rfl, _, rfl, z, rfl, _, hd, szl (by rw [List.length_map, List.length_replicate]; rw [n2] at hin; have := Row.parts_len r; omega), ?_, Same.mut s3 hD⟩
      rw [upd_same, List.replicate_succ', List.map_append]
      rfl
    · rintro H3 ⟨hd, s3⟩
      refine ⟨D, _, rfl, SqL.of hd, ?_⟩
      rw [show (List.replicate (ns.map V.int).length true).all id = true by rw [List.all_eq_true]; intro x hx; rw [List.eq_of_mem_replicate hx]; rfl]
      exact k _ (s2.trans s3)
abbrev nCheckRow : List Str := ["row", "number", "counts", "name", "thing"]
theorem scCheckRow : FnScope nCheckRow ["row", "number", "counts"] (defScope sCheckRow) := ⟨rfl, rfl, rfl, by decide +kernel, rfl, by decide +kernel, by decide +kernel⟩
theorem ok_checkRow (c : FCheckRow K mg) (cHasShape : FHasShape K mg) (cPart : FPart K mg) (cIsNumber : FIsNumber K mg) (T : Bt mg) (Z : Pt K w mg) : FnOk P w K mg base CX0 3 c.f c.fd ["row", "number", "counts"] spCheckRow := by
  have GHasShape : FnOk P w K mg base CX0 2 cHasShape.f cHasShape.fd ["row"] spHasShape := ok_hasShape cHasShape cPart cIsNumber T Z
  refine c.F.ok scCheckRow (fun vs H Q E h => ?_) (fun cdv A outer s H vs Q E hr h => ?_)
  · obtain ⟨a, c, n, r, W, N, kvs, rfl, _⟩ := h
    rfl
  · obtain ⟨a, c, n, r, W, N, kvs, rfl, ha, ho, hc, hW, hN, k⟩ := h
    obtain ⟨t, z1, z2, z3⟩ := Z.get r
    refine ⟨_, (pss_cons (ps_if (pt_not (pt_val (pe_call GHasShape (hr.mono (by first | omega | decide)) (by rfl) cHasShape.m cHasShape.F.kp cHasShape.b .nil pass0 (pa_cons (pv 0) pa_nil))))
          (pss_one ps_never)
          pss_nil)
      (pss_one (ps_for PassesOwn.never rfl (RZ.pi_zipA (by rfl) T.zip (pa_cons (pe_ix ix_kdict (pe_glob (v := .ref Z.d) rfl Z.m rfl) (pe_ix ix_tup (pv 0) pe_int (fun _ _ => rfl)) (fun _ _ => rfl)) (pa_cons (pe_slice sl_tupS (pv 0) (po_some pe_int) po_none) pa_nil))) (pg_tup rfl (pgs_cons (pg_name (i := 3) scCheckRow.nd rfl (Or.inl rfl)) (pgs_cons (pg_name (i := 4) scCheckRow.nd rfl (Or.inl rfl)) pgs_nil)))
          (pss_one (ps_if (pt_not (pt_chain op_le op_lt pe_int (pv 4) (pe_dget (hu_of hr) (pv 2) (pv 3) (fun _ _ => rfl))))
              (pss_one ps_never)
              pss_nil))))), ?_⟩
    refine ⟨_, rfl, a, r, rfl, ha, fun H1 s1 => ⟨_, rfl, ?_⟩⟩
    have ha1 := s1 _ _ ha
    refine ⟨_, rfl, a, _, _, _, rfl, rfl, SqT.of ha1, atI_nat (j := 0) (Row.w0 r), Z.d, _, _, rfl, rfl, z2, _, rfl, _, rfl, a, _, rfl, ha1, fun t2 H2 s2 e2 => ?_⟩
    rw [drop1] at e2
    have hl : (r.parts.map V.str).length = ((rowVs r).drop 1).length := by
      rw [List.length_map, List.length_drop, Row.parts_len]
      omega
    have S2 := s1.trans s2
    refine ⟨t, t2, _, _, rfl, .inr ⟨z3 H2, SqT.of e2, RZ.for_zipT hl (fun i σ H' => ∃ x3 x4 : Option V, σ = [some (.ref a), some (.int n), some (.ref c), x3, x4] ∧ Same1 H2 H') ⟨none, none, rfl, Same.refl _⟩
      (fun i σ H' ⟨_, _, _, q⟩ => ⟨z3 H', SqT.of (q _ _ e2)⟩) ?_ ?_⟩⟩
    · rintro i x y T' σ H3 hx hy ⟨x3, x4, rfl, s3⟩ hT'
      have hi : i < r.parts.length := by
        have q := (List.getElem?_eq_some_iff.mp hx).1
        rwa [List.length_map] at q
      obtain ⟨z, g1, g2⟩ := Row.args r hi
      have ey : y = .int (z : Int) := by
        rw [hy] at g1
        exact Option.some.inj g1
      subst ey
      have hc3 := (S2.trans s3) _ _ hc
      refine alloc hT' fun H4 s4 e4 => ?_
      have hc4 := s4 _ _ hc3
      refine ⟨T', _, rfl, SqT.of e4, rfl, _, _, rfl, _, _, rfl, rfl, ?_⟩
      refine ⟨_, rfl, _, _, rfl, rfl, _, rfl, ?_⟩
      rw [decide_eq_true (show (0 : Int) ≤ (z : Int) by omega)]
      rw [List.getElem?_map] at hx
      rcases g2 ho with ⟨q1, q2⟩ | ⟨q1, q2⟩
      · rw [q1] at hx
        have ex : V.str "worth" = x := Option.some.inj hx
        subst ex
        refine iteT ⟨_, rfl, _, rfl, c, _, rfl, dget (k := kWo) hc4 hW, _, _, rfl, rfl, _, rfl, ?_⟩
        rw [decide_eq_true (show (z : Int) < (W : Int) by omega)]
        exact ⟨_, _, rfl, s3.trans s4⟩
      · rw [q1] at hx
        have ex : V.str "next" = x := Option.some.inj hx
        subst ex
        refine iteT ⟨_, rfl, _, rfl, c, _, rfl, dget (k := kNx) hc4 hN, _, _, rfl, rfl, _, rfl, ?_⟩
        rw [decide_eq_true (show (z : Int) < (N : Int) by omega)]
        exact ⟨_, _, rfl, s3.trans s4⟩
    · rintro σ H3 ⟨x3, x4, rfl, s3⟩
      exact k _ (S2.trans s3)
theorem k_WN : kWo ≠ kNx := by decide +kernel
abbrev nCheckProgram : List Str := ["program", "rows", "number", "row"]
theorem scCheckProgram : FnScope nCheckProgram ["program"] (defScope sCheckProgram) := ⟨rfl, rfl, rfl, by decide +kernel, rfl, by decide +kernel, by decide +kernel⟩
theorem ok_checkProgram (c : FCheckProgram K mg) (cCheckRow : FCheckRow K mg) (cCheckWorths : FCheckWorths K mg) (cHasShape : FHasShape K mg) (cPart : FPart K mg) (cIsBetween : FIsBetween K mg) (cIsNumber : FIsNumber K mg) (T : Bt mg) (C : Cn mg) (Z : Pt K w mg) : FnOk P w K mg base CX0 4 c.f c.fd ["program"] spCheckProgram := by
  have GCheckRow : FnOk P w K mg base CX0 3 cCheckRow.f cCheckRow.fd ["row", "number", "counts"] spCheckRow := ok_checkRow cCheckRow cHasShape cPart cIsNumber T Z
  have GCheckWorths : FnOk P w K mg base CX0 3 cCheckWorths.f cCheckWorths.fd ["worths"] spCheckWorths := ok_checkWorths cCheckWorths cIsBetween cIsNumber T C
  have GPart : FnOk P w K mg base CX0 1 cPart.f cPart.fd ["whole", "at"] spPart := ok_part cPart T
  refine c.F.ok scCheckProgram (fun vs H Q E h => ?_) (fun cdv A outer s H vs Q E hr h => ?_)
  · obtain ⟨a, p, rfl, _⟩ := h
    rfl
  · obtain ⟨a, p, rfl, ⟨wa, ra, bs, ha, hwa, hra, hR⟩, g, k⟩ := h
    have hbr := Paired.length hR
    have hR40 := g.r40
    have hR1 := g.r1
    refine ⟨_, (pss_cons (ps_expr (pe_call GCheckWorths (hr.mono (by first | omega | decide)) (by rfl) cCheckWorths.m cCheckWorths.F.kp cCheckWorths.b .nil pass0 (pa_cons (pe_call GPart (hr.mono (by first | omega | decide)) (by rfl) cPart.m cPart.F.kp cPart.b .nil pass0 (pa_cons (pv 0) (pa_cons pe_int pa_nil))) pa_nil)))
      (pss_cons (ps_set (i := 1) scCheckProgram.nd rfl (Or.inl rfl) (pe_call GPart (hr.mono (by first | omega | decide)) (by rfl) cPart.m cPart.F.kp cPart.b .nil pass0 (pa_cons (pv 0) (pa_cons pe_int pa_nil))))
      (pss_cons (ps_if (PW.pt (pw_or (pt_not (pt_val (pe_callB call_isi (by rfl) T.isinstance (by decide +kernel) (pa_cons (pv 1) (pa_cons (pe_bltn (v := .ty "tuple") (by rfl) T.tuple (by decide +kernel) rfl) pa_nil))))) (pw_or (pt_cmpR op_ne (pe_callB call_len_seq (by rfl) T.len PySem.boot_len (pa_cons (pv 0) pa_nil)) pe_int (nomark _)) (pw_or1 (pt_not (pt_chain op_le op_le pe_int (pe_callB call_len_seq (by rfl) T.len PySem.boot_len (pa_cons (pv 1) pa_nil)) (pe_glob rfl C.mR relI)))))))
          (pss_one ps_never)
          pss_nil)
      (pss_one (ps_for PassesOwn.never rfl (pi_enumT (by rfl) T.enumerate (pa_cons (pv 1) pa_nil)) (pg_tup rfl (pgs_cons (pg_name (i := 2) scCheckProgram.nd rfl (Or.inl rfl)) (pgs_cons (pg_name (i := 3) scCheckProgram.nd rfl (Or.inl rfl)) pgs_nil)))
          (pss_one (ps_expr (pe_call GCheckRow (hr.mono (by first | omega | decide)) (by rfl) cCheckRow.m cCheckRow.F.kp cCheckRow.b .nil pass0 (pa_cons (pv 3) (pa_cons (pv 2) (pa_cons (pe_disp (pps_cons pe_str (pe_callB call_len_seq (by rfl) T.len PySem.boot_len (pa_cons (pe_ix ix_tup (pv 0) pe_int (fun _ _ => rfl)) pa_nil)) (pps_cons pe_str (pe_callB call_len_seq (by rfl) T.len PySem.boot_len (pa_cons (pv 1) pa_nil)) pps_nil)) (by rfl) (by rfl) (fun z => by cases z) (by decide)) pa_nil))))))))))), ?_⟩
    refine ⟨_, rfl, a, _, 0, _, rfl, ha, rfl, wa, p.ws, rfl, hwa, g.w8, g.num, ?_⟩
    refine ⟨_, rfl, a, _, 1, _, rfl, ha, rfl, ?_⟩
    refine ⟨_, rfl, _, _, _, _, true, rfl, .ty _, .base (.tup hra), kit_ty (by decide +kernel), _, rfl, ?_⟩
    refine ⟨_, rfl, a, _, rfl, .inr (SqT.of ha), rfl, _, rfl, ?_⟩
    rw [decide_eq_true (show V.int ((([V.ref wa, V.ref ra] : List V).length : Nat) : Int) = V.int 2 from rfl)]
    refine iteF ⟨_, rfl, ra, _, rfl, .inr (SqT.of hra), _, _, rfl, rfl, _, rfl, ?_⟩
    rw [List.length_map, hbr, decide_eq_true (show (1 : Int) ≤ (p.rows.length : Int) by omega)]
    refine iteT ⟨_, _, rfl, rfl, _, rfl, ?_⟩
    rw [decide_eq_true (show (p.rows.length : Int) ≤ 40 by omega)]
    refine iteF ?_
    refine ⟨_, rfl, ra, _, rfl, SqT.of hra, for_enumT (K := K) (a := ra) (xs := bs.map V.ref) (fun i σ H' => ∃ x2 x3 : Option V, σ = [some (.ref a), some (.ref ra), x2, x3] ∧ Same1 H H') ⟨none, none, rfl, Same.refl _⟩
      (fun i σ H' ⟨_, _, _, q⟩ => SqT.of (q _ _ hra)) ?_ ?_⟩
    · rintro i x T' σ H1 hi ⟨x2, x3, rfl, s1⟩ hT'
      have hiR : i < p.rows.length := by
        have q := (List.getElem?_eq_some_iff.mp hi).1
        rwa [List.length_map, hbr] at q
      have hr1 : p.rows[i]? = some p.rows[i] := List.getElem?_eq_getElem hiR
      obtain ⟨b, hb1, hb2⟩ := Paired.getR hR hr1
      have ex : x = V.ref b := by
        rw [List.getElem?_map, hb1] at hi
        exact (Option.some.inj hi).symm
      subst ex
      refine alloc hT' fun H2 s2 e2 => ?_
      have S2 := s1.trans s2
      refine ⟨T', _, rfl, SqT.of e2, rfl, _, _, rfl, _, _, rfl, rfl, ?_⟩
      refine ⟨_, rfl, _, rfl, fun c1 hc1 => ?_⟩
      refine alloc hc1 fun H3 s3 e3 => ?_
      have S3 := S2.trans s3
      refine ⟨_, rfl, a, _, _, _, rfl, rfl, SqT.of (S3 _ _ ha), at0, wa, _, rfl, .inr (SqT.of (S3 _ _ hwa)), _, rfl, ra, _, rfl, .inr (SqT.of (S3 _ _ hra)), e3,
        [(kWo, .int (((p.ws.map V.int).length : Nat) : Int)), (kNx, .int (((bs.map V.ref).length : Nat) : Int))], rfl, (by show 2 ≤ 15; decide), ?_⟩
      have em : mergeK [] [(kWo, .int (((p.ws.map V.int).length : Nat) : Int)), (kNx, .int (((bs.map V.ref).length : Nat) : Int))] = putK (putK [] kWo (.int (p.ws.length : Int))) kNx (.int (p.rows.length : Int)) := by
        rw [List.length_map, List.length_map, hbr]
        rfl
      rw [em]
      have S4 : Same1 H (upd H3 c1 (.dK (putK (putK [] kWo (.int (p.ws.length : Int))) kNx (.int (p.rows.length : Int))))) := Same.mut S3 (S2.free hc1)
      refine ⟨b, c1, _, p.rows[i], p.ws.length, p.rows.length, putK (putK [] kWo (.int (p.ws.length : Int))) kNx (.int (p.rows.length : Int)), rfl, S4 _ _ hb2, g.ok _ (List.getElem_mem hiR), upd_same, ?_, ?_, fun H5 s5 => ⟨_, _, rfl, S4.trans s5⟩⟩
      · rw [valV_put, if_neg k_WN, valV_put, if_pos rfl]
      · rw [valV_put, if_pos rfl]
    · rintro σ H1 ⟨x2, x3, rfl, s1⟩
      exact k _ s1
theorem scUsesWorth : FnScope ["row"] ["row"] (defScope sUsesWorth) := ⟨rfl, rfl, rfl, by decide +kernel, rfl, by decide +kernel, by decide +kernel⟩
theorem ok_usesWorth (c : FUsesWorth K mg) (Z : Pt K w mg) : FnOk P w K mg base CX0 1 c.f c.fd ["row"] spUses := by
  refine c.F.ok scUsesWorth (fun vs H Q E h => ?_) (fun cdv A outer s H vs Q E hr h => ?_)
  · obtain ⟨a, r, rfl, _⟩ := h
    rfl
  · obtain ⟨a, r, rfl, ha, k⟩ := h
    obtain ⟨t, z1, z2, z3⟩ := Z.get r
    refine ⟨_, (pss_one (ps_ret (pe_cmpR op_in_seq pe_str (pe_ix ix_kdict (pe_glob (v := .ref Z.d) rfl Z.m rfl) (pe_ix ix_tup (pv 0) pe_int (fun _ _ => rfl)) (fun _ _ => rfl)) rfl))), ?_⟩
    refine ⟨_, rfl, a, _, _, _, rfl, rfl, SqT.of ha, atI_nat (j := 0) (Row.w0 r), Z.d, _, _, rfl, rfl, z2, t, _, rfl, .inr (z3 H), rfl, ?_, ?_⟩
    · rw [List.all_eq_true]
      intro x hx
      obtain ⟨y, _, rfl⟩ := List.mem_map.mp hx
      rfl
    · show Q (.bl (inV (.str "worth") (r.parts.map V.str))) H
      rw [uses_in]
      exact k
end
end DL
namespace DLR
open PySem PySem.Spec PyProof.Rows L2
/-! ### set(xs) of a list or a tuple of whole numbers; its rules over the layer -/
def newSet (w : World) : Obj := { cls := .type "set", dict := none, data := .set #[] 0 (.fresh 0 0 (!w.params.followText "set-order")) }
def SetMade (w : World) (s : Shared) (ns : List Int) (v : Value) (s2 : Shared) : Prop := v = .none ∧ ∃ (h2 : Heap) (tk c : Nat), s2 = { s with heap := h2, toks := tk } ∧ SetR w h2 s.heap.objs.size (fun j => decide (j ∈ ns)) c ∧ c ≤ ns.length ∧ ∀ b o, s.heap.get? b = some o → h2.get? b = some o
section
variable {P : Program} {w : World} {A : Around} {E : Value → Shared → Prop} {s : Shared}
set_option maxHeartbeats 3200000 in
theorem set_of_list {l : Addr} {items : Array Value} (ns : List Int) {Q : Value → Shared → Prop} (hh : A.handled = none) (hl : s.heap.IsList l items) (hit : IntsAre items.toList ns) (room : ns.length + 1 < scanBound)
    (k : ∀ (h2 : Heap) (tk c : Nat), SetR w h2 s.heap.objs.size (fun j => decide (j ∈ ns)) c → c ≤ ns.length → (∀ b o, s.heap.get? b = some o → h2.get? b = some o) → Q (.ref s.heap.objs.size) { s with heap := h2, toks := tk }) :
    wpAny (model P w) A (call (.type "set") [.ref l]) Q E s := by
  have size_eq : items.size = ns.length := by simpa using IntsAre.length hit
  obtain ⟨_, _, mro⟩ := F.called_set.mro
  have made := F.called_set.made
  have sub := F.called_set.sub
  have nt := F.called_set.notType
  have cc := F.called_set.canCreate
  have tc := F.typeCall_set_1 (.ref l)
  refine wpAny_call (codeAny_of_tree (show wpAny _ _ (callAny (.type "set") _) _ _ _ from wpAny_pure ⟨Code.quiet_builtin _ (by decide +kernel), codeAny_builtin F.entry_type_call ?_⟩))
  rw [Around.under_plain (weight_type_call_type "set" [.ref l] []) rfl]
  repeat (any_goals (first | assumption | wp_step))

  refine codeAny_mono (code_set_led1 (.ref l) (E := E) (Q₁ := fun o s1 => o = .ref s.heap.objs.size ∧ s1 = { s with heap := s.heap.push (newSet w) }) ⟨rfl, rfl⟩) fun r s1 hr => ?_
  match r, hr with
  | .error e, hr => exact hr
  | .ok (.ret o), hr =>
    obtain ⟨rfl, rfl⟩ := hr
    have at0 : (s.heap.push (newSet w)).get? s.heap.objs.size = some (newSet w) := Heap.get?_push_size _ rfl
    have ty : Shared.TypeIs { s with heap := s.heap.push (newSet w) } (.ref s.heap.objs.size) "set" := ⟨_, at0, rfl⟩
    have il := F.called_set.init.lookup
    have ib := F.called_set.init.bind (.ref s.heap.objs.size)
    repeat (any_goals (first | assumption | wp_step))

    refine codeAny_mono (codeAny_call_builtin (R := wants (SetMade w s ns) E) F.called_set.init.plain F.entry_set_init (check_set_init_1 ty ?_)) fun r2 s2 hr2 => ?_
    · obtain ⟨ol, hol, rfl', nl, hdl⟩ := hl
      obtain ⟨cls0, dict0, data0, slots0⟩ := ol
      dsimp only at rfl' hdl
      subst rfl' hdl
      have ol2 : (s.heap.push (newSet w)).get? l = some { cls := .type "list", dict := dict0, data := .seq items nl, slots := slots0 } := Heap.get?_push_of_some _ hol
      have s_ls := F.sub_list_set
      have s_lf := F.sub_list_frozenset
      have ne_d : (Value.type "list" == Value.type "dict") = false := by decide
      have isl : (s.heap.push (newSet w)).IsList l items := ⟨_, ol2, rfl, nl, rfl⟩
      unfold Builtin.«set.__init__» noKeywords Builtin.Frozenset.updateFrom
      generalize hPI : pyIter = PI
      wp_walk
      subst hPI

      refine wpAny_pyIter_list isl (wpAny_bind (wpAny_runValue ?_))
      have low : l < s.heap.objs.size := Heap.lt_size hol
      have h_in : A.in1.in1.in1.handled = none := by simp [hh]
      have sz1 : (s.heap.push (newSet w)).objs.size = s.heap.objs.size + 1 := Heap.size_push ..
      have neI : l ≠ (s.heap.push (newSet w)).objs.size := Nat.ne_of_lt (by rw [sz1]; exact Nat.lt_succ_of_lt low)
      have out0 : s.heap.objs.size ∉ [(s.heap.push (newSet w)).objs.size, l] := fun q => by
        rcases List.mem_cons.mp q with e | e
        · exact Nat.ne_of_lt (by rw [sz1]; exact Nat.lt_succ_self _) e
        · exact Nat.ne_of_gt low (List.mem_singleton.mp e)
      have vals : ∀ (i : Nat) (v : Value), items[i]? = some v → ∃ k t, ns[i]? = some k ∧ v = .int k t := fun i v hv => by
        have lt : i < ns.length := size_eq ▸ (Array.getElem?_eq_some_iff.mp hv).1
        obtain ⟨t, e⟩ := IntsAre.int_at hit i v (by rw [Array.getElem?_toList]; exact hv)
        refine ⟨ns[i], t, List.getElem?_eq_getElem lt, e.trans ?_⟩
        rw [List.getD_eq_getElem?_getD, List.getElem?_eq_getElem lt]
        rfl
      refine set_update_ints ((Walks.list h_in _ l neI items).toS) s.heap.objs.size out0 ns size_eq room vals (items.size - 0) 0 _ (by omega) (Nat.zero_le _) ⟨⟨_, Heap.get?_push_size _ rfl, rfl, rfl⟩, isl.push _⟩ ⟨0, Nat.le_refl 0, setR_new_at (Heap.get?_push_of_some _ at0)⟩ ?_
      intro s3 c3 mv hc3 set3
      have g3 := mv.gens
      have d3 := mv.drawn
      have o3 := mv.os
      have m3 := mv.heap
      obtain ⟨hp3, gs3, dr3, tk3, os3⟩ := s3
      have g3 : gs3 = s.gens := g3
      have d3 : dr3 = s.drawn := d3
      have o3 : os3 = s.os := o3
      subst g3 d3 o3
      refine show wpAny _ _ _ _ _ _ from wpAny_pure (show wpAny _ _ (ret Value.none) _ _ _ from wpAny_pure ⟨rfl, hp3, tk3, c3, rfl, set3, size_eq ▸ hc3, fun b o e => ?_⟩)
      have b0 : b < s.heap.objs.size := Heap.lt_size e
      refine m3 b o (fun q => ?_) (Heap.get?_push_of_some _ (Heap.get?_push_of_some _ e))
      rcases List.mem_cons.mp q with e2 | e2
      · exact Nat.ne_of_lt b0 e2
      · exact Nat.ne_of_lt (by rw [sz1]; exact Nat.lt_succ_of_lt b0) (List.mem_singleton.mp e2)
    · match r2, hr2 with
      | .error e, q => exact q
      | .ok (.ret v), q =>
        obtain ⟨rfl, h2, tk, c, rfl, q1, q2, q3⟩ := q
        repeat (any_goals (first | assumption | wp_step))
        exact k _ _ _ q1 q2 q3
      | .ok .next, q => exact q.elim
      | .ok .brk, q => exact q.elim
      | .ok .cont, q => exact q.elim
  | .ok .next, hr => exact hr.elim
  | .ok .brk, hr => exact hr.elim
  | .ok .cont, hr => exact hr.elim
end
end DLR
namespace DLR
open PySem PySem.Spec PyProof.Rows L2
def rSetL (K : PySem.W.Frag) (w : World) : List V → Hp → VK → Prop := fun vs H Q => ∃ (l : Addr) (ns : List Int), vs = [V.ref l] ∧ SqL K H l (ns.map V.int) ∧ ns.length < 60 ∧
  ∀ p c, c ≤ ns.length → H p = none → Q (.ref p) (upd H p (SetO w p (fun j => decide (j ∈ ns)) c))
def rSetT (K : PySem.W.Frag) (w : World) : List V → Hp → VK → Prop := fun vs H Q => ∃ (l : Addr) (ns : List Int), vs = [V.ref l] ∧ SqT K H l (ns.map V.int) ∧ ns.length < 60 ∧
  ∀ p c, c ≤ ns.length → H p = none → Q (.ref p) (upd H p (SetO w p (fun j => decide (j ∈ ns)) c))
theorem scan60 {n : Nat} (h : n < 60) : n + 1 < scanBound := Nat.lt_of_lt_of_le (Nat.succ_lt_succ h) (by decide)
section
variable {X : Cx}
theorem cr_setL (hc : X.calm = true) : CallR X (.type "set") (rSetL X.K X.w) := by
  intro pins s σ H vs us Q I r h
  obtain ⟨l, ns, rfl, hs, hb, q⟩ := h
  rw [Vals.ref1 r]
  obtain ⟨its, rv, pl, hz⟩ := I.list hs
  refine set_of_list ns (I.ok.hd hc) pl.isList (by simpa using rv.ints) (scan60 hb) fun h2 tk c R hc2 k => ?_
  exact ⟨.ref s.heap.objs.size, _, I.laid (t' := tk) k (Nat.le_refl _) (setO_new R), rfl, q _ c hc2 (I.hok.fresh (Nat.le_refl _))⟩
theorem cr_setT (hc : X.calm = true) : CallR X (.type "set") (rSetT X.K X.w) := by
  intro pins s σ H vs us Q I r h
  obtain ⟨l, ns, rfl, hs, hb, q⟩ := h
  rw [Vals.ref1 r]
  obtain ⟨its, rv, ⟨o, ho, hcl, n, hd⟩, _⟩ := I.tuple hs
  refine call_set_tupI (items := its.toArray) ns (I.ok.hd hc) ⟨o, ho, hcl, n, hd⟩ (by simpa using rv.ints) (scan60 hb) fun h2 tk c R hc2 k => ?_
  exact ⟨.ref s.heap.objs.size, _, I.laid (t' := tk) k (Nat.le_refl _) (setO_new R), rfl, q _ c hc2 (I.hok.fresh (Nat.le_refl _))⟩
end
theorem rise_uniq : ∀ {l m : List Int}, l.Pairwise (· < ·) → m.Pairwise (· < ·) → (∀ x, x ∈ l ↔ x ∈ m) → l = m
  | [], [], _, _, _ => rfl
  | [], y :: m, _, _, h => absurd ((h y).mpr List.mem_cons_self) (by simp)
  | x :: l, [], _, _, h => absurd ((h x).mp List.mem_cons_self) (by simp)
  | x :: l, y :: m, hl, hm, h => by
    have h1 := List.pairwise_cons.mp hl
    have h2 := List.pairwise_cons.mp hm
    have e : x = y := by
      have a := (h x).mp List.mem_cons_self
      have b := (h y).mpr List.mem_cons_self
      rcases List.mem_cons.mp a with e | e
      · exact e
      · rcases List.mem_cons.mp b with e2 | e2
        · exact e2.symm
        · have := h2.1 x e
          have := h1.1 y e2
          omega
    subst e
    rw [rise_uniq h1.2 h2.2 fun z => ⟨fun hz => ?_, fun hz => ?_⟩]
    · rcases List.mem_cons.mp ((h z).mp (List.mem_cons_of_mem _ hz)) with e | e
      · have := h1.1 z hz
        omega
      · exact e
    · rcases List.mem_cons.mp ((h z).mpr (List.mem_cons_of_mem _ hz)) with e | e
      · have := h2.1 z hz
        omega
      · exact e
end DLR
namespace DL
open PySem L2 DLR
/-! ### layings -/
structure Lay where
  wide : Nat
  places : List Nat
  homes : List (List Nat)
abbrev HomesAt (H : Hp) (bs : List Addr) (hs : List (List Nat)) : Prop := Paired (fun b h => H b = some (.tup (h.map nI))) bs hs
def LayAt (H : Hp) (a : Addr) (y : Lay) : Prop :=
  ∃ (pa ha : Addr) (bs : List Addr), H a = some (.tup [nI y.wide, .ref pa, .ref ha]) ∧ H pa = some (.tup (y.places.map nI)) ∧ H ha = some (.tup (bs.map V.ref)) ∧ HomesAt H bs y.homes
theorem HomesAt.kp {H H' : Hp} {bs : List Addr} {hs : List (List Nat)} (h : HomesAt H bs hs) (k : Kp H H') : HomesAt H' bs hs := Paired.mapP h fun b x e => k _ _ e
theorem LayAt.kp {H H' : Hp} {a : Addr} {y : Lay} (h : LayAt H a y) (k : Kp H H') : LayAt H' a y := by
  obtain ⟨pa, ha, bs, h1, h2, h3, h4⟩ := h
  exact ⟨pa, ha, bs, k _ _ h1, k _ _ h2, k _ _ h3, h4.kp k⟩
structure HomeOk (wide : Nat) (h : List Nat) : Prop where
  l1 : 1 ≤ h.length
  l3 : h.length ≤ 3
  up : h.Pairwise (· < ·)
  lt : ∀ x ∈ h, x < wide
structure LayOk (p : Prog) (y : Lay) : Prop where
  w2 : 2 ≤ y.wide
  w24 : y.wide ≤ 24
  pl : y.places.length = p.rows.length
  pok : ∀ x ∈ y.places, x < y.wide
  hl : y.homes.length = p.ws.length
  hok : ∀ h ∈ y.homes, HomeOk y.wide h
structure Bs (mg : Str → Option Value) : Prop where
  set : mg "set" = none
theorem rise_nat {ns : List Int} (h0 : ∀ x ∈ ns, 0 ≤ x) (up : ns.Pairwise (· < ·)) : ∃ h : List Nat, ns.map V.int = h.map nI ∧ h.length = ns.length ∧ h.Pairwise (· < ·) ∧ (∀ x ∈ h, (x : Int) ∈ ns) := by
  refine ⟨ns.map Int.toNat, ?_, List.length_map _, ?_, fun x hx => ?_⟩
  · rw [List.map_map]
    refine List.map_congr_left fun x hx => ?_
    show V.int x = V.int ((x.toNat : Nat) : Int)
    rw [Int.toNat_of_nonneg (h0 x hx)]
  · rw [List.pairwise_map]
    refine up.imp_of_mem fun {a b} ha hb h => ?_
    have := h0 a ha
    have := h0 b hb
    omega
  · obtain ⟨z, hz, rfl⟩ := List.mem_map.mp hx
    rw [Int.toNat_of_nonneg (h0 z hz)]
    exact hz
abbrev sLaying : Stmt := top 59
abbrev pLaying : List Str := ["_law_d", "_law_program", "_law_most"]
abbrev nLaying : List Str := ["_law_d", "_law_program", "_law_most", "_law_wide", "_law_places", "_law_homes", "_law_worth", "_law_some", "_law_row", "_law_k"]
abbrev FLaying (K : Frg) (mg : Str → Option Value) := Fd K mg "_law_laying" sLaying pLaying
def spLaying (K : Frg) : Sp := fun vs H Q _ => ∃ (d sa : Addr) (ns : List Int) (pa : Addr) (p : Prog) (most : Int), vs = [.ref d, .ref pa, .int most] ∧ Ent K H d sa ns ∧ ProgAt H pa p ∧ Good p ∧ 1 ≤ most ∧ most ≤ 3 ∧
  ∀ a y H', Dc K H H' d sa ns → LayAt H' a y → LayOk p y → (∀ h ∈ y.homes, (h.length : Int) ≤ most) → Q (.ref a) H'
section
variable {P : Program} {w : World} {K : PySem.W.Frag} {mg : Str → Option Value} {base : Heap}
theorem scLaying : FnScope nLaying pLaying (defScope sLaying) := ⟨rfl, rfl, rfl, by decide +kernel, rfl, by decide +kernel, by decide +kernel⟩
theorem ok_laying (c : FLaying K mg) (cNext : FNext K mg) (T : Bt mg) (TS : Bs mg) : FnOk P w K mg base CX0 2 c.f c.fd pLaying (spLaying K) := by
  have GNext : FnOk P w K mg base CX0 1 cNext.f cNext.fd ["_law_dice_here", "_law_many"] (spNext K) := ok_next cNext.F T
  refine c.F.ok scLaying (fun vs H Q E h => ?_) (fun cdv A outer s H vs Q E hr h => ?_)
  · obtain ⟨d, sa, ns, pa, p, most, rfl, _⟩ := h
    rfl
  · obtain ⟨d, sa, ns, pa, p, most, rfl, hE, ⟨wa, ra, bs, hpa, hwa, hra, hR⟩, g, m1, m3, kq⟩ := h
    have hbr := Paired.length hR
    have hR40 := g.r40
    have hW8 := g.w8
    refine ⟨_, (pss_cons (ps_set (i := 3) scLaying.nd rfl (Or.inr rfl) (pe_op op_add pe_int (pe_call GNext (hr.mono (by first | omega | decide)) (by rfl) cNext.m cNext.F.kp cNext.b .nil pass0 (pa_cons (pv 0) (pa_cons (pe_ix ix_list (pe_lst (pa_cons pe_int (pa_cons pe_int pa_nil))) (pe_call GNext (hr.mono (by first | omega | decide)) (by rfl) cNext.m cNext.F.kp cNext.b .nil pass0 (pa_cons (pv 0) (pa_cons pe_int pa_nil))) (fun _ _ => rfl)) pa_nil)))))
      (pss_cons (ps_set (i := 4) scLaying.nd rfl (Or.inl rfl) (pe_callTy call_tuple_of (by rfl) T.tuple (by decide +kernel) (pa_cons (pe_lc (own := [("_law_row", 8)]) (g := gName 8) (tt := tYes) rfl scLaying.nd (pi_tup (pe_ix ix_tup (pv 1) pe_int (fun _ _ => rfl))) (blkOk_by (N := nLaying) (sc := defScope sLaying) (by decide +kernel)) (fun _ _ _ _ _ => (pg_name (i := 8) scLaying.nd rfl (Or.inl rfl))) (fun _ _ _ _ _ => pts_nil) (fun _ _ _ _ _ => (pe_call GNext (hr.mono (by first | omega | decide)) (by rfl) cNext.m cNext.F.kp cNext.b .nil pass0 (pa_cons (pv 0) (pa_cons (pv 3) pa_nil))))) pa_nil)))
      (pss_cons (ps_set (i := 5) scLaying.nd rfl (Or.inl rfl) (pe_lst pa_nil))
      (pss_cons (ps_for PassesOwn.never rfl (pi_tup (pe_ix ix_tup (pv 1) pe_int (fun _ _ => rfl))) (pg_name (i := 6) scLaying.nd rfl (Or.inl rfl))
          (pss_cons (ps_setLc (i := 7) (own := [("_law_k", 9)]) (g := gName 9) (tt := tYes) rfl scLaying.nd rfl rfl (sw_true rfl rfl rfl (by decide +kernel)) (pi_range1 rfl T.range (pa_cons (pe_op op_add pe_int (pe_call GNext (hr.mono (by first | omega | decide)) (by rfl) cNext.m cNext.F.kp cNext.b .nil pass0 (pa_cons (pv 0) (pa_cons (pv 2) pa_nil)))) pa_nil)) (blkOk_by (N := nLaying) (sc := defScope sLaying) (by decide +kernel)) (fun _ _ _ _ _ => (pg_name (i := 9) scLaying.nd rfl (Or.inl rfl))) (fun _ _ _ _ _ => pts_nil) (fun _ _ _ _ _ => (pe_call GNext (hr.mono (by first | omega | decide)) (by rfl) cNext.m cNext.F.kp cNext.b .nil pass0 (pa_cons (pv 0) (pa_cons (pv 3) pa_nil)))))
          (pss_one (ps_expr (pe_bm PySem.F.plainAttrs_list PySem.F.slot_list_append PySem.F.type_list_append mt_append (pv 5) (pa_cons (pe_callTy call_tuple_of (by rfl) T.tuple (by decide +kernel) (pa_cons (pe_callB (cr_sortedSet rfl) (by rfl) T.sorted (by decide +kernel) (pa_cons (pe_callTy (cr_setL rfl) (by rfl) TS.set (by decide +kernel) (pa_cons (pv 7) pa_nil)) pa_nil)) pa_nil)) pa_nil))))))
      (pss_one (ps_ret (pe_tup (pa_cons (pv 3) (pa_cons (pv 4) (pa_cons (pe_callTy call_tuple_of (by rfl) T.tuple (by decide +kernel) (pa_cons (pv 5) pa_nil)) pa_nil)))))))))), ?_⟩
    refine ⟨_, rfl, (by show 2 ≤ sizeLine; decide), fun l hl => ?_⟩
    refine alloc hl fun H1 s1 e1 => ?_
    have C1 := (Dc.refl hE).same s1
    refine ⟨_, rfl, d, sa, ns, _, rfl, C1.ent, by decide, by decide, fun n1 H2 a0 a1 C2 => ?_⟩
    obtain ⟨z, hz, z1, z2⟩ : ∃ z : Int, atI ([V.int 4, V.int 23] : List V) n1 = some (.int z) ∧ 0 < z ∧ z ≤ 23 := by
      rcases (show n1 = 0 ∨ n1 = 1 by omega) with q | q
      · exact ⟨4, by rw [q]; exact at0, by decide, by decide⟩
      · exact ⟨23, by rw [q]; exact at1, by decide, by decide⟩
    refine ⟨l, _, _, _, rfl, rfl, SqL.of (C2.but _ _ (C1.ned hl) e1), hz, d, sa, ns, _, rfl, (C1.trans C2).ent, z1, by omega, fun n2 H3 b0 b1 C3 => ?_⟩
    have C3' := (C1.trans C2).trans C3
    refine ⟨_, _, rfl, rfl, ?_⟩
    obtain ⟨W, hW⟩ : ∃ W : Nat, 2 + n2 = (W : Int) := ⟨(2 + n2).toNat, by omega⟩
    dsimp only
    rw [hW]
    refine ⟨_, rfl, pa, _, _, _, rfl, rfl, SqT.of (C3'.kp _ _ hpa), at1, ra, rfl, ⟨_, SqT.of (C3'.kp _ _ hra)⟩, fun D hD => ?_⟩
    refine lc_tup (K := K) (a := ra) (xs := bs.map V.ref) (fun i H' => ∃ us : List Nat, Dc K H H' d sa ns ∧ H D = none ∧ H' D = some (.lst (us.map nI)) ∧ us.length = i ∧ ∀ x ∈ us, x < W)
      ⟨[], C3'.new hD, C3'.here hD, upd_same, rfl, fun _ h => absurd h (by simp)⟩ (fun i H' _ ⟨_, q, _⟩ => SqT.of (q.kp _ _ hra)) ?_ ?_
    · rintro i x H4 hi ⟨us, C4, nD, hu, hul, hum⟩
      have hi2 := (List.getElem?_eq_some_iff.mp hi).1
      rw [List.length_map] at hi2
      refine ⟨rfl, _, rfl, _, rfl, d, sa, ns, _, rfl, C4.ent, by omega, by omega, fun m H5 m0 m1 C5 => ?_⟩
      refine ⟨_, C5.but _ _ (C4.ned nD) hu, szl (by rw [List.length_map]; omega), us ++ [m.toNat], (C4.trans C5).mut nD, nD, ?_, by rw [List.length_append, hul]; rfl, fun x hx => ?_⟩
      · rw [upd_same, List.map_append]
        show _ = some (HO.lst (us.map nI ++ [V.int ((m.toNat : Nat) : Int)]))
        rw [Int.toNat_of_nonneg m0]
      · rcases List.mem_append.mp hx with q | q
        · exact hum x q
        · rw [List.mem_singleton.mp q]
          omega
    · rintro H4 ⟨us, C4, nD, hu, hul, hum⟩
      rw [List.length_map, hbr] at hul
      refine ⟨D, _, rfl, .inl ⟨SqL.of hu, fun pl hpl => ?_⟩⟩
      refine alloc hpl fun H5 s5 e5 => ?_
      have C5 := C4.same s5
      refine ⟨Nat.zero_le _, fun lh hlh => ?_⟩
      refine alloc hlh fun H6 s6 e6 => ?_
      have C6 := C5.same s6
      have nlh : H lh = none := C5.here hlh
      refine ⟨_, rfl, pa, _, _, _, rfl, rfl, SqT.of (C6.kp _ _ hpa), at0, wa, rfl, ⟨_, SqT.of (C6.kp _ _ hwa)⟩, ?_⟩
      refine for_tup (K := K) (a := wa) (xs := p.ws.map V.int) (fun i σ H' => ∃ (x6 x7 : Option V) (hb : List Addr) (hs : List (List Nat)), σ = [some (.ref d), some (.ref pa), some (.int most), some (.int (W : Int)), some (.ref pl), some (.ref lh), x6, x7, none, none] ∧
          Dc K H H' d sa ns ∧ Kp H6 H' ∧ H' lh = some (.lst (hb.map V.ref)) ∧ HomesAt H' hb hs ∧ hs.length = i ∧ ∀ h ∈ hs, HomeOk W h ∧ (h.length : Int) ≤ most)
        ⟨none, none, [], [], rfl, C6, Kp.refl _, e6, .nil, rfl, fun _ h => absurd h (by simp)⟩ (fun i σ H' _ ⟨_, _, _, _, _, q, _⟩ => SqT.of (q.kp _ _ hwa)) ?_ ?_
      · rintro i x σ H7 hi ⟨x6, x7, hb, hs, rfl, C7, k7, hlh7, hH, hsl, hok⟩
        have hi2 := (List.getElem?_eq_some_iff.mp hi).1
        rw [List.length_map] at hi2
        have hhb := Paired.length hH
        refine ⟨_, rfl, _, rfl, d, sa, ns, _, rfl, C7.ent, by omega, by omega, fun m H8 m0 m1' C8 => ?_⟩
        have C8' := C7.trans C8
        refine ⟨_, _, rfl, rfl, _, rfl, by omega, by omega, fun D2 hD2 => ?_⟩
        have hlh8 := C8.but _ _ (C7.ned nlh) hlh7
        have nD2 : lh ≠ D2 := ne_of_none hlh8 hD2
        refine lc_range (lo := 0) (n := (1 + m).toNat) (fun i H9 => ∃ us : List Int, Dc K H H9 d sa ns ∧ H D2 = none ∧ H9 D2 = some (.lst (us.map V.int)) ∧ us.length = i ∧ (∀ x ∈ us, 0 ≤ x ∧ x < (W : Int)) ∧ Kp H7 H9 ∧ H9 lh = some (.lst (hb.map V.ref)))
          ⟨[], C8'.new hD2, C8'.here hD2, upd_same, rfl, fun _ h => absurd h (by simp), C8.kp.trans (Kp.new hD2), by rw [upd_ne nD2]; exact hlh8⟩ ?_ ?_
        · rintro j H9 hj ⟨us, C9, nD, hu, hul, hum, k9, hlh9⟩
          refine ⟨rfl, _, rfl, _, rfl, d, sa, ns, _, rfl, C9.ent, by omega, by omega, fun m2 H10 c0 c1 C10 => ?_⟩
          have hu10 := C10.but _ _ (C9.ned nD) hu
          refine ⟨_, hu10, szl (by rw [List.length_map]; omega), us ++ [m2], (C9.trans C10).mut nD, nD, by rw [upd_same, List.map_append]; rfl, by rw [List.length_append, hul]; rfl, all_snoc hum ⟨c0, c1⟩, (k9.trans C10.kp).trans (Kp.lst hu10), by rw [upd_ne nD2]; exact C10.but _ _ (C9.ned nlh) hlh9⟩
        · rintro H9 ⟨us2, C9, nD, hu, hul2, hum2, k9, hlh9⟩
          refine ⟨_, rfl, .inl ⟨rfl, _, SqL.of hlh9⟩, _, rfl, D2, us2, rfl, SqL.of hu, by omega, fun sp c hc hsp => ?_⟩
          refine alloc hsp fun H10 s10 e10 => ?_
          refine ⟨sp, _, c, rfl, e10, by omega, fun ms q up mem len hq => ?_⟩
          refine alloc hq fun H11 s11 e11 => ?_
          refine ⟨q, _, rfl, .inl ⟨SqL.of e11, fun t ht => ?_⟩⟩
          refine alloc ht fun H12 s12 e12 => ?_
          have S12 := (s10.trans s11).trans s12
          have mem2 : ∀ x, x ∈ ms ↔ x ∈ us2 := fun x => (mem x).trans decide_eq_true_iff
          obtain ⟨h, h1, h2, h3, h4⟩ := rise_nat (ns := ms) (fun x hx => (hum2 x ((mem2 x).mp hx)).1) up
          have hlh12 := S12 _ _ hlh9
          have kf := ((k9.trans (Kp.same S12)).trans (Kp.lst (o := .lst (hb.map V.ref ++ [.ref t])) hlh12))
          refine ⟨lh, _, _, rfl, rfl, hlh12, szl (by rw [List.length_map]; omega), ?_⟩
          refine ⟨_, _, hb ++ [t], hs ++ [h], rfl, (C9.same S12).mut nlh, k7.trans kf, by rw [upd_same, List.map_append]; rfl, ?_, by rw [List.length_append, hsl]; rfl, ?_⟩
          · refine Paired.app (HomesAt.kp hH kf) (Paired.one ?_)
            have e := Kp.lst (o := .lst (hb.map V.ref ++ [.ref t])) hlh12 _ _ e12
            rw [h1] at e
            exact e
          · refine all_snoc hok ⟨⟨?_, ?_, h3, fun x hx => ?_⟩, by rw [h2, len]; omega⟩
            · rw [h2]
              obtain ⟨u, hu2⟩ : ∃ u, u ∈ us2 := by
                cases us2 with
                | nil => simp at hul2; omega
                | cons u _ => exact ⟨u, List.mem_cons_self⟩
              exact List.length_pos_of_mem ((mem2 u).mpr hu2)
            · rw [h2, len]
              omega
            · have := (hum2 _ ((mem2 _).mp (h4 x hx))).2
              omega
      · rintro σ H7 ⟨x6, x7, hb, hs, rfl, C7, k7, hlh7, hH, hsl, hok⟩
        rw [List.length_map] at hsl
        refine ⟨_, rfl, _, rfl, _, rfl, lh, _, rfl, .inl ⟨SqL.of hlh7, fun t ht => ?_⟩⟩
        refine alloc ht fun H8 s8 e8 => ?_
        refine ⟨(by show 3 ≤ sizeLine; decide), fun a ha => ?_⟩
        refine alloc ha fun H9 s9 e9 => ?_
        have S := s8.trans s9
        exact kq a ⟨W, us, hs⟩ H9 (C7.same S) ⟨pl, t, hb, e9, S _ _ (k7 _ _ (s6 _ _ e5)), s9 _ _ e8, HomesAt.kp hH (Kp.same S)⟩ ⟨by show 2 ≤ W; omega, by show W ≤ 24; omega, hul, hum, hsl, fun h hh => (hok h hh).1⟩ fun h hh => (hok h hh).2
end
end DL
namespace DL
open PySem L2 DLR
structure Cl (mg : Str → Option Value) where
  t2 : Tok
  t24 : Tok
  m2 : mg "LEAST_WIDE" = some (.int 2 t2)
  m24 : mg "MOST_WIDE" = some (.int 24 t24)
structure Ch (mg : Str → Option Value) where
  t3 : Tok
  m3 : mg "MOST_HOMES" = some (.int 3 t3)
abbrev sCheckWide : Stmt := top 31
abbrev sCheckPlaces : Stmt := top 32
abbrev sCheckHomes : Stmt := top 33
abbrev sAreHomes : Stmt := top 34
abbrev sCheckLaying : Stmt := top 30
abbrev FCheckWide (K : Frg) (mg : Str → Option Value) := Fd K mg "check_wide" sCheckWide ["wide"]
abbrev FCheckPlaces (K : Frg) (mg : Str → Option Value) := Fd K mg "check_places" sCheckPlaces ["places", "count", "wide"]
abbrev FCheckHomes (K : Frg) (mg : Str → Option Value) := Fd K mg "check_homes" sCheckHomes ["homes", "count", "wide"]
abbrev FAreHomes (K : Frg) (mg : Str → Option Value) := Fd K mg "are_homes" sAreHomes ["places", "wide"]
abbrev FCheckLaying (K : Frg) (mg : Str → Option Value) := Fd K mg "check_laying" sCheckLaying ["program", "laying"]
def spCheckWide : Sp := fun vs H Q _ => ∃ n : Int, vs = [.int n] ∧ 2 ≤ n ∧ n ≤ 24 ∧ Q .non H
def spCheckPlaces : Sp := fun vs H Q _ => ∃ (a : Addr) (us : List Nat) (W : Nat), vs = [.ref a, .int (us.length : Int), .int (W : Int)] ∧ H a = some (.tup (us.map nI)) ∧ us.length ≤ 100 ∧ (∀ x ∈ us, x < W) ∧ ∀ H', Same1 H H' → Q .non H'
def spAreHomes : Sp := fun vs H Q _ => ∃ (a : Addr) (h : List Nat) (W : Nat), vs = [.ref a, .int (W : Int)] ∧ H a = some (.tup (h.map nI)) ∧ HomeOk W h ∧ ∀ H', Same1 H H' → Q (.bl true) H'
def spCheckHomes : Sp := fun vs H Q _ => ∃ (a : Addr) (bs : List Addr) (hs : List (List Nat)) (W : Nat), vs = [.ref a, .int (hs.length : Int), .int (W : Int)] ∧ H a = some (.tup (bs.map V.ref)) ∧ HomesAt H bs hs ∧ hs.length ≤ 100 ∧ (∀ h ∈ hs, HomeOk W h) ∧ ∀ H', Same1 H H' → Q .non H'
def spCheckLaying : Sp := fun vs H Q _ => ∃ (a b : Addr) (p : Prog) (y : Lay), vs = [.ref a, .ref b] ∧ ProgAt H a p ∧ Good p ∧ LayAt H b y ∧ LayOk p y ∧ ∀ H', Same1 H H' → Q .non H'
theorem nI_ints (h : List Nat) : h.map nI = (h.map fun x : Nat => (x : Int)).map V.int := by
  rw [List.map_map]
  rfl
def intsD (l : List Int) : PyData := .list (l.map PyData.int)
theorem intsD_at {K : Frg} {H : Hp} : ∀ l : List Int, DpAll K H (l.map V.int) (l.map PyData.int)
  | [] => .nil
  | x :: l => .cons (.int x) (intsD_at l)
theorem intsD_lay : ∀ l : List Int, PyData.canLayAll0 (l.map PyData.int) = true
  | [] => by decide +kernel
  | x :: l => by
    show (PyData.canLay0 (.int x) && PyData.canLayAll0 (l.map PyData.int)) = true
    rw [intsD_lay l]
    rfl
theorem intsD_dep : ∀ l : List Int, PyData.depthAll (l.map PyData.int) ≤ 1
  | [] => by decide
  | x :: l => by
    have h := intsD_dep l
    show max (PyData.int x).depth (PyData.depthAll (l.map PyData.int)) ≤ 1
    have : (PyData.int x).depth ≤ 1 := by simp [PyData.depth]
    omega
theorem intsD_shaped (l : List Int) : SeqAt.shaped (intsD l) = true := by
  show (PyData.canLayAll0 (l.map PyData.int) && decide (PyData.depth (.list (l.map PyData.int)) ≤ 64)) = true
  rw [intsD_lay]
  refine decide_eq_true ?_
  have := intsD_dep l
  show _ + _ ≤ 64
  omega
theorem eq_ints {K : Frg} {H : Hp} {a b : Addr} {l : List Int} {Q : VK} (h1 : H a = some (.lst (l.map V.int))) (h2 : H b = some (.lst (l.map V.int))) (q : Q (.bl true) H) : rEqD K (.ref a) (.ref b) H Q := by
  refine ⟨intsD l, intsD l, .lst (SqL.of h1) (intsD_at l), .lst (SqL.of h2) (intsD_at l), intsD_shaped l, intsD_shaped l, ?_⟩
  rw [PySem.SeqAt.eqv_refl _ (SeqAt.canLay_of_shaped (intsD_shaped l))]
  exact q
section
variable {P : Program} {w : World} {K : PySem.W.Frag} {mg : Str → Option Value} {base : Heap}
theorem scCheckWide : FnScope ["wide"] ["wide"] (defScope sCheckWide) := ⟨rfl, rfl, rfl, by decide +kernel, rfl, by decide +kernel, by decide +kernel⟩
theorem ok_checkWide (c : FCheckWide K mg) (cIsBetween : FIsBetween K mg) (cIsNumber : FIsNumber K mg) (T : Bt mg) (L : Cl mg) : FnOk P w K mg base CX0 3 c.f c.fd ["wide"] spCheckWide := by
  have GIsBetween : FnOk P w K mg base CX0 2 cIsBetween.f cIsBetween.fd ["thing", "low", "high"] spBetween := ok_isBetween cIsBetween cIsNumber T
  refine c.F.ok scCheckWide (fun vs H Q E h => ?_) (fun cdv A outer s H vs Q E hr h => ?_)
  · obtain ⟨n, rfl, _⟩ := h
    rfl
  · obtain ⟨n, rfl, h1, h2, k⟩ := h
    refine ⟨_, (pss_one (ps_if (pt_not (pt_val (pe_call GIsBetween (hr.mono (by first | omega | decide)) (by rfl) cIsBetween.m cIsBetween.F.kp cIsBetween.b .nil pass0 (pa_cons (pv 0) (pa_cons (pe_glob rfl L.m2 relI) (pa_cons (pe_glob rfl L.m24 relI) pa_nil))))))
          (pss_one ps_never)
          pss_nil)), ?_⟩
    exact ⟨_, rfl, n, _, _, rfl, h1, h2, _, rfl, k⟩
abbrev nCheckPlaces : List Str := ["places", "count", "wide", "row", "place"]
theorem scCheckPlaces : FnScope nCheckPlaces ["places", "count", "wide"] (defScope sCheckPlaces) := ⟨rfl, rfl, rfl, by decide +kernel, rfl, by decide +kernel, by decide +kernel⟩
theorem ok_checkPlaces (c : FCheckPlaces K mg) (cIsBetween : FIsBetween K mg) (cIsNumber : FIsNumber K mg) (T : Bt mg) : FnOk P w K mg base CX0 3 c.f c.fd ["places", "count", "wide"] spCheckPlaces := by
  have GIsBetween : FnOk P w K mg base CX0 2 cIsBetween.f cIsBetween.fd ["thing", "low", "high"] spBetween := ok_isBetween cIsBetween cIsNumber T
  refine c.F.ok scCheckPlaces (fun vs H Q E h => ?_) (fun cdv A outer s H vs Q E hr h => ?_)
  · obtain ⟨a, us, W, rfl, _⟩ := h
    rfl
  · obtain ⟨a, us, W, rfl, h1, h100, hb, k⟩ := h
    refine ⟨_, (pss_cons (ps_if (PW.pt (pw_or (pt_not (pt_val (pe_callB call_isi (by rfl) T.isinstance (by decide +kernel) (pa_cons (pv 0) (pa_cons (pe_bltn (v := .ty "tuple") (by rfl) T.tuple (by decide +kernel) rfl) pa_nil))))) (pw_or1 (pt_cmpR op_ne (pe_callB call_len_seq (by rfl) T.len PySem.boot_len (pa_cons (pv 0) pa_nil)) (pv 1) (nomark _)))))
          (pss_one ps_never)
          pss_nil)
      (pss_one (ps_for PassesOwn.never rfl (pi_enumT (by rfl) T.enumerate (pa_cons (pv 0) pa_nil)) (pg_tup rfl (pgs_cons (pg_name (i := 3) scCheckPlaces.nd rfl (Or.inl rfl)) (pgs_cons (pg_name (i := 4) scCheckPlaces.nd rfl (Or.inl rfl)) pgs_nil)))
          (pss_one (ps_if (pt_not (pt_val (pe_call GIsBetween (hr.mono (by first | omega | decide)) (by rfl) cIsBetween.m cIsBetween.F.kp cIsBetween.b .nil pass0 (pa_cons (pv 4) (pa_cons pe_int (pa_cons (pe_op op_sub (pv 2) pe_int) pa_nil))))))
              (pss_one ps_never)
              pss_nil))))), ?_⟩
    refine ⟨_, rfl, _, _, _, _, true, rfl, .ty _, .base (.tup h1), kit_ty (by decide +kernel), _, rfl, ?_⟩
    refine ⟨_, rfl, a, _, rfl, .inr (SqT.of h1), _, rfl, rfl, _, rfl, ?_⟩
    rw [List.length_map, decide_eq_true (show V.int (us.length : Int) = V.int (us.length : Int) from rfl)]
    refine iteF ⟨_, rfl, a, _, rfl, SqT.of h1, for_enumT (K := K) (a := a) (xs := us.map nI) (fun i σ H' => ∃ x3 x4 : Option V, σ = [some (.ref a), some (.int (us.length : Int)), some (.int (W : Int)), x3, x4] ∧ Same1 H H') ⟨none, none, rfl, Same.refl _⟩
      (fun i σ H' ⟨_, _, _, q⟩ => SqT.of (q _ _ h1)) ?_ ?_⟩
    · rintro i x T' σ H1 hi ⟨x3, x4, rfl, s1⟩ hT'
      rw [List.getElem?_map] at hi
      cases hz : us[i]? with
      | none => rw [hz] at hi; cases hi
      | some z =>
        rw [hz] at hi
        have e : nI z = x := Option.some.inj hi
        subst e
        have hlt := hb z (List.mem_of_getElem? hz)
        refine alloc hT' fun H2 s2 e2 => ?_
        refine ⟨T', _, rfl, SqT.of e2, rfl, _, _, rfl, _, _, rfl, rfl, ?_⟩
        refine ⟨_, rfl, _, rfl, _, _, rfl, rfl, (z : Int), _, _, rfl, by omega, by omega, _, rfl, ?_⟩
        exact ⟨_, _, rfl, s1.trans s2⟩
    · rintro σ H1 ⟨x3, x4, rfl, s1⟩
      exact k _ s1
abbrev nAreHomes : List Str := ["places", "wide", "place"]
theorem scAreHomes : FnScope nAreHomes ["places", "wide"] (defScope sAreHomes) := ⟨rfl, rfl, rfl, by decide +kernel, rfl, by decide +kernel, by decide +kernel⟩
theorem ok_areHomes (c : FAreHomes K mg) (cIsBetween : FIsBetween K mg) (cIsNumber : FIsNumber K mg) (T : Bt mg) (TS : Bs mg) (LH : Ch mg) : FnOk P w K mg base CX0 3 c.f c.fd ["places", "wide"] spAreHomes := by
  have GIsBetween : FnOk P w K mg base CX0 2 cIsBetween.f cIsBetween.fd ["thing", "low", "high"] spBetween := ok_isBetween cIsBetween cIsNumber T
  refine c.F.ok scAreHomes (fun vs H Q E h => ?_) (fun cdv A outer s H vs Q E hr h => ?_)
  · obtain ⟨a, h, W, rfl, _⟩ := h
    rfl
  · obtain ⟨a, h, W, rfl, h1, hk, k⟩ := h
    have l1 := hk.l1
    have l3 := hk.l3
    refine ⟨_, (pss_cons (ps_if (PW.pt (pw_or (pt_not (pt_val (pe_callB call_isi (by rfl) T.isinstance (by decide +kernel) (pa_cons (pv 0) (pa_cons (pe_bltn (v := .ty "tuple") (by rfl) T.tuple (by decide +kernel) rfl) pa_nil))))) (pw_or1 (pt_not (pt_chain op_le op_le pe_int (pe_callB call_len_seq (by rfl) T.len PySem.boot_len (pa_cons (pv 0) pa_nil)) (pe_glob rfl LH.m3 relI))))))
          (pss_one (ps_ret pe_bl))
          pss_nil)
      (pss_cons (ps_if (pt_not (pt_val (pe_callB (cr_all rfl) (by rfl) T.all (by decide +kernel) (pa_cons (pe_lc (own := [("place", 2)]) (g := gName 2) (tt := tYes) rfl scAreHomes.nd (pi_tup (pv 0)) (blkOk_by (N := nAreHomes) (sc := defScope sAreHomes) (by decide +kernel)) (fun _ _ _ _ _ => (pg_name (i := 2) scAreHomes.nd rfl (Or.inl rfl))) (fun _ _ _ _ _ => pts_nil) (fun _ _ _ _ _ => (pe_call GIsBetween (hr.mono (by first | omega | decide)) (by rfl) cIsBetween.m cIsBetween.F.kp cIsBetween.b .nil pass0 (pa_cons (pv 2) (pa_cons pe_int (pa_cons (pe_op op_sub (pv 1) pe_int) pa_nil)))))) pa_nil))))
          (pss_one (ps_ret pe_bl))
          pss_nil)
      (pss_one (ps_ret (pe_cmpR (op_eqD hr.units) (pe_callTy call_list_of (by rfl) T.list (by decide +kernel) (pa_cons (pv 0) pa_nil)) (pe_callB (cr_sortedSet rfl) (by rfl) T.sorted (by decide +kernel) (pa_cons (pe_callTy (cr_setT rfl) (by rfl) TS.set (by decide +kernel) (pa_cons (pv 0) pa_nil)) pa_nil)) (nomark _)))))), ?_⟩
    refine ⟨_, rfl, _, _, _, _, true, rfl, .ty _, .base (.tup h1), kit_ty (by decide +kernel), _, rfl, ?_⟩
    refine ⟨_, rfl, a, _, rfl, .inr (SqT.of h1), _, _, rfl, rfl, _, rfl, ?_⟩
    rw [List.length_map, decide_eq_true (show (1 : Int) ≤ (h.length : Int) by omega)]
    refine iteT ⟨_, _, rfl, rfl, _, rfl, ?_⟩
    rw [decide_eq_true (show (h.length : Int) ≤ 3 by omega)]
    refine iteF ⟨_, rfl, a, rfl, ⟨_, SqT.of h1⟩, fun D hD => ?_⟩
    refine lc_tup (K := K) (a := a) (xs := h.map nI) (fun i H' => H' D = some (.lst ((List.replicate i true).map V.bl)) ∧ Same1 H H') ⟨upd_same, Same.new hD⟩ (fun i H' _ ⟨_, q⟩ => SqT.of (q _ _ h1)) ?_ ?_
    · rintro i x H3 hi ⟨hd, s3⟩
      rw [List.getElem?_map] at hi
      cases hz : h[i]? with
      | none => rw [hz] at hi; cases hi
      | some z =>
        rw [hz] at hi
        have e : nI z = x := Option.some.inj hi
        subst e
        have hlt := hk.lt z (List.mem_of_getElem? hz)
        have hil := (List.getElem?_eq_some_iff.mp hz).1
        refine ⟨rfl, _, rfl, _, rfl, _, _, rfl, rfl, (z : Int), _, _, rfl, by omega, by omega, _, hd, szl (by rw [List.length_map, List.length_replicate]; omega), ?_, Same.mut s3 hD⟩
        rw [upd_same, List.replicate_succ', List.map_append]
        rfl
    · rintro H3 ⟨hd, s3⟩
      refine ⟨D, _, rfl, SqL.of hd, ?_⟩
      rw [show (List.replicate (h.map nI).length true).all id = true by rw [List.all_eq_true]; intro x hx; rw [List.eq_of_mem_replicate hx]; rfl]
      refine ⟨_, rfl, iteF ?_⟩
      have h3 := s3 _ _ h1
      refine ⟨_, rfl, a, _, rfl, .inr (SqT.of h3), fun q1 hq1 => ?_⟩
      refine alloc hq1 fun H4 s4 e4 => ?_
      have h4 := s4 _ _ h3
      rw [nI_ints] at h4 e4
      refine ⟨_, rfl, a, _, rfl, SqT.of h4, by rw [List.length_map]; omega, fun sp c hc hsp => ?_⟩
      rw [List.length_map] at hc
      refine alloc hsp fun H5 s5 e5 => ?_
      refine ⟨sp, _, c, rfl, e5, by omega, fun ms q up mem len hq => ?_⟩
      refine alloc hq fun H6 s6 e6 => ?_
      have em : ms = h.map fun x : Nat => (x : Int) := by
        refine rise_uniq up ?_ fun x => (mem x).trans decide_eq_true_iff
        rw [List.pairwise_map]
        exact hk.up.imp fun {a b} z => by omega
      rw [em] at e6
      exact eq_ints ((s5.trans s6) _ _ e4) e6 (k _ (((s3.trans s4).trans s5).trans s6))
abbrev nCheckHomes : List Str := ["homes", "count", "wide", "worth", "places"]
theorem scCheckHomes : FnScope nCheckHomes ["homes", "count", "wide"] (defScope sCheckHomes) := ⟨rfl, rfl, rfl, by decide +kernel, rfl, by decide +kernel, by decide +kernel⟩
theorem ok_checkHomes (c : FCheckHomes K mg) (cAreHomes : FAreHomes K mg) (cIsBetween : FIsBetween K mg) (cIsNumber : FIsNumber K mg) (T : Bt mg) (TS : Bs mg) (LH : Ch mg) : FnOk P w K mg base CX0 4 c.f c.fd ["homes", "count", "wide"] spCheckHomes := by
  have GAreHomes : FnOk P w K mg base CX0 3 cAreHomes.f cAreHomes.fd ["places", "wide"] spAreHomes := ok_areHomes cAreHomes cIsBetween cIsNumber T TS LH
  refine c.F.ok scCheckHomes (fun vs H Q E h => ?_) (fun cdv A outer s H vs Q E hr h => ?_)
  · obtain ⟨a, bs, hs, W, rfl, _⟩ := h
    rfl
  · obtain ⟨a, bs, hs, W, rfl, h1, hH, h100, hok, k⟩ := h
    have hbl := Paired.length hH
    refine ⟨_, (pss_cons (ps_if (PW.pt (pw_or (pt_not (pt_val (pe_callB call_isi (by rfl) T.isinstance (by decide +kernel) (pa_cons (pv 0) (pa_cons (pe_bltn (v := .ty "tuple") (by rfl) T.tuple (by decide +kernel) rfl) pa_nil))))) (pw_or1 (pt_cmpR op_ne (pe_callB call_len_seq (by rfl) T.len PySem.boot_len (pa_cons (pv 0) pa_nil)) (pv 1) (nomark _)))))
          (pss_one ps_never)
          pss_nil)
      (pss_one (ps_for PassesOwn.never rfl (pi_enumT (by rfl) T.enumerate (pa_cons (pv 0) pa_nil)) (pg_tup rfl (pgs_cons (pg_name (i := 3) scCheckHomes.nd rfl (Or.inl rfl)) (pgs_cons (pg_name (i := 4) scCheckHomes.nd rfl (Or.inl rfl)) pgs_nil)))
          (pss_one (ps_if (pt_not (pt_val (pe_call GAreHomes (hr.mono (by first | omega | decide)) (by rfl) cAreHomes.m cAreHomes.F.kp cAreHomes.b .nil pass0 (pa_cons (pv 4) (pa_cons (pv 2) pa_nil)))))
              (pss_one ps_never)
              pss_nil))))), ?_⟩
    refine ⟨_, rfl, _, _, _, _, true, rfl, .ty _, .base (.tup h1), kit_ty (by decide +kernel), _, rfl, ?_⟩
    refine ⟨_, rfl, a, _, rfl, .inr (SqT.of h1), _, rfl, rfl, _, rfl, ?_⟩
    rw [List.length_map, hbl, decide_eq_true (show V.int (hs.length : Int) = V.int (hs.length : Int) from rfl)]
    refine iteF ⟨_, rfl, a, _, rfl, SqT.of h1, for_enumT (K := K) (a := a) (xs := bs.map V.ref) (fun i σ H' => ∃ x3 x4 : Option V, σ = [some (.ref a), some (.int (hs.length : Int)), some (.int (W : Int)), x3, x4] ∧ Same1 H H') ⟨none, none, rfl, Same.refl _⟩
      (fun i σ H' ⟨_, _, _, q⟩ => SqT.of (q _ _ h1)) ?_ ?_⟩
    · rintro i x T' σ H1 hi ⟨x3, x4, rfl, s1⟩ hT'
      have hih : i < hs.length := by
        have q := (List.getElem?_eq_some_iff.mp hi).1
        rwa [List.length_map, hbl] at q
      obtain ⟨b, hb1, hb2⟩ := Paired.getR hH (List.getElem?_eq_getElem hih)
      have ex : x = V.ref b := by
        rw [List.getElem?_map, hb1] at hi
        exact (Option.some.inj hi).symm
      subst ex
      refine alloc hT' fun H2 s2 e2 => ?_
      refine ⟨T', _, rfl, SqT.of e2, rfl, _, _, rfl, _, _, rfl, rfl, ?_⟩
      refine ⟨_, rfl, _, rfl, b, hs[i], W, rfl, (s1.trans s2) _ _ hb2, hok _ (List.getElem_mem hih), fun H3 s3 => ⟨_, rfl, ?_⟩⟩
      exact ⟨_, _, rfl, (s1.trans s2).trans s3⟩
    · rintro σ H1 ⟨x3, x4, rfl, s1⟩
      exact k _ s1
abbrev nCheckLaying : List Str := ["program", "laying", "worths", "rows", "wide"]
theorem scCheckLaying : FnScope nCheckLaying ["program", "laying"] (defScope sCheckLaying) := ⟨rfl, rfl, rfl, by decide +kernel, rfl, by decide +kernel, by decide +kernel⟩
theorem ok_checkLaying (c : FCheckLaying K mg) (cCheckWide : FCheckWide K mg) (cCheckPlaces : FCheckPlaces K mg) (cCheckHomes : FCheckHomes K mg) (cAreHomes : FAreHomes K mg) (cPart : FPart K mg) (cIsBetween : FIsBetween K mg) (cIsNumber : FIsNumber K mg) (T : Bt mg) (TS : Bs mg) (L : Cl mg) (LH : Ch mg) : FnOk P w K mg base CX0 5 c.f c.fd ["program", "laying"] spCheckLaying := by
  have GPart : FnOk P w K mg base CX0 1 cPart.f cPart.fd ["whole", "at"] spPart := ok_part cPart T
  have GCheckWide : FnOk P w K mg base CX0 3 cCheckWide.f cCheckWide.fd ["wide"] spCheckWide := ok_checkWide cCheckWide cIsBetween cIsNumber T L
  have GCheckPlaces : FnOk P w K mg base CX0 3 cCheckPlaces.f cCheckPlaces.fd ["places", "count", "wide"] spCheckPlaces := ok_checkPlaces cCheckPlaces cIsBetween cIsNumber T
  have GCheckHomes : FnOk P w K mg base CX0 4 cCheckHomes.f cCheckHomes.fd ["homes", "count", "wide"] spCheckHomes := ok_checkHomes cCheckHomes cAreHomes cIsBetween cIsNumber T TS LH
  refine c.F.ok scCheckLaying (fun vs H Q E h => ?_) (fun cdv A outer s H vs Q E hr h => ?_)
  · obtain ⟨a, b, p, y, rfl, _⟩ := h
    rfl
  · obtain ⟨a, b, p, y, rfl, ⟨wa, ra, bs, hpa, hwa, hra, hR⟩, g, ⟨pl, hl, cs, hb, hpl, hhl, hH⟩, yk, k⟩ := h
    have hbr := Paired.length hR
    have hR40 := g.r40
    have hW8 := g.w8
    have hpll := yk.pl
    have hhll := yk.hl
    have w2 := yk.w2
    have w24 := yk.w24
    refine ⟨_, (pss_cons (ps_asg (pv 0) (pg_tup rfl (pgs_cons (pg_name (i := 2) scCheckLaying.nd rfl (Or.inl rfl)) (pgs_cons (pg_name (i := 3) scCheckLaying.nd rfl (Or.inl rfl)) pgs_nil))))
      (pss_cons (ps_set (i := 4) scCheckLaying.nd rfl (Or.inl rfl) (pe_call GPart (hr.mono (by first | omega | decide)) (by rfl) cPart.m cPart.F.kp cPart.b .nil pass0 (pa_cons (pv 1) (pa_cons pe_int pa_nil))))
      (pss_cons (ps_expr (pe_call GCheckWide (hr.mono (by first | omega | decide)) (by rfl) cCheckWide.m cCheckWide.F.kp cCheckWide.b .nil pass0 (pa_cons (pv 4) pa_nil)))
      (pss_cons (ps_expr (pe_call GCheckPlaces (hr.mono (by first | omega | decide)) (by rfl) cCheckPlaces.m cCheckPlaces.F.kp cCheckPlaces.b .nil pass0 (pa_cons (pe_call GPart (hr.mono (by first | omega | decide)) (by rfl) cPart.m cPart.F.kp cPart.b .nil pass0 (pa_cons (pv 1) (pa_cons pe_int pa_nil))) (pa_cons (pe_callB call_len_seq (by rfl) T.len PySem.boot_len (pa_cons (pv 3) pa_nil)) (pa_cons (pv 4) pa_nil)))))
      (pss_cons (ps_expr (pe_call GCheckHomes (hr.mono (by first | omega | decide)) (by rfl) cCheckHomes.m cCheckHomes.F.kp cCheckHomes.b .nil pass0 (pa_cons (pe_call GPart (hr.mono (by first | omega | decide)) (by rfl) cPart.m cPart.F.kp cPart.b .nil pass0 (pa_cons (pv 1) (pa_cons pe_int pa_nil))) (pa_cons (pe_callB call_len_seq (by rfl) T.len PySem.boot_len (pa_cons (pv 2) pa_nil)) (pa_cons (pv 4) pa_nil)))))
      (pss_one (ps_if (pt_cmpR op_ne (pe_callB call_len_seq (by rfl) T.len PySem.boot_len (pa_cons (pv 1) pa_nil)) pe_int (nomark _))
          (pss_one ps_never)
          pss_nil))))))), ?_⟩
    refine ⟨_, rfl, a, _, rfl, SqT.of hpa, rfl, _, _, rfl, _, _, rfl, rfl, ?_⟩
    refine ⟨_, rfl, b, _, 0, _, rfl, hb, rfl, ?_⟩
    refine ⟨_, rfl, (y.wide : Int), rfl, by omega, by omega, ?_⟩
    refine ⟨_, rfl, b, _, 1, _, rfl, hb, rfl, _, rfl, ra, _, rfl, .inr (SqT.of hra), _, rfl, pl, y.places, y.wide, ?_, hpl, by omega, yk.pok, fun H1 s1 => ?_⟩
    · rw [List.length_map, hbr, hpll]
      rfl
    refine ⟨_, rfl, b, _, 2, _, rfl, s1 _ _ hb, rfl, _, rfl, wa, _, rfl, .inr (SqT.of (s1 _ _ hwa)), _, rfl, hl, cs, y.homes, y.wide, ?_, s1 _ _ hhl, HomesAt.kp hH (Kp.same s1), by omega, yk.hok, fun H2 s2 => ?_⟩
    · rw [List.length_map, hhll]
      rfl
    refine ⟨_, rfl, b, _, rfl, .inr (SqT.of ((s1.trans s2) _ _ hb)), rfl, _, rfl, ?_⟩
    rw [decide_eq_true (show V.int ((([nI y.wide, V.ref pl, V.ref hl] : List V).length : Nat) : Int) = V.int 3 from rfl)]
    exact iteF (k _ (s1.trans s2))
end
end DL
namespace DL
open PySem L2 DLR
def nx : Row → List Nat
  | .load _ n => [n]
  | .add _ n => [n]
  | .take _ n => [n]
  | .store _ n => [n]
  | .say n => [n]
  | .test a b => [a, b]
  | .stop => []
def tgt : Row → List Nat
  | .test a b => if a = b then [a] else if a < b then [a, b] else [b, a]
  | r => nx r
theorem tgt_test (a b : Nat) : tgt (.test a b) = if a = b then [a] else if a < b then [a, b] else [b, a] := rfl
theorem tgt_up (r : Row) : (tgt r).Pairwise (· < ·) := by
  cases r with
  | test a b =>
    rw [tgt_test]
    split
    · simp
    · split
      · simp; omega
      · simp; omega
  | stop => exact .nil
  | load _ n => exact List.pairwise_singleton _ _
  | add _ n => exact List.pairwise_singleton _ _
  | take _ n => exact List.pairwise_singleton _ _
  | store _ n => exact List.pairwise_singleton _ _
  | say n => exact List.pairwise_singleton _ _
theorem tgt_mem (r : Row) (x : Nat) : x ∈ tgt r ↔ x ∈ nx r := by
  cases r with
  | test a b =>
    rw [tgt_test, show nx (.test a b) = [a, b] from rfl]
    split
    · rename_i h
      subst h
      simp
    · split
      · exact Iff.rfl
      · simp only [List.mem_cons, List.not_mem_nil, or_false]
        exact Or.comm
  | _ => exact Iff.rfl
theorem tgt_len (r : Row) : (tgt r).length ≤ 2 := by
  cases r with
  | test a b =>
    rw [tgt_test]
    split
    · show 1 ≤ 2; decide
    · split <;> (show 2 ≤ 2; decide)
  | stop => show 0 ≤ 2; decide
  | _ => show 1 ≤ 2; decide
theorem nx_len (r : Row) : (nx r).length ≤ 2 := by cases r <;> simp [nx]
theorem tgt_of {r : Row} {ms : List Int} (up : ms.Pairwise (· < ·)) (mem : ∀ x : Int, x ∈ ms ↔ decide (x ∈ (nx r).map fun n : Nat => (n : Int)) = true) : ms = (tgt r).map fun n : Nat => (n : Int) := by
  refine rise_uniq up ?_ fun x => (mem x).trans (decide_eq_true_iff.trans ?_)
  · rw [List.pairwise_map]
    exact (tgt_up r).imp fun {a b} z => by omega
  · constructor <;> intro h <;> obtain ⟨n, hn, rfl⟩ := List.mem_map.mp h
    · exact List.mem_map.mpr ⟨n, (tgt_mem r n).mpr hn, rfl⟩
    · exact List.mem_map.mpr ⟨n, (tgt_mem r n).mp hn, rfl⟩
def goesN (rows : List Row) (i : Nat) : List (Nat × Nat) := (List.range i).flatMap fun k => (tgt (rows.getD k .stop)).map fun t => (k, t)
theorem goesN_succ (rows : List Row) (i : Nat) : goesN rows (i + 1) = goesN rows i ++ (tgt (rows.getD i .stop)).map fun t => (i, t) := by
  unfold goesN
  rw [List.range_succ, List.flatMap_append]
  simp
theorem goesN_len (rows : List Row) : ∀ i, (goesN rows i).length ≤ 2 * i
  | 0 => Nat.le_refl 0
  | i + 1 => by
    rw [goesN_succ, List.length_append, List.length_map]
    have := goesN_len rows i
    have := tgt_len (rows.getD i .stop)
    omega
def pairVs (g : Nat × Nat) : List V := [nI g.1, nI g.2]
abbrev PairsL (H : Hp) (bs : List Addr) (L : List (Nat × Nat)) : Prop := Paired (fun b g => H b = some (.tup (pairVs g))) bs L
theorem PairsL.kp {H H' : Hp} {bs : List Addr} {L : List (Nat × Nat)} (h : PairsL H bs L) (k : Kp H H') : PairsL H' bs L := Paired.mapP h fun b x e => k _ _ e
abbrev sNexts : Stmt := top 19
abbrev sAhead : Stmt := top 20
abbrev FNexts (K : Frg) (mg : Str → Option Value) := Fd K mg "nexts" sNexts ["row"]
abbrev FAhead (K : Frg) (mg : Str → Option Value) := Fd K mg "rows_ahead" sAhead ["row"]
def spNexts : Sp := fun vs H Q _ => ∃ (a : Addr) (r : Row), vs = [.ref a] ∧ H a = some (.tup (rowVs r)) ∧ ∀ t H', Same1 H H' → H' t = some (.tup ((nx r).map nI)) → Q (.ref t) H'
def spAhead : Sp := fun vs H Q _ => ∃ (a : Addr) (r : Row), vs = [.ref a] ∧ H a = some (.tup (rowVs r)) ∧ ∀ q H', Same1 H H' → H q = none → H' q = some (.lst ((tgt r).map nI)) → Q (.ref q) H'
def spGoesMay : Sp := fun vs H Q _ => ∃ (a : Addr) (p : Prog), vs = [.ref a] ∧ ProgAt H a p ∧ Good p ∧ ∀ l bs H', Same1 H H' → H l = none → H' l = some (.lst (bs.map V.ref)) → PairsL H' bs (goesN p.rows p.rows.length) → Q (.ref l) H'
theorem nx_drop (r : Row) : (if r.uses = true then (rowVs r).drop 2 else (rowVs r).drop 1) = (nx r).map nI := by cases r <;> rfl
theorem dropn (n : Nat) {xs : List V} : cutV xs (some (n : Int)) none = xs.drop n := by
  unfold cutV
  have e : HT.sIx xs.length 0 (some (n : Int)) = min n xs.length := HT.sIx_nat _ _ n
  rw [e, HT.sIx_none]
  rcases Nat.le_total n xs.length with q | q
  · rw [Nat.min_eq_left q]
    exact List.take_of_length_le (by rw [List.length_drop]; omega)
  · rw [Nat.min_eq_right q, List.drop_eq_nil_of_le q, List.drop_eq_nil_of_le (Nat.le_refl _)]
    exact List.take_nil
section
variable {P : Program} {w : World} {K : PySem.W.Frag} {mg : Str → Option Value} {base : Heap}
theorem scNexts : FnScope ["row"] ["row"] (defScope sNexts) := ⟨rfl, rfl, rfl, by decide +kernel, rfl, by decide +kernel, by decide +kernel⟩
theorem ok_nexts (c : FNexts K mg) (cUsesWorth : FUsesWorth K mg) (Z : Pt K w mg) : FnOk P w K mg base CX0 2 c.f c.fd ["row"] spNexts := by
  have GUsesWorth : FnOk P w K mg base CX0 1 cUsesWorth.f cUsesWorth.fd ["row"] spUses := ok_usesWorth cUsesWorth Z
  refine c.F.ok scNexts (fun vs H Q E h => ?_) (fun cdv A outer s H vs Q E hr h => ?_)
  · obtain ⟨a, r, rfl, _⟩ := h
    rfl
  · obtain ⟨a, r, rfl, ha, k⟩ := h
    refine ⟨_, (pss_cons (ps_if (pt_val (pe_call GUsesWorth (hr.mono (by first | omega | decide)) (by rfl) cUsesWorth.m cUsesWorth.F.kp cUsesWorth.b .nil pass0 (pa_cons (pv 0) pa_nil)))
          (pss_one (ps_ret (pe_slice sl_tupS (pv 0) (po_some pe_int) po_none)))
          pss_nil)
      (pss_one (ps_ret (pe_slice sl_tupS (pv 0) (po_some pe_int) po_none)))), ?_⟩
    have e := nx_drop r
    refine ⟨_, rfl, a, r, rfl, ha, _, rfl, ?_⟩
    cases hu : r.uses with
    | true =>
      rw [hu, if_pos rfl] at e
      refine iteT ⟨_, rfl, _, rfl, a, _, rfl, ha, fun t H' s' h' => k t H' s' ?_⟩
      rw [h', ← e]
      exact congrArg (fun z => some (HO.tup z)) (dropn 2)
    | false =>
      rw [hu, if_neg (by decide)] at e
      refine iteF ⟨_, rfl, _, rfl, a, _, rfl, ha, fun t H' s' h' => k t H' s' ?_⟩
      rw [h', ← e]
      exact congrArg (fun z => some (HO.tup z)) (dropn 1)
theorem scAhead : FnScope ["row"] ["row"] (defScope sAhead) := ⟨rfl, rfl, rfl, by decide +kernel, rfl, by decide +kernel, by decide +kernel⟩
theorem ok_ahead (c : FAhead K mg) (cNexts : FNexts K mg) (cUsesWorth : FUsesWorth K mg) (T : Bt mg) (TS : Bs mg) (Z : Pt K w mg) : FnOk P w K mg base CX0 3 c.f c.fd ["row"] spAhead := by
  have GNexts : FnOk P w K mg base CX0 2 cNexts.f cNexts.fd ["row"] spNexts := ok_nexts cNexts cUsesWorth Z
  refine c.F.ok scAhead (fun vs H Q E h => ?_) (fun cdv A outer s H vs Q E hr h => ?_)
  · obtain ⟨a, r, rfl, _⟩ := h
    rfl
  · obtain ⟨a, r, rfl, ha, k⟩ := h
    refine ⟨_, (pss_one (ps_ret (pe_callB (cr_sortedSet rfl) (by rfl) T.sorted (by decide +kernel) (pa_cons (pe_callTy (cr_setT rfl) (by rfl) TS.set (by decide +kernel) (pa_cons (pe_call GNexts (hr.mono (by first | omega | decide)) (by rfl) cNexts.m cNexts.F.kp cNexts.b .nil pass0 (pa_cons (pv 0) pa_nil)) pa_nil)) pa_nil)))), ?_⟩
    refine ⟨_, rfl, a, r, rfl, ha, fun t H4 s4 e4 => ?_⟩
    rw [nI_ints] at e4
    have hnl := nx_len r
    refine ⟨t, _, rfl, SqT.of e4, by rw [List.length_map]; omega, fun sp c hc hsp => ?_⟩
    rw [List.length_map] at hc
    refine alloc hsp fun H5 s5 e5 => ?_
    refine ⟨sp, _, c, rfl, e5, by omega, fun ms q up mem len hq => ?_⟩
    have em := tgt_of up mem
    refine alloc hq fun H6 s6 e6 => ?_
    rw [em] at e6
    refine k q H6 ((s4.trans s5).trans s6) (s4.free (s5.free hq)) ?_
    rw [e6, nI_ints]
abbrev nGoesMay : List Str := ["program", "pairs", "number", "row", "to"]
end
end DL
namespace DL
open PySem L2 DLR
def fb (now : Int) (place wide : Nat) : Int := now + ((place : Int) - now) % (wide : Int)
def maxL : List Int → Int
  | [] => 0
  | [x] => x
  | x :: y :: l => max x (maxL (y :: l))
def minL : List Int → Int
  | [] => 0
  | [x] => x
  | x :: y :: l => min x (minL (y :: l))
theorem maxL_spec : ∀ {l : List Int}, 0 < l.length → maxL l ∈ l ∧ ∀ y ∈ l, y ≤ maxL l
  | [], h => absurd h (by decide)
  | [x], _ => ⟨List.mem_cons_self, fun y hy => by rw [List.mem_singleton.mp hy]; exact Int.le_refl _⟩
  | x :: z :: l, _ => by
    obtain ⟨h1, h2⟩ := maxL_spec (l := z :: l) (Nat.succ_pos _)
    show max x (maxL (z :: l)) ∈ _ ∧ ∀ y ∈ _, y ≤ max x (maxL (z :: l))
    refine ⟨?_, fun y hy => ?_⟩
    · rcases Int.le_total x (maxL (z :: l)) with q | q
      · rw [Int.max_eq_right q]; exact List.mem_cons_of_mem _ h1
      · rw [Int.max_eq_left q]; exact List.mem_cons_self
    · rcases List.mem_cons.mp hy with e | e
      · rw [e]; omega
      · have := h2 y e
        omega
theorem minL_spec : ∀ {l : List Int}, 0 < l.length → minL l ∈ l ∧ ∀ y ∈ l, minL l ≤ y
  | [], h => absurd h (by decide)
  | [x], _ => ⟨List.mem_cons_self, fun y hy => by rw [List.mem_singleton.mp hy]; exact Int.le_refl _⟩
  | x :: z :: l, _ => by
    obtain ⟨h1, h2⟩ := minL_spec (l := z :: l) (Nat.succ_pos _)
    show min x (minL (z :: l)) ∈ _ ∧ ∀ y ∈ _, min x (minL (z :: l)) ≤ y
    refine ⟨?_, fun y hy => ?_⟩
    · rcases Int.le_total x (minL (z :: l)) with q | q
      · rw [Int.min_eq_left q]; exact List.mem_cons_self
      · rw [Int.min_eq_right q]; exact List.mem_cons_of_mem _ h1
    · rcases List.mem_cons.mp hy with e | e
      · rw [e]; omega
      · have := h2 y e
        omega
theorem maxL_is {l : List Int} {m : Int} (h : m ∈ l) (g : ∀ y ∈ l, y ≤ m) : m = maxL l := by
  obtain ⟨a, b⟩ := maxL_spec (List.length_pos_of_mem h)
  have := b m h
  have := g _ a
  omega
theorem minL_is {l : List Int} {m : Int} (h : m ∈ l) (g : ∀ y ∈ l, m ≤ y) : m = minL l := by
  obtain ⟨a, b⟩ := minL_spec (List.length_pos_of_mem h)
  have := b m h
  have := g _ a
  omega
def comesL (us : List Nat) (read : Int) (W : Nat) : List Int := us.map fun h => fb (read + 1) h W
def comes (y : Lay) (w : Nat) (read : Int) : List Int := comesL (y.homes.getD w []) read y.wide
theorem first_last {ms ns : List Int} (pm : ms.Perm ns) (up : ms.Pairwise (· ≤ ·)) (h : 0 < ns.length) : atI (ms.map V.int) 0 = some (.int (minL ns)) ∧ atI (ms.map V.int) (-1) = some (.int (maxL ns)) := by
  have hl : 0 < ms.length := by rw [pm.length_eq]; exact h
  have pos : ∀ i j (hi : i < ms.length) (hj : j < ms.length), i ≤ j → ms[i] ≤ ms[j] := by
    intro i j hi hj le
    rcases Nat.lt_or_eq_of_le le with q | q
    · exact List.pairwise_iff_getElem.mp up i j hi hj q
    · subst q; exact Int.le_refl _
  constructor
  · have e : ms[0] = minL ns := by
      refine minL_is (pm.mem_iff.mp (List.getElem_mem hl)) fun y hy => ?_
      obtain ⟨j, hj, rfl⟩ := List.mem_iff_getElem.mp (pm.mem_iff.mpr hy)
      exact pos 0 j hl hj (Nat.zero_le _)
    rw [← e]
    exact atI_nat (j := 0) (by rw [List.getElem?_map, List.getElem?_eq_getElem hl]; rfl)
  · have hk : ms.length - 1 < ms.length := by omega
    have e : ms[ms.length - 1] = maxL ns := by
      refine maxL_is (pm.mem_iff.mp (List.getElem_mem hk)) fun y hy => ?_
      obtain ⟨j, hj, rfl⟩ := List.mem_iff_getElem.mp (pm.mem_iff.mpr hy)
      exact pos j _ hj hk (by omega)
    rw [← e]
    have e2 : ms = ms.dropLast ++ [ms[ms.length - 1]] := by
      rw [← List.getLast_eq_getElem (List.ne_nil_of_length_pos hl)]
      exact (List.dropLast_concat_getLast _).symm
    refine (congrArg (fun z => atI (z.map V.int) (-1)) e2).trans ?_
    rw [List.map_append]
    exact atI_last _ _
theorem cut1 : ∀ {ns : List Int}, ns.length ≤ 3 → cutV (ns.map V.int) none (some 1) = (ns.take 1).map V.int
  | [], _ => rfl
  | [x], _ => rfl
  | [x, y], _ => rfl
  | [x, y, z], _ => rfl
  | _ :: _ :: _ :: _ :: _, h => absurd h (by simp only [List.length_cons]; omega)

def useF (y : Lay) (read : Int) : Row → Int
  | .load w _ => minL (comes y w read)
  | .add w _ => minL (comes y w read)
  | .take w _ => minL (comes y w read)
  | .store w _ => maxL (comes y w read)
  | _ => read
def work : Row → Int
  | .load _ _ => 1
  | .add _ _ => 2
  | .take _ _ => 2
  | .store _ _ => 1
  | .say _ => 3
  | .test _ _ => 1
  | .stop => 0
def behindF (y : Lay) (r : Row) (read : Int) : Int := useF y read r + work r + 1
def costF (y : Lay) (rows : List Row) (b t : Nat) : Int := fb (behindF y (rows.getD b .stop) ((y.places.getD b 0 : Nat) : Int)) (y.places.getD t 0) y.wide - ((y.places.getD b 0 : Nat) : Int)
structure Pw (K : Frg) (w : World) (mg : Str → Option Value) where
  d : Addr
  es : Array DictEntry
  n : Nat
  m : mg "WORK" = some (.ref d)
  kd : KDict K w d es n
  at_ : ∀ r : Row, ∃ t : Tok, PySem.W.nsIn K d r.word = some (some (.int (work r) t))
theorem Pw.get {K : Frg} {w : World} {mg : Str → Option Value} (Z : Pw K w mg) (r : Row) : KDct K w Z.d r.word (.int (work r)) := by
  obtain ⟨t, h⟩ := Z.at_ r
  exact ⟨_, _, _, Z.kd.at_, Z.kd.lit, h, ⟨t, rfl⟩⟩
structure Bm (mg : Str → Option Value) : Prop where
  min : mg "min" = none
abbrev sFirstBeat : Stmt := top 35
abbrev sBeatsOfUse : Stmt := top 36
abbrev sBeatOfUse : Stmt := top 37
abbrev sBeatBehind : Stmt := top 38
abbrev sCost : Stmt := top 39
abbrev FFirstBeat (K : Frg) (mg : Str → Option Value) := Fd K mg "first_beat" sFirstBeat ["now", "place", "wide"]
abbrev FBeatsOfUse (K : Frg) (mg : Str → Option Value) := Fd K mg "beats_of_use" sBeatsOfUse ["word", "places", "read", "wide"]
abbrev FBeatOfUse (K : Frg) (mg : Str → Option Value) := Fd K mg "beat_of_use" sBeatOfUse ["row", "read", "laying"]
abbrev FBeatBehind (K : Frg) (mg : Str → Option Value) := Fd K mg "beat_behind" sBeatBehind ["row", "read", "laying"]
abbrev FCost (K : Frg) (mg : Str → Option Value) := Fd K mg "cost" sCost ["program", "laying", "begin", "to"]
def spFirstBeat : Sp := fun vs H Q _ => ∃ (now : Int) (place W : Nat), vs = [.int now, .int (place : Int), .int (W : Int)] ∧ 0 < W ∧ Q (.int (fb now place W)) H
def UseL (st : Bool) (us : List Nat) (read : Int) (W : Nat) (ms : List Int) : Prop := ∃ ns : List Int, ns.Perm (comesL us read W) ∧ ns.Pairwise (· ≤ ·) ∧ ms = if st = true then ns else ns.take 1
def spBeatsOfUse : Sp := fun vs H Q _ => ∃ (x : Str) (a : Addr) (us : List Nat) (read : Int) (W : Nat), vs = [.str x, .ref a, .int read, .int (W : Int)] ∧ H a = some (.tup (us.map nI)) ∧ us.length ≤ 3 ∧ 0 < W ∧
  ∀ q ms H', Same1 H H' → H q = none → H' q = some (.lst (ms.map V.int)) → UseL (decide (V.str x = V.str "store")) us read W ms → Q (.ref q) H'
def spBeatOfUse : Sp := fun vs H Q _ => ∃ (a b : Addr) (r : Row) (read : Int) (y : Lay) (N : Nat), vs = [.ref a, .int read, .ref b] ∧ H a = some (.tup (rowVs r)) ∧ LayAt H b y ∧ 2 ≤ y.wide ∧ (∀ h ∈ y.homes, HomeOk y.wide h) ∧ r.ok y.homes.length N ∧
  ∀ H', Same1 H H' → Q (.int (useF y read r)) H'
def spBeatBehind : Sp := fun vs H Q _ => ∃ (a b : Addr) (r : Row) (read : Int) (y : Lay) (N : Nat), vs = [.ref a, .int read, .ref b] ∧ H a = some (.tup (rowVs r)) ∧ LayAt H b y ∧ 2 ≤ y.wide ∧ (∀ h ∈ y.homes, HomeOk y.wide h) ∧ r.ok y.homes.length N ∧
  ∀ H', Same1 H H' → Q (.int (behindF y r read)) H'
def spCost : Sp := fun vs H Q _ => ∃ (a b : Addr) (p : Prog) (y : Lay) (i t : Nat), vs = [.ref a, .ref b, .int (i : Int), .int (t : Int)] ∧ ProgAt H a p ∧ Good p ∧ LayAt H b y ∧ LayOk p y ∧ i < p.rows.length ∧ t < p.rows.length ∧
  ∀ H', Same1 H H' → Q (.int (costF y p.rows i t)) H'
def costVs (y : Lay) (rows : List Row) (g : Nat × Nat) : List V := [nI g.1, nI g.2, .int (costF y rows g.1 g.2)]
def spCosts : Sp := fun vs H Q _ => ∃ (a b : Addr) (p : Prog) (y : Lay), vs = [.ref a, .ref b] ∧ ProgAt H a p ∧ Good p ∧ LayAt H b y ∧ LayOk p y ∧
  ∀ l bs H', Same1 H H' → H l = none → H' l = some (.lst (bs.map V.ref)) → Paired (fun b g => H' b = some (.tup (costVs y p.rows g))) bs (goesN p.rows p.rows.length) → Q (.ref l) H'
section
variable {P : Program} {w : World} {K : PySem.W.Frag} {mg : Str → Option Value} {base : Heap}
theorem scFirstBeat : FnScope ["now", "place", "wide"] ["now", "place", "wide"] (defScope sFirstBeat) := ⟨rfl, rfl, rfl, by decide +kernel, rfl, by decide +kernel, by decide +kernel⟩
theorem ok_firstBeat (c : FFirstBeat K mg) : FnOk P w K mg base CX0 1 c.f c.fd ["now", "place", "wide"] spFirstBeat := by
  refine c.F.ok scFirstBeat (fun vs H Q E h => ?_) (fun cdv A outer s H vs Q E hr h => ?_)
  · obtain ⟨n, pl, W, rfl, _⟩ := h
    rfl
  · obtain ⟨n, pl, W, rfl, h0, k⟩ := h
    refine ⟨_, (pss_one (ps_ret (pe_op op_add (pv 0) (pe_op op_mod (pe_op op_sub (pv 1) (pv 0)) (pv 2))))), ?_⟩
    exact ⟨_, rfl, _, rfl, _, rfl, _, _, rfl, rfl, _, rfl, _, _, rfl, rfl, (by omega), _, _, rfl, rfl, k⟩
abbrev nBeatsOfUse : List Str := ["word", "places", "read", "wide", "comes", "place"]
theorem scBeatsOfUse : FnScope nBeatsOfUse ["word", "places", "read", "wide"] (defScope sBeatsOfUse) := ⟨rfl, rfl, rfl, by decide +kernel, rfl, by decide +kernel, by decide +kernel⟩
theorem ok_beatsOfUse (c : FBeatsOfUse K mg) (cFirstBeat : FFirstBeat K mg) (T : Bt mg) : FnOk P w K mg base CX0 2 c.f c.fd ["word", "places", "read", "wide"] spBeatsOfUse := by
  have GFirstBeat : FnOk P w K mg base CX0 1 cFirstBeat.f cFirstBeat.fd ["now", "place", "wide"] spFirstBeat := ok_firstBeat cFirstBeat
  refine c.F.ok scBeatsOfUse (fun vs H Q E h => ?_) (fun cdv A outer s H vs Q E hr h => ?_)
  · obtain ⟨x, a, us, read, W, rfl, _⟩ := h
    rfl
  · obtain ⟨x, a, us, read, W, rfl, ha, l3, w0, k⟩ := h
    refine ⟨_, (pss_cons (ps_set (i := 4) scBeatsOfUse.nd rfl (Or.inl rfl) (pe_callB cr_sortedI (by rfl) T.sorted (by decide +kernel) (pa_cons (pe_lc (own := [("place", 5)]) (g := gName 5) (tt := tYes) rfl scBeatsOfUse.nd (pi_tup (pv 1)) (blkOk_by (N := nBeatsOfUse) (sc := defScope sBeatsOfUse) (by decide +kernel)) (fun _ _ _ _ _ => (pg_name (i := 5) scBeatsOfUse.nd rfl (Or.inl rfl))) (fun _ _ _ _ _ => pts_nil) (fun _ _ _ _ _ => (pe_call GFirstBeat (hr.mono (by first | omega | decide)) (by rfl) cFirstBeat.m cFirstBeat.F.kp cFirstBeat.b .nil pass0 (pa_cons (pe_op op_add (pv 2) pe_int) (pa_cons (pv 5) (pa_cons (pv 3) pa_nil)))))) pa_nil)))
      (pss_cons (ps_if (pt_cmpR op_eq (pv 0) pe_str (nomark _))
          (pss_one (ps_ret (pv 4)))
          pss_nil)
      (pss_one (ps_ret (pe_slice sl_list (pv 4) po_none (po_some pe_int)))))), ?_⟩
    refine ⟨_, rfl, a, rfl, ⟨_, SqT.of ha⟩, fun D hD => ?_⟩
    refine lc_tup (K := K) (a := a) (xs := us.map nI) (fun i H' => Same1 H H' ∧ H' D = some (.lst (((comesL us read W).take i).map V.int))) ⟨Same.new hD, upd_same⟩ (fun i H' _ ⟨q, _⟩ => SqT.of (q _ _ ha)) ?_ ?_
    · rintro i z H1 hi ⟨s1, hD1⟩
      rw [List.getElem?_map] at hi
      cases hz : us[i]? with
      | none => rw [hz] at hi; cases hi
      | some h =>
        rw [hz] at hi
        have e : nI h = z := Option.some.inj hi
        subst e
        have hil := (List.getElem?_eq_some_iff.mp hz).1
        refine ⟨rfl, _, rfl, _, _, rfl, rfl, _, rfl, _, rfl, read + 1, h, W, rfl, w0, ?_⟩
        refine ⟨_, hD1, szl (by rw [List.length_map, List.length_take]; omega), Same.mut s1 hD, ?_⟩
        rw [upd_same, List.take_add_one]
        unfold comesL
        rw [List.getElem?_map, hz, List.map_append]
        rfl
    · rintro H1 ⟨s1, hD1⟩
      have hcl : (comesL us read W).length = us.length := by unfold comesL; rw [List.length_map]
      rw [List.length_map, ← hcl, List.take_length] at hD1
      refine ⟨D, _, rfl, SqL.of hD1, fun ns q pm up hq => ?_⟩
      have hnl : ns.length ≤ 3 := by rw [pm.length_eq, hcl]; exact l3
      refine alloc hq fun H2 s2 e2 => ?_
      refine ⟨_, rfl, rfl, _, rfl, ?_⟩
      cases hs : decide (V.str x = V.str "store") with
      | true =>
        rw [hs] at k
        exact iteT ⟨_, rfl, k q ns H2 (s1.trans s2) (s1.free hq) e2 ⟨ns, pm, up, rfl⟩⟩
      | false =>
        rw [hs] at k
        refine iteF ⟨_, rfl, _, rfl, q, _, rfl, SqL.of e2, fun t ht => ?_⟩
        refine alloc ht fun H3 s3 e3 => ?_
        refine k t (ns.take 1) H3 ((s1.trans s2).trans s3) (s1.free (s2.free ht)) ?_ ⟨ns, pm, up, rfl⟩
        rw [e3, cut1 hnl]
abbrev nBeatOfUse : List Str := ["row", "read", "laying", "wide", "_", "homes"]
theorem scBeatOfUse : FnScope nBeatOfUse ["row", "read", "laying"] (defScope sBeatOfUse) := ⟨rfl, rfl, rfl, by decide +kernel, rfl, by decide +kernel, by decide +kernel⟩
theorem useL_last {st : Bool} {us : List Nat} {read : Int} {W : Nat} {ms : List Int} (h : UseL st us read W ms) (l1 : 0 < us.length) : atI (ms.map V.int) (-1) = some (.int (if st = true then maxL (comesL us read W) else minL (comesL us read W))) := by
  obtain ⟨ns, pm, up, rfl⟩ := h
  have hcl : 0 < (comesL us read W).length := by unfold comesL; rw [List.length_map]; exact l1
  obtain ⟨f0, f1⟩ := first_last pm up hcl
  cases st with
  | true => exact f1
  | false =>
    match ns with
    | [] => rw [if_neg (by decide)]; exact absurd f0 (by intro z; cases z)
    | x :: t =>
      have e := at0.symm.trans f0
      show atI [V.int x] (-1) = _
      exact (atI_last [] (V.int x)).trans e
theorem ok_beatOfUse (c : FBeatOfUse K mg) (cBeatsOfUse : FBeatsOfUse K mg) (cFirstBeat : FFirstBeat K mg) (cUsesWorth : FUsesWorth K mg) (T : Bt mg) (Z : Pt K w mg) : FnOk P w K mg base CX0 3 c.f c.fd ["row", "read", "laying"] spBeatOfUse := by
  have GBeatsOfUse : FnOk P w K mg base CX0 2 cBeatsOfUse.f cBeatsOfUse.fd ["word", "places", "read", "wide"] spBeatsOfUse := ok_beatsOfUse cBeatsOfUse cFirstBeat T
  have GUsesWorth : FnOk P w K mg base CX0 1 cUsesWorth.f cUsesWorth.fd ["row"] spUses := ok_usesWorth cUsesWorth Z
  refine c.F.ok scBeatOfUse (fun vs H Q E h => ?_) (fun cdv A outer s H vs Q E hr h => ?_)
  · obtain ⟨a, b, r, read, y, N, rfl, _⟩ := h
    rfl
  · obtain ⟨a, b, r, read, y, N, rfl, ha, ⟨pl, hl, cs, hb, hpl, hhl, hH⟩, w2, hok, ho, k⟩ := h
    have hcl := Paired.length hH
    refine ⟨_, (pss_cons (ps_asg (pv 2) (pg_tup rfl (pgs_cons (pg_name (i := 3) scBeatOfUse.nd rfl (Or.inl rfl)) (pgs_cons (pg_name (i := 4) scBeatOfUse.nd rfl (Or.inl rfl)) (pgs_cons (pg_name (i := 5) scBeatOfUse.nd rfl (Or.inl rfl)) pgs_nil)))))
      (pss_cons (ps_if (pt_not (pt_val (pe_call GUsesWorth (hr.mono (by first | omega | decide)) (by rfl) cUsesWorth.m cUsesWorth.F.kp cUsesWorth.b .nil pass0 (pa_cons (pv 0) pa_nil))))
          (pss_one (ps_ret (pv 1)))
          pss_nil)
      (pss_one (ps_ret (pe_ix ix_list (pe_call GBeatsOfUse (hr.mono (by first | omega | decide)) (by rfl) cBeatsOfUse.m cBeatsOfUse.F.kp cBeatsOfUse.b .nil pass0 (pa_cons (pe_ix ix_tup (pv 0) pe_int (fun _ _ => rfl)) (pa_cons (pe_ix ix_tup (pv 5) (pe_ix ix_tup (pv 0) pe_int (fun _ _ => rfl)) (fun _ _ => rfl)) (pa_cons (pv 1) (pa_cons (pv 3) pa_nil))))) (pe_un un_neg pe_int) (fun _ _ => rfl)))))), ?_⟩
    refine ⟨_, rfl, b, _, rfl, SqT.of hb, rfl, _, _, rfl, _, _, rfl, _, _, rfl, rfl, ?_⟩
    refine ⟨_, rfl, a, r, rfl, ha, _, rfl, ?_⟩
    cases hu : r.uses with
    | false =>
      refine iteT ⟨_, rfl, ?_⟩
      have e : useF y read r = read := by cases r <;> first | rfl | cases hu
      have q := k H (Same.refl _)
      rw [e] at q
      exact q
    | true =>
      have hx1 : ∃ x : Nat, (rowVs r)[1]? = some (.int (x : Int)) ∧ x < y.homes.length ∧ useF y read r = if r.isWd "store" = true then maxL (comes y x read) else minL (comes y x read) := by
        have e := (Row.wd_eq r).2.1
        cases r with
        | load x n => exact ⟨x, rfl, ho.1, by rw [e]; rfl⟩
        | add x n => exact ⟨x, rfl, ho.1, by rw [e]; rfl⟩
        | take x n => exact ⟨x, rfl, ho.1, by rw [e]; rfl⟩
        | store x n => exact ⟨x, rfl, ho.1, by rw [e]; rfl⟩
        | say n => cases hu
        | test a b => cases hu
        | stop => cases hu
      obtain ⟨x, hx, hxl, heq⟩ := hx1
      obtain ⟨cb, hcb1, hcb2⟩ := Paired.getR hH (List.getElem?_eq_getElem hxl)
      have hcV : (cs.map V.ref)[x]? = some (.ref cb) := by rw [List.getElem?_map, hcb1]; rfl
      have hk := hok _ (List.getElem_mem hxl)
      have l1 := hk.l1
      have l3 := hk.l3
      have eg : y.homes.getD x [] = y.homes[x] := by rw [List.getD_eq_getElem?_getD, List.getElem?_eq_getElem hxl]; rfl
      refine iteF ⟨_, rfl, a, _, _, _, rfl, rfl, SqT.of ha, atI_nat (j := 0) (Row.w0 r), _, rfl, _, rfl, a, _, _, _, rfl, rfl, SqT.of ha, atI_nat (j := 1) hx, hl, _, _, _, rfl, rfl, SqT.of hhl, atI_nat hcV, _, rfl, _, rfl, r.word, cb, y.homes[x], read, y.wide, rfl, hcb2, by omega, by omega, fun q ms H1 s1 nq e1 hU => ?_⟩
      refine ⟨_, rfl, q, _, _, _, rfl, rfl, SqL.of e1, useL_last hU (by omega), ?_⟩
      have z := k H1 s1
      rw [heq] at z
      unfold comes at z
      rw [eg] at z
      exact z
theorem scBeatBehind : FnScope ["row", "read", "laying"] ["row", "read", "laying"] (defScope sBeatBehind) := ⟨rfl, rfl, rfl, by decide +kernel, rfl, by decide +kernel, by decide +kernel⟩
theorem ok_beatBehind (c : FBeatBehind K mg) (cBeatOfUse : FBeatOfUse K mg) (cBeatsOfUse : FBeatsOfUse K mg) (cFirstBeat : FFirstBeat K mg) (cUsesWorth : FUsesWorth K mg) (T : Bt mg) (Z : Pt K w mg) (ZW : Pw K w mg) : FnOk P w K mg base CX0 4 c.f c.fd ["row", "read", "laying"] spBeatBehind := by
  have GBeatOfUse : FnOk P w K mg base CX0 3 cBeatOfUse.f cBeatOfUse.fd ["row", "read", "laying"] spBeatOfUse := ok_beatOfUse cBeatOfUse cBeatsOfUse cFirstBeat cUsesWorth T Z
  refine c.F.ok scBeatBehind (fun vs H Q E h => ?_) (fun cdv A outer s H vs Q E hr h => ?_)
  · obtain ⟨a, b, r, read, y, N, rfl, _⟩ := h
    rfl
  · obtain ⟨a, b, r, read, y, N, rfl, ha, hy, w2, hok, ho, k⟩ := h
    refine ⟨_, (pss_one (ps_ret (pe_op op_add (pe_op op_add (pe_call GBeatOfUse (hr.mono (by first | omega | decide)) (by rfl) cBeatOfUse.m cBeatOfUse.F.kp cBeatOfUse.b .nil pass0 (pa_cons (pv 0) (pa_cons (pv 1) (pa_cons (pv 2) pa_nil)))) (pe_ix ix_kdict (pe_glob (v := .ref ZW.d) rfl ZW.m rfl) (pe_ix ix_tup (pv 0) pe_int (fun _ _ => rfl)) (fun _ _ => rfl))) pe_int))), ?_⟩
    refine ⟨_, rfl, _, rfl, _, rfl, a, b, r, read, y, N, rfl, ha, hy, w2, hok, ho, fun H1 s1 => ?_⟩
    refine ⟨_, rfl, a, _, _, _, rfl, rfl, SqT.of (s1 _ _ ha), atI_nat (j := 0) (Row.w0 r), ZW.d, _, _, rfl, rfl, ZW.get r, _, _, rfl, rfl, _, _, rfl, rfl, k H1 s1⟩
abbrev nCost : List Str := ["program", "laying", "begin", "to", "wide", "places", "_", "read", "behind"]
theorem scCost : FnScope nCost ["program", "laying", "begin", "to"] (defScope sCost) := ⟨rfl, rfl, rfl, by decide +kernel, rfl, by decide +kernel, by decide +kernel⟩
theorem nI_at {l : List Nat} {i : Nat} (h : i < l.length) : (l.map nI)[i]? = some (.int ((l.getD i 0 : Nat) : Int)) := by
  rw [List.getElem?_map, List.getD_eq_getElem?_getD, List.getElem?_eq_getElem h]
  rfl
theorem ok_cost (c : FCost K mg) (cBeatBehind : FBeatBehind K mg) (cBeatOfUse : FBeatOfUse K mg) (cBeatsOfUse : FBeatsOfUse K mg) (cFirstBeat : FFirstBeat K mg) (cUsesWorth : FUsesWorth K mg) (T : Bt mg) (Z : Pt K w mg) (ZW : Pw K w mg) : FnOk P w K mg base CX0 5 c.f c.fd ["program", "laying", "begin", "to"] spCost := by
  have GBeatBehind : FnOk P w K mg base CX0 4 cBeatBehind.f cBeatBehind.fd ["row", "read", "laying"] spBeatBehind := ok_beatBehind cBeatBehind cBeatOfUse cBeatsOfUse cFirstBeat cUsesWorth T Z ZW
  have GFirstBeat : FnOk P w K mg base CX0 1 cFirstBeat.f cFirstBeat.fd ["now", "place", "wide"] spFirstBeat := ok_firstBeat cFirstBeat
  refine c.F.ok scCost (fun vs H Q E h => ?_) (fun cdv A outer s H vs Q E hr h => ?_)
  · obtain ⟨a, b, p, y, i, t, rfl, _⟩ := h
    rfl
  · obtain ⟨a, b, p, y, i, t, rfl, ⟨wa, ra, bs, hpa, hwa, hra, hR⟩, g, ⟨pl, hl, cs, hb, hpl, hhl, hH⟩, yk, hi, ht, k⟩ := h
    have er : p.rows.getD i .stop = p.rows[i] := by rw [List.getD_eq_getElem?_getD, List.getElem?_eq_getElem hi]; rfl
    obtain ⟨rb, hb1, hb2⟩ := Paired.getR hR (List.getElem?_eq_getElem hi)
    have hbV : (bs.map V.ref)[i]? = some (.ref rb) := by rw [List.getElem?_map, hb1]; rfl
    have w2 := yk.w2
    refine ⟨_, (pss_cons (ps_asg (pv 1) (pg_tup rfl (pgs_cons (pg_name (i := 4) scCost.nd rfl (Or.inl rfl)) (pgs_cons (pg_name (i := 5) scCost.nd rfl (Or.inl rfl)) (pgs_cons (pg_name (i := 6) scCost.nd rfl (Or.inl rfl)) pgs_nil)))))
      (pss_cons (ps_set (i := 7) scCost.nd rfl (Or.inl rfl) (pe_ix ix_tup (pv 5) (pv 2) (fun _ _ => rfl)))
      (pss_cons (ps_set (i := 8) scCost.nd rfl (Or.inl rfl) (pe_call GBeatBehind (hr.mono (by first | omega | decide)) (by rfl) cBeatBehind.m cBeatBehind.F.kp cBeatBehind.b .nil pass0 (pa_cons (pe_ix ix_tup (pe_ix ix_tup (pv 0) pe_int (fun _ _ => rfl)) (pv 2) (fun _ _ => rfl)) (pa_cons (pv 7) (pa_cons (pv 1) pa_nil)))))
      (pss_one (ps_ret (pe_op op_sub (pe_call GFirstBeat (hr.mono (by first | omega | decide)) (by rfl) cFirstBeat.m cFirstBeat.F.kp cFirstBeat.b .nil pass0 (pa_cons (pv 8) (pa_cons (pe_ix ix_tup (pv 5) (pv 3) (fun _ _ => rfl)) (pa_cons (pv 4) pa_nil)))) (pv 7))))))), ?_⟩
    refine ⟨_, rfl, b, _, rfl, SqT.of hb, rfl, _, _, rfl, _, _, rfl, _, _, rfl, rfl, ?_⟩
    refine ⟨_, rfl, _, rfl, pl, _, _, _, rfl, rfl, SqT.of hpl, atI_nat (nI_at (by rw [yk.pl]; exact hi)), ?_⟩
    refine ⟨_, rfl, a, _, _, _, rfl, rfl, SqT.of hpa, at1, _, rfl, ra, _, _, _, rfl, rfl, SqT.of hra, atI_nat hbV, _, rfl, _, rfl, rb, b, p.rows[i], _, y, p.rows.length, rfl, hb2, ⟨pl, hl, cs, hb, hpl, hhl, hH⟩, w2, yk.hok, ?_, fun H1 s1 => ?_⟩
    · rw [yk.hl]
      exact g.ok _ (List.getElem_mem hi)
    refine ⟨_, rfl, _, rfl, _, rfl, pl, _, _, _, rfl, rfl, SqT.of (s1 _ _ hpl), atI_nat (nI_at (by rw [yk.pl]; exact ht)), _, rfl, _, _, _, rfl, by omega, _, rfl, _, _, rfl, rfl, ?_⟩
    have q := k H1 s1
    unfold costF at q
    rw [er] at q
    exact q
abbrev nCosts : List Str := ["program", "laying", "begin", "to"]
end
end DL
namespace DL
open PySem L2 DLR
theorem whileE {c : TT} {tb : TS} {D : Ends} {σ : L2.St} {H : Hp} (W : Nat → L2.St → Hp → Prop) (R : L2.St → Hp → Prop) (w0 : ∃ m, W m σ H) (key : ∀ σ' H', R σ' H' → D.nx σ' H')
    (turn : ∀ Nx : L2.St → Hp → Prop, (∀ σ' H', R σ' H' → Nx σ' H') → ∀ m σ H, W m σ H → c σ H fun b H1 => if b = true then ∃ N : L2.St → Hp → Prop, (∀ σ' H', N σ' H' → ∃ m', m' < m ∧ W m' σ' H') ∧ tb { D with nx := N, ct := N, bk := D.nx } σ H1 else Nx σ H1) :
    tWhile c tb D σ H := ⟨W, w0, fun m σ H w => turn D.nx key m σ H w⟩
theorem fb_mod {now : Int} {place W : Nat} (h : place < W) : fb now place W % (W : Int) = (place : Int) := by
  unfold fb
  rw [Int.add_comm, Int.emod_add_emod, Int.sub_add_cancel, Int.emod_eq_of_lt (by omega) (by omega)]
theorem fb_ge {now : Int} {place W : Nat} (h : 0 < W) : now ≤ fb now place W ∧ fb now place W < now + (W : Int) := by
  have a := Int.emod_nonneg ((place : Int) - now) (show (W : Int) ≠ 0 by omega)
  have b := Int.emod_lt_of_pos ((place : Int) - now) (show (0 : Int) < (W : Int) by omega)
  unfold fb
  omega
theorem fb_uniq {now x : Int} {place W : Nat} (h : place < W) (h1 : now ≤ x) (h2 : x ≤ fb now place W) (e : x % (W : Int) = (place : Int)) : x = fb now place W := by
  have b := (fb_ge (now := now) (place := place) (show 0 < W by omega)).2
  have m : (fb now place W - x) % (W : Int) = 0 := by
    rw [Int.sub_emod, fb_mod h, e, Int.sub_self, Int.zero_emod]
  rw [Int.emod_eq_of_lt (by omega) (by omega)] at m
  omega
theorem goesN_mem {rows : List Row} {n u v : Nat} (h : (u, v) ∈ goesN rows n) : u < n ∧ v ∈ tgt (rows.getD u .stop) := by
  obtain ⟨k, hk, h2⟩ := List.mem_flatMap.mp h
  obtain ⟨t, ht, e⟩ := List.mem_map.mp h2
  have e1 := congrArg Prod.fst e
  have e2 := congrArg Prod.snd e
  dsimp only at e1 e2
  subst e1 e2
  exact ⟨List.mem_range.mp hk, ht⟩
theorem nx_lt {r : Row} {W N : Nat} (h : r.ok W N) : ∀ x ∈ nx r, x < N := by
  cases r with
  | load w n => intro x hx; rw [List.mem_singleton.mp hx]; exact h.2
  | add w n => intro x hx; rw [List.mem_singleton.mp hx]; exact h.2
  | take w n => intro x hx; rw [List.mem_singleton.mp hx]; exact h.2
  | store w n => intro x hx; rw [List.mem_singleton.mp hx]; exact h.2
  | say n => intro x hx; rw [List.mem_singleton.mp hx]; exact h
  | test a b =>
    intro x hx
    rcases List.mem_cons.mp hx with e | e
    · rw [e]; exact h.1
    · rw [List.mem_singleton.mp e]; exact h.2
  | stop => intro x hx; cases hx
theorem goesN_lt {p : Prog} (g : Good p) {u v : Nat} (h : (u, v) ∈ goesN p.rows p.rows.length) : u < p.rows.length ∧ v < p.rows.length := by
  obtain ⟨h1, h2⟩ := goesN_mem h
  have er : p.rows.getD u .stop = p.rows[u] := by rw [List.getD_eq_getElem?_getD, List.getElem?_eq_getElem h1]; rfl
  rw [er] at h2
  exact ⟨h1, nx_lt (g.ok _ (List.getElem_mem h1)) v ((tgt_mem _ _).mp h2)⟩
def spWait : Sp := fun vs H Q _ => ∃ (now : Int) (place W : Nat), vs = [.int now, .int (place : Int), .int (W : Int)] ∧ place < W ∧ Q (.int (fb now place W)) H
def kAd : Key := .inr "add"
def kTk : Key := .inr "take"
def kSy : Key := .inr "say"
def kSp : Key := .inr "stop"
theorem extra (r : Row) : (valV (mergeK [] [(kAd, V.int 2), (kTk, V.int 2), (kSy, V.int 3), (kSp, V.int 0)]) (.inr r.word)).getD (.int 1) = .int (work r) := by
  cases r <;> (dsimp only [Row.word, work]; decide +kernel)
theorem store_at (r : Row) : (0 : Int) - (if decide (V.str r.word = V.str "store") = true then 1 else 0) = if r.isWd "store" = true then -1 else 0 := by
  show (0 : Int) - (if r.isWd "store" = true then 1 else 0) = _
  cases r.isWd "store" <;> decide
section
variable {P : Program} {w : World} {K : PySem.W.Frag} {mg : Str → Option Value} {base : Heap}
end
end DL
namespace DLR
open PySem PySem.Spec PyProof.Rows L2
/-! ### how often a truth stands in a list; what is never asked -/
def rCntB (K : PySem.W.Frag) : V → List V → Hp → VK → Prop := fun x xs H Q => ∃ (p : Addr) (bs : List Bool) (b : Bool), x = .ref p ∧ xs = [.bl b] ∧ SqL K H p (bs.map V.bl) ∧ Q (.int (bs.count b : Nat)) H
theorem flat_bl : ∀ bs : List Bool, (bs.map V.bl).all flatV = true
  | [] => rfl
  | _ :: bs => flat_bl bs
theorem count_bl (b : Bool) : ∀ {bs : List Bool} {us : List Value}, Vals (bs.map V.bl) us → us.countP (eqU (.bl b)) = bs.count b
  | [], _, .nil => rfl
  | c :: bs, u :: us, .cons r t => by
    rw [List.countP_cons, count_bl b t, eqU_of r rfl, List.count_cons]
    rfl
section
variable {X : Cx}
theorem mt_countB : MtR X "list.count" (rCntB X.K) := by
  intro pins s σ H x xs v us Q I rx rxs h
  obtain ⟨p, bs, b, rfl, rfl, hs, q⟩ := h
  cases rx
  obtain ⟨u, rfl, ru⟩ := rxs.one
  obtain ⟨its, rv, ⟨⟨cls, dd, data, sl⟩, n, ho, hc, hdn, hd⟩, hlen⟩ := I.list hs
  simp only at hc hd
  subst hc hd
  refine call_meets PySem.F.slot_list_count ⟨_, ho, rfl⟩ PySem.F.entry_list_count (PySem.F.args_list_count_2 _ _)
    (SeqAt.list_countAt p its.toArray n dd sl u (eqU (.bl b))) ⟨ho, fun y hy => mem_eqAt ru rfl rv (flat_bl bs) y (by simpa using hy), ?_⟩
  refine ⟨.int (bs.count b : Nat), H, I.tok _, ⟨s.toks, ?_⟩, q⟩
  show Value.int ((its.toArray.toList.countP (eqU (.bl b)) : Nat) : Int) s.toks = Value.int ((bs.count b : Nat) : Int) s.toks
  rw [show its.toArray.toList = its from rfl, count_bl b rv]
def tNo : TE := fun _ _ _ => False
theorem pe_no {e : Expr} : PE X e tNo := ⟨fun _ _ _ _ _ _ h => h.elim⟩
end
end DLR
namespace DL
open PySem L2 DLR LamX
/-! ### what a work told, or as what it was refused -/
structure Er (mg : Str → Option Value) where
  BP : Addr
  BL : Addr
  BF : Addr
  BG : Addr
  BE : Addr
  TM : Addr
  OV : Addr
  BT : Addr
  DE : Addr
  mBP : mg "BadProgram" = some (.ref BP)
  mBL : mg "BadLaying" = some (.ref BL)
  mBF : mg "BadFuel" = some (.ref BF)
  mBG : mg "BadGoes" = some (.ref BG)
  mBE : mg "BadPaper" = some (.ref BE)
  mTM : mg "TooMany" = some (.ref TM)
  mOV : mg "Over" = some (.ref OV)
  mBT : mg "BadText" = some (.ref BT)
  mDE : mg "DrumError" = some (.ref DE)
  VE : mg "ValueError" = none
def wordJ : Nat → Str
  | 0 => "program"
  | 1 => "laying"
  | 2 => "fuel"
  | 3 => "goes"
  | 4 => "paper"
  | 5 => "many"
  | 6 => "over"
  | _ => "text"
structure Knd (K : Frg) {mg : Str → Option Value} (E : Er mg) (D : Addr) (j : Nat) : Prop where
  ex : ExcC K D
  one : PySem.W.exmOne K (.ref D) (.ref E.DE) = some true
  ve : PySem.W.kitOne K (.ref D) (.type "ValueError") = some true
  k0 : PySem.W.kitOne K (.ref D) (.ref E.BP) = some (decide (0 = j))
  k1 : PySem.W.kitOne K (.ref D) (.ref E.BL) = some (decide (1 = j))
  k2 : PySem.W.kitOne K (.ref D) (.ref E.BF) = some (decide (2 = j))
  k3 : PySem.W.kitOne K (.ref D) (.ref E.BG) = some (decide (3 = j))
  k4 : PySem.W.kitOne K (.ref D) (.ref E.BE) = some (decide (4 = j))
  k5 : PySem.W.kitOne K (.ref D) (.ref E.TM) = some (decide (5 = j))
  k6 : PySem.W.kitOne K (.ref D) (.ref E.OV) = some (decide (6 = j))
  k7 : PySem.W.kitOne K (.ref D) (.ref E.BT) = some (decide (7 = j))
  j : j = 2 ∨ j = 3 ∨ j = 5 ∨ j = 6
abbrev sTold : Stmt := top 60
abbrev nTold : List Str := ["_law_work", "e", "_law_kinds", "_law_word"]
theorem scTold : FnScope nTold ["_law_work"] (defScope sTold) := ⟨rfl, rfl, rfl, by decide +kernel, rfl, by decide +kernel, by decide +kernel⟩
def suiteOf : Stmt → List Stmt
  | .Try _ [.ExceptHandler _ _ b _] _ _ _ => b
  | _ => []
abbrev toldSuite : List Stmt := suiteOf ((defBody sTold).getD 0 (.Pass ⟨0, 0, 0, 0⟩))
theorem at_kinds {j : Nat} (h : j = 2 ∨ j = 3 ∨ j = 5 ∨ j = 6) : ([decide (0 = j), decide (1 = j), decide (2 = j), decide (3 = j)] ++ [decide (4 = j), decide (5 = j), decide (6 = j), decide (7 = j)]).count true = 1 ∧
    atI [V.str "program", V.str "laying", V.str "fuel", V.str "goes", V.str "paper", V.str "many", V.str "over", V.str "text"] (j : Int) = some (.str (wordJ j)) ∧
    ((([decide (0 = j), decide (1 = j), decide (2 = j), decide (3 = j)] ++ [decide (4 = j), decide (5 = j), decide (6 = j), decide (7 = j)] : List Bool).map V.bl)[j]? = some (.bl true)) ∧
    (∀ (m : Nat) (z' : V), m < j → (([decide (0 = j), decide (1 = j), decide (2 = j), decide (3 = j)] ++ [decide (4 = j), decide (5 = j), decide (6 = j), decide (7 = j)] : List Bool).map V.bl)[m]? = some z' → eqV z' (.bl true) = false) ∧
    decide (V.str (wordJ j) = V.str "program") = false ∧ decide (V.str (wordJ j) = V.str "laying") = false ∧ decide (V.str (wordJ j) = V.str "paper") = false ∧ decide (V.str (wordJ j) = V.str "text") = false := by
  have low : ∀ {l : List V} {j : Nat}, (∀ i, i < j → ∃ z, l[i]? = some z ∧ eqV z (.bl true) = false) → ∀ (m : Nat) (z' : V), m < j → l[m]? = some z' → eqV z' (.bl true) = false := by
    intro l j h m z' hm e
    obtain ⟨z, h1, h2⟩ := h m hm
    rw [h1] at e
    rw [← Option.some.inj e]
    exact h2
  rcases h with rfl | rfl | rfl | rfl
  · refine ⟨by decide +kernel, rfl, rfl, low fun i hi => ?_, by decide +kernel, by decide +kernel, by decide +kernel, by decide +kernel⟩
    match i, hi with
    | 0, _ => exact ⟨_, rfl, rfl⟩
    | 1, _ => exact ⟨_, rfl, rfl⟩
  · refine ⟨by decide +kernel, rfl, rfl, low fun i hi => ?_, by decide +kernel, by decide +kernel, by decide +kernel, by decide +kernel⟩
    match i, hi with
    | 0, _ => exact ⟨_, rfl, rfl⟩
    | 1, _ => exact ⟨_, rfl, rfl⟩
    | 2, _ => exact ⟨_, rfl, rfl⟩
  · refine ⟨by decide +kernel, rfl, rfl, low fun i hi => ?_, by decide +kernel, by decide +kernel, by decide +kernel, by decide +kernel⟩
    match i, hi with
    | 0, _ => exact ⟨_, rfl, rfl⟩
    | 1, _ => exact ⟨_, rfl, rfl⟩
    | 2, _ => exact ⟨_, rfl, rfl⟩
    | 3, _ => exact ⟨_, rfl, rfl⟩
    | 4, _ => exact ⟨_, rfl, rfl⟩
  · refine ⟨by decide +kernel, rfl, rfl, low fun i hi => ?_, by decide +kernel, by decide +kernel, by decide +kernel, by decide +kernel⟩
    match i, hi with
    | 0, _ => exact ⟨_, rfl, rfl⟩
    | 1, _ => exact ⟨_, rfl, rfl⟩
    | 2, _ => exact ⟨_, rfl, rfl⟩
    | 3, _ => exact ⟨_, rfl, rfl⟩
    | 4, _ => exact ⟨_, rfl, rfl⟩
    | 5, _ => exact ⟨_, rfl, rfl⟩
theorem relRef {C : Addr} : ∀ u, RelV (.ref C) u → u = .ref C := fun u h => by cases h; rfl
theorem relTy {C : String} : ∀ u, RelV (.ty C) u → u = .type C := fun u h => by cases h; rfl
section
variable {X : Cx}
theorem told_suite (E : Er X.mg) (T : Bt X.mg) {g : Addr} {cdg : Value} {s : Shared} {H0 : Hp} {CX : CXT} {E0 : XK} {j : Nat} {D a : Addr} {oe : Obj} {pn : List (Addr × Obj)} (kn : Knd X.K E D j) (hz : Zc (.ref D) none oe) (hf : ∃ vs, oe.data = .fields vs) :
    ∃ t, PSs ((cxOf CX X.prog X.w X.K X.mg X.base nTold "_law_told" (defScope sTold) g cdg X.A X.stack s H0 E0).nox.suite a ((a, oe) :: pn)) toldSuite t ∧
      ∀ (D : Ends) (σ : L2.St) (H : Hp), σ.length = 4 → σ[1]? = some (some (.ref a)) → (∀ t' H', Same1 H H' → H' t' = some (.tup [.str (wordJ j)]) → D.rt (.ref t') H') → t D σ H := by
  refine ⟨_, (pss_cons (ps_set (i := 2) scTold.nd rfl (Or.inl rfl) (pe_lst (pa_cons (pe_callB (call_isE kn.ex hz hf) (by rfl) T.isinstance (by decide +kernel) (pa_cons (pv 1) (pa_cons (pe_glob (v := .ref E.BP) rfl E.mBP rfl) pa_nil))) (pa_cons (pe_callB (call_isE kn.ex hz hf) (by rfl) T.isinstance (by decide +kernel) (pa_cons (pv 1) (pa_cons (pe_glob (v := .ref E.BL) rfl E.mBL rfl) pa_nil))) (pa_cons (pe_callB (call_isE kn.ex hz hf) (by rfl) T.isinstance (by decide +kernel) (pa_cons (pv 1) (pa_cons (pe_glob (v := .ref E.BF) rfl E.mBF rfl) pa_nil))) (pa_cons (pe_callB (call_isE kn.ex hz hf) (by rfl) T.isinstance (by decide +kernel) (pa_cons (pv 1) (pa_cons (pe_glob (v := .ref E.BG) rfl E.mBG rfl) pa_nil))) pa_nil))))))
      (pss_cons (ps_set (i := 2) scTold.nd rfl (Or.inl rfl) (pe_op op_cat (pv 2) (pe_lst (pa_cons (pe_callB (call_isE kn.ex hz hf) (by rfl) T.isinstance (by decide +kernel) (pa_cons (pv 1) (pa_cons (pe_glob (v := .ref E.BE) rfl E.mBE rfl) pa_nil))) (pa_cons (pe_callB (call_isE kn.ex hz hf) (by rfl) T.isinstance (by decide +kernel) (pa_cons (pv 1) (pa_cons (pe_glob (v := .ref E.TM) rfl E.mTM rfl) pa_nil))) (pa_cons (pe_callB (call_isE kn.ex hz hf) (by rfl) T.isinstance (by decide +kernel) (pa_cons (pv 1) (pa_cons (pe_glob (v := .ref E.OV) rfl E.mOV rfl) pa_nil))) (pa_cons (pe_callB (call_isE kn.ex hz hf) (by rfl) T.isinstance (by decide +kernel) (pa_cons (pv 1) (pa_cons (pe_glob (v := .ref E.BT) rfl E.mBT rfl) pa_nil))) pa_nil)))))))
      (pss_cons (ps_if (PW.pt (pw_or (pt_cmpR op_ne (pe_bm PySem.F.plainAttrs_list PySem.F.slot_list_count PySem.F.type_list_count mt_countB (pv 2) (pa_cons pe_bl pa_nil)) pe_int (nomark _)) (pw_or1 (pt_not (pt_val (pe_callB (call_isE kn.ex hz hf) (by rfl) T.isinstance (by decide +kernel) (pa_cons (pv 1) (pa_cons (pe_bltn (v := .ty "ValueError") (by rfl) E.VE (by decide +kernel) rfl) pa_nil))))))))
          (pss_one ps_never)
          pss_nil)
      (pss_cons (ps_set (i := 3) scTold.nd rfl (Or.inl rfl) (pe_ix ix_list (pe_lst (pa_cons pe_str (pa_cons pe_str (pa_cons pe_str (pa_cons pe_str (pa_cons pe_str (pa_cons pe_str (pa_cons pe_str (pa_cons pe_str pa_nil))))))))) (pe_bm PySem.F.plainAttrs_list PySem.F.slot_list_index PySem.F.type_list_index mt_index (pv 2) (pa_cons pe_bl pa_nil)) (fun _ _ => rfl)))
      (pss_cons (ps_if (pt_cmpR op_eq (pv 3) pe_str (nomark _))
          (pss_one ps_never)
          pss_nil)
      (pss_cons (ps_if (pt_cmpR op_eq (pv 3) pe_str (nomark _))
          (pss_one ps_never)
          pss_nil)
      (pss_cons (ps_if (pt_cmpR op_eq (pv 3) pe_str (nomark _))
          (pss_one ps_never)
          pss_nil)
      (pss_one (ps_ret (pe_ifExp (pt_cmpR op_eq (pv 3) pe_str (nomark _)) pe_no (pe_tup (pa_cons (pv 3) pa_nil)))))))))))), ?_⟩
  intro D' σ H hl h1 hq
  obtain ⟨x0, x1, x2, x3, rfl⟩ : ∃ x0 x1 x2 x3, σ = [x0, x1, x2, x3] := by
    match σ, hl with
    | [x0, x1, x2, x3], _ => exact ⟨x0, x1, x2, x3, rfl⟩
  have h1 : x1 = some (.ref a) := Option.some.inj h1
  subst h1
  obtain ⟨q1, q2, q3, q4, q5, q6, q7, q8⟩ := at_kinds kn.j
  refine ⟨_, rfl, .ref E.BP, .ref E.BP, _, rfl, relRef, kn.k0, _, rfl, .ref E.BL, .ref E.BL, _, rfl, relRef, kn.k1, _, rfl, .ref E.BF, .ref E.BF, _, rfl, relRef, kn.k2, _, rfl, .ref E.BG, .ref E.BG, _, rfl, relRef, kn.k3, (by show 4 ≤ sizeLine; decide), fun l1 hl1 => ?_⟩
  refine alloc hl1 fun H1 s1 e1 => ?_
  refine ⟨_, rfl, _, rfl, .ref E.BE, .ref E.BE, _, rfl, relRef, kn.k4, _, rfl, .ref E.TM, .ref E.TM, _, rfl, relRef, kn.k5, _, rfl, .ref E.OV, .ref E.OV, _, rfl, relRef, kn.k6, _, rfl, .ref E.BT, .ref E.BT, _, rfl, relRef, kn.k7, (by show 4 ≤ sizeLine; decide), fun l2 hl2 => ?_⟩
  refine alloc hl2 fun H2 s2 e2 => ?_
  refine ⟨l1, l2, _, _, rfl, rfl, s2 _ _ e1, e2, (by show 8 ≤ sizeLine; decide), fun l3 hl3 => ?_⟩
  refine alloc hl3 fun H3 s3 e3 => ?_
  have e3 : H3 l3 = some (.lst (([decide (0 = j), decide (1 = j), decide (2 = j), decide (3 = j)] ++ [decide (4 = j), decide (5 = j), decide (6 = j), decide (7 = j)] : List Bool).map V.bl)) := e3
  generalize hk : ([decide (0 = j), decide (1 = j), decide (2 = j), decide (3 = j)] ++ [decide (4 = j), decide (5 = j), decide (6 = j), decide (7 = j)] : List Bool) = ks at q1 q3 q4 e3
  refine ⟨_, rfl, .inl ⟨rfl, _, SqL.of e3⟩, l3, ks, true, rfl, rfl, SqL.of e3, ?_⟩
  rw [q1]
  refine ⟨rfl, _, rfl, ?_⟩
  rw [show (!decide (V.int ((1 : Nat) : Int) = V.int 1)) = false by decide +kernel]
  refine iteF ⟨_, rfl, .ty "ValueError", .type "ValueError", true, rfl, relTy, kn.ve, _, rfl, ?_⟩
  refine iteF ?_
  refine ⟨(by show 8 ≤ sizeLine; decide), fun l4 hl4 => ?_⟩
  refine alloc hl4 fun H4 s4 e4 => ?_
  refine ⟨_, rfl, .inl ⟨rfl, _, SqL.of (s4 _ _ e3)⟩, l3, _, _, j, _, rfl, rfl, SqL.of (s4 _ _ e3), rfl, flat_bl ks, q3, rfl, q4, ?_⟩
  refine ⟨l4, _, _, _, rfl, rfl, SqL.of e4, q2, ?_⟩
  refine ⟨_, rfl, rfl, _, rfl, ?_⟩
  rw [q5]
  refine iteF ⟨_, rfl, rfl, _, rfl, ?_⟩
  rw [q6]
  refine iteF ⟨_, rfl, rfl, _, rfl, ?_⟩
  rw [q7]
  refine iteF ⟨_, rfl, rfl, _, rfl, ?_⟩
  rw [q8]
  refine iteF ⟨_, rfl, (by show 1 ≤ sizeLine; decide), fun t ht => ?_⟩
  refine alloc ht fun H5 s5 e5 => ?_
  exact hq t H5 ((((s1.trans s2).trans s3).trans s4).trans s5) e5
end
end DL
namespace DL
open PySem PySem.Spec PyProof.Rows L2 DLR LamX
def TTd (K : Frg) {mg : Str → Option Value} (E : Er mg) : (XK → Hp → VK → Prop) → Hp → VK → Prop := fun tl H Q =>
  tl (fun cls d H' => ∃ (D : Addr) (j : Nat), Knd K E D j ∧ cls = .ref D ∧ d = none ∧ ∀ t H'', Same1 H' H'' → H'' t = some (.tup [.str (wordJ j)]) → Q (.ref t) H'') H Q
section
variable {X : Cx}
def tsTold (K : Frg) {mg : Str → Option Value} (E : Er mg) : Addr → Value → Option Addr → TS := fun a cls d D σ H =>
  σ.length = 4 → σ[1]? = some (some (.ref a)) ∧ ∃ (D0 : Addr) (j : Nat), Knd K E D0 j ∧ cls = .ref D0 ∧ d = none ∧ ∀ t H'', Same1 H H'' → H'' t = some (.tup [.str (wordJ j)]) → D.rt (.ref t) H''
theorem told_ok (E : Er X.mg) (T : Bt X.mg) {g : Addr} {cdg : Value} {q : Str} : GivesTo X nTold "_law_told" (defScope sTold) g cdg (defBody sTold) "_law_work" q (TTd X.K E) := by
  intro f c' s H Q tl act hc h
  refine ⟨_, pss_one (ps_try_as (X := (cxOf C8.CX0 X.prog X.w X.K X.mg X.base nTold "_law_told" (defScope sTold) g cdg X.A X.stack s H C8.E0).nox) (c := .ref E.DE) (i := 1)
      (tb := fun W D σ H => ∃ Ech : XK, (∀ cls d σ' H', Ech cls d H' → W cls d σ' H') ∧ σ[0]? = some (some (.ref f)) ∧ H c' = some (CodeO c' q) ∧ tl Ech H D.rt)
      (ts := tsTold X.K E) rfl rfl scTold.nd rfl rfl ⟨by rfl, by decide, .inl E.mDE⟩ LamX.takes0 (fun W pn xe tk _ => ?_) (fun a oe cls d pn hz hf => ?_)), ?_⟩
  · refine ⟨fun pins s' σ H' D I h' => ?_⟩
    obtain ⟨Ech, hW, h1, h2, h3⟩ := h'
    exact (pss_one (ps_ret (act W pn xe Ech _ _ tk hW))).run pins s' σ H' D I ⟨h1, h2, h3⟩
  · refine ⟨fun pins s' σ H' D I h' => ?_⟩
    have hl : σ.length = 4 := I.len
    obtain ⟨h1, D0, j, kn, rfl, rfl, hq⟩ := h' hl
    obtain ⟨t, ht, hr⟩ := told_suite (X := X) (g := g) (cdg := cdg) (s := s) (H0 := H) (CX := C8.CX0) (E0 := C8.E0) (a := a) (pn := pn) E T kn hz hf
    exact ht.run pins s' σ H' D I (hr D σ H' hl h1 hq)
  · refine ⟨fun cls d H' => ∃ (D : Addr) (j : Nat), Knd X.K E D j ∧ cls = .ref D ∧ d = none ∧ ∀ t H'', Same1 H' H'' → H'' t = some (.tup [.str (wordJ j)]) → Q (.ref t) H'', ?_, rfl, hc, h⟩
    rintro cls d σ' H' ⟨D, j, kn, rfl, rfl, hq⟩
    refine ⟨true, kn.one, fun _ a ha => ?_, fun z => by cases z⟩
    intro hl
    rw [List.length_set] at hl
    refine ⟨?_, D, j, kn, rfl, rfl, hq⟩
    rw [List.getElem?_set_self (by omega)]
end
structure OvK (K : Frg) (D : Addr) : Prop where
  x : PySem.W.excIn K D [.type "ValueError", .type "Exception", .type "BaseException", .type "object"] "ValueError.__new__" = true
  k : PySem.W.keepIn K (.ref D) = true
  b : PySem.W.subIn K (.ref D) (.type "BaseException") = some true
  t : PySem.W.typeIn K (.ref D) = some (.type "type")
end DL
namespace DLR
open PySem PySem.Spec PyProof.Rows L2 PySem.W
open DL (nI)
/-! ### sorted(xs), xs a list of tuples of whole numbers, of any lengths but 0 -/
def natsP (l : List Nat) : List PyData := (l.map fun n : Nat => (n : Int)).map .int
def encI (l : List Nat) : PyData := .tuple (natsP l)
def TupsI (H : Hp) (bs : List Addr) (L : List (List Nat)) : Prop := Paired (fun b l => H b = some (.tup (l.map nI))) bs L
theorem intsD_at {K : PySem.W.Frag} {H : Hp} : ∀ l : List Nat, DpAll K H (l.map nI) (natsP l)
  | [] => .nil
  | x :: l => .cons (.int (x : Int)) (intsD_at l)
theorem encI_at {K : PySem.W.Frag} {H : Hp} {b : Addr} {l : List Nat} (h : H b = some (.tup (l.map nI))) : Dp K H (.ref b) (encI l) := .tup (SqT.of h) (intsD_at l)
theorem encI_dep (l : List Nat) : (encI l).depth ≤ 1 := by
  unfold encI natsP
  rw [PyData.depth, depth_ints]
  decide
def sortI2 (L : List (List Nat)) : List (List Nat) := L.mergeSort (dataLe false encI)
def rSortTI (K : PySem.W.Frag) : List V → Hp → VK → Prop := fun vs H Q => ∃ (a : Addr) (bs : List Addr) (L : List (List Nat)), vs = [V.ref a] ∧ SqL K H a (bs.map V.ref) ∧ TupsI H bs L ∧ (∀ l ∈ L, l ≠ []) ∧
  ∀ (cs : List Addr) (p : Addr), H p = none → cs.length = L.length → TupsI H cs (sortI2 L) → Q (.ref p) (upd H p (.lst (cs.map V.ref)))
theorem each_tups {H : Hp} : ∀ {bs : List Addr} {L : List (List Nat)} {its : List Value}, TupsI H bs L → Vals (bs.map V.ref) its → EachIs (fun v l => ∃ b, v = Value.ref b ∧ H b = some (.tup (l.map nI))) its L
  | [], [], [], .nil, _ => .nil
  | b :: bs, l :: L, _, .cons h t, .cons r rs => .cons ⟨b, r, h⟩ (each_tups t rs)
theorem back_tups {H : Hp} : ∀ {out : List Value} {L : List (List Nat)}, EachIs (fun v l => ∃ b, v = Value.ref b ∧ H b = some (.tup (l.map nI))) out L → ∃ cs : List Addr, Vals (cs.map V.ref) out ∧ TupsI H cs L
  | _, _, .nil => ⟨[], .nil, .nil⟩
  | _, _, .cons ⟨b, e, h⟩ t => by
    obtain ⟨cs, h1, h2⟩ := back_tups t
    exact ⟨b :: cs, .cons e h1, .cons h h2⟩
theorem tups_len {H : Hp} {bs : List Addr} {L : List (List Nat)} (h : TupsI H bs L) : bs.length = L.length := Paired.length h
theorem cr_sortedTI {X : Cx} (hu : X.A.units + 64 < cLine) : CallR X (.builtin "sorted") (rSortTI X.K) := by
  intro pins s σ H vs us Q I r h
  obtain ⟨a, bs, L, rfl, hs, hT, hne, q⟩ := h
  obtain ⟨its, rv, hl, hz⟩ := I.list hs
  rw [Vals.ref1 r]
  have e := each_tups hT rv
  have hlen := tups_len hT
  rw [List.length_map] at hz
  refine sorted_data (enc := encI) (bs := L) hl.isList e (e.mono fun v l ⟨b, ev, hb⟩ => by subst ev; exact Dp.reads I _ (.ref b) _ (encI_at hb) rfl) (fun d hd d' hd' => ?_) (.inl fun d hd => ?_) (by omega) (fun l _ => ?_) fun out hlo ho => ?_
  · obtain ⟨l, _, rfl⟩ := List.mem_map.mp hd
    obtain ⟨l', _, rfl⟩ := List.mem_map.mp hd'
    exact alike_ints _ _
  · obtain ⟨l, hm, rfl⟩ := List.mem_map.mp hd
    match l, hne l hm with
    | x :: r, _ => exact ⟨_, _, rfl⟩
  · have := encI_dep l
    omega
  · obtain ⟨cs, h1, h2⟩ := back_tups ho
    obtain ⟨ep, he'⟩ := PyProof.Rows.sortedAll_at s.heap its out.toArray
    have hcl : cs.length = L.length := by
      have z := h1.length
      rw [List.length_map] at z
      omega
    refine ⟨.ref _, upd H (s.heap.objs.size + 1) (.lst (cs.map V.ref)), I.laid (t' := s.toks) (fun _ _ => PyProof.Rows.sortedAll_old) (Nat.le_succ _) ⟨?_, out, ep, h1, he'⟩, rfl, q _ _ (I.hok.fresh (Nat.le_succ _)) hcl h2⟩
    rw [List.length_map, hcl, ← hlen]
    exact hz
end DLR
namespace DLR
open PySem PySem.Spec PyProof.Rows L2
theorem op_notIn_seqK {X : Cx} (K0 : PySem.W.Frag) (hK : X.K = K0) : OpR X (compareOp .NotIn) (rIn K0 true) := hK ▸ op_notIn_seq
theorem pa_starK {X : Cx} {e : Expr} {es : List Expr} {te : TE} {t : TA} {p : Pos} (K0 : PySem.W.Frag) (hK : X.K = K0) (he : PE X e te) (hr : PA X es t) (hs : starEach (.Starred e p :: es) X.env = (true, eval e X.env) :: starEach es X.env := by rfl) : PA X (.Starred e p :: es) (StX.tStar K0 te t) := by
  subst hK
  exact StX.pa_star he hr hs
end DLR
namespace DL
open PySem PySem.Spec L2 DLR
/-! ### the loops of a program -/
structure Cg (mg : Str → Option Value) where
  tG : Tok
  mG : mg "MOST_LOOPS" = some (.int 100 tG)
structure Cs (mg : Str → Option Value) where
  tS : Tok
  mS : mg "MOST_STRETCHES" = some (.int 3000 tS)
def stepsOf (rows : List Row) (start : Nat) (s : List Nat) : List (List Nat) := ((tgt (rows.getD (s.getLastD 0) .stop)).filter fun t => decide (start < t) && decide (t ∉ s)).map fun t => s ++ [t]
def dfs (rows : List Row) (start : Nat) : Nat → List (List Nat) → List (List Nat) → Option (Nat × List (List Nat))
  | n, [], f => some (n, f)
  | 0, _ :: _, _ => none
  | n + 1, s :: st, f => dfs rows start n ((stepsOf rows start s).reverse ++ st) (if start ∈ tgt (rows.getD (s.getLastD 0) .stop) then f ++ [s] else f)
theorem dfs_nil (rows : List Row) (start n : Nat) (f : List (List Nat)) : dfs rows start n [] f = some (n, f) := by cases n <;> rfl
def dfsAll (rows : List Row) : List Nat → Nat → List (List Nat) → Option (Nat × List (List Nat))
  | [], n, f => some (n, f)
  | s :: ss, n, f => match dfs rows s n [[s]] f with
    | none => none
    | some (n', f') => dfsAll rows ss n' f'
def loopsF (rows : List Row) : Option (List (List Nat)) := match dfsAll rows (List.range rows.length) 3000 [] with
  | none => none
  | some (_, f) => if 100 < f.length then none else some (sortI2 f)
structure Str_ (N : Nat) (s : List Nat) : Prop where
  ne : s ≠ []
  nd : s.Nodup
  lt : ∀ x ∈ s, x < N
theorem sub_len {α : Type} [DecidableEq α] : ∀ {l m : List α}, l.Nodup → (∀ x ∈ l, x ∈ m) → l.length ≤ m.length
  | [], _, _, _ => Nat.zero_le _
  | x :: l, m, nd, h => by
    obtain ⟨h1, h2⟩ := List.nodup_cons.mp nd
    have q := sub_len (m := m.erase x) h2 fun y hy => (List.mem_erase_of_ne (fun e => h1 (by rw [← e]; exact hy))).mpr (h y (List.mem_cons_of_mem _ hy))
    rw [List.length_erase_of_mem (h x List.mem_cons_self)] at q
    have p := List.length_pos_of_mem (h x List.mem_cons_self)
    rw [List.length_cons]
    omega
theorem Str_.len {N : Nat} {s : List Nat} (h : Str_ N s) : s.length ≤ N := by
  have q := sub_len h.nd (m := List.range N) fun x hx => List.mem_range.mpr (h.lt x hx)
  rw [List.length_range] at q
  exact q
theorem Str_.last {N : Nat} {s : List Nat} (h : Str_ N s) : ∃ x, s[s.length - 1]? = some x ∧ s.getLastD 0 = x ∧ x < N := by
  obtain ⟨ne, nd, lt⟩ := h
  refine ⟨s.getLast ne, ?_, ?_, lt _ (List.getLast_mem ne)⟩
  · rw [← List.getLast?_eq_getElem?, List.getLast?_eq_some_getLast ne]
  · rw [List.getLastD_eq_getLast?, List.getLast?_eq_some_getLast ne]
    rfl
theorem inV_n (j : Nat) : ∀ L : List Nat, inV (nI j) (L.map nI) = decide (j ∈ L)
  | [] => rfl
  | x :: L => by
    show (eqV (nI x) (nI j) || inV (nI j) (L.map nI)) = _
    rw [inV_n j L]
    have e : eqV (nI x) (nI j) = decide (x = j) := by
      show decide ((x : Int) = (j : Int)) = _
      by_cases h : x = j
      · rw [decide_eq_true h]
        exact decide_eq_true (by omega)
      · rw [decide_eq_false h]
        exact decide_eq_false (by omega)
    rw [e]
    by_cases h : x = j
    · subst h
      simp
    · simp [h, Ne.symm h]
theorem flat_n : ∀ L : List Nat, (L.map nI).all flatV = true
  | [] => rfl
  | x :: L => flat_n L
theorem whileP {c : TT} {tb : TS} {D : Ends} {σ : L2.St} {H : Hp} (W : Nat → L2.St → Hp → Prop) (R : L2.St → Hp → Prop) (w0 : ∃ m, W m σ H) (key : ∀ σ' H', R σ' H' → D.nx σ' H')
    (turn : ∀ Nx : L2.St → Hp → Prop, (∀ σ' H', R σ' H' → Nx σ' H') → ∀ m σ H, W m σ H → c σ H fun b H1 => if b = true then ∃ N : L2.St → Hp → Prop, (∀ σ' H', N σ' H' → ∃ m', m' < m ∧ W m' σ' H') ∧ tb { D with nx := N, ct := N, bk := D.nx } σ H1 else Nx σ H1) :
    tWhile c tb D σ H := ⟨W, w0, fun m σ H w => turn D.nx key m σ H w⟩
abbrev TupsN (H : Hp) (bs : List Addr) (L : List (List Nat)) : Prop := TupsI H bs L
theorem TupsN.kp {H H' : Hp} {bs : List Addr} {L : List (List Nat)} (h : TupsN H bs L) (k : Kp H H') : TupsN H' bs L := Paired.mapP h fun b x e => k _ _ e
theorem tups_last {H : Hp} {x : List Nat} : ∀ {bs : List Addr} {L : List (List Nat)}, TupsN H bs (L ++ [x]) → ∃ b0 b, bs = b0 ++ [b] ∧ TupsN H b0 L ∧ H b = some (.tup (x.map nI))
  | _, [], .cons h .nil => ⟨[], _, rfl, .nil, h⟩
  | _, l :: L, .cons h t => by
    obtain ⟨b0, b, e, h1, h2⟩ := tups_last t
    exact ⟨_ :: b0, b, by rw [e]; rfl, .cons h h1, h2⟩
theorem dfsAll_cons (rows : List Row) (s : Nat) (ss : List Nat) (n : Nat) (f : List (List Nat)) : dfsAll rows (s :: ss) n f = match dfs rows s n [[s]] f with
    | none => none
    | some (n', f') => dfsAll rows ss n' f' := rfl
theorem Str_.at {N : Nat} {s : List Nat} (h : Str_ N s) : atI (s.map nI) (-1) = some (nI (s.getLastD 0)) ∧ s.getLastD 0 < N := by
  obtain ⟨x, h1, h2, h3⟩ := h.last
  rw [h2]
  refine ⟨?_, h3⟩
  rcases List.eq_nil_or_concat s with e | ⟨s0, y, e⟩
  · exact absurd e h.ne
  · rw [List.concat_eq_append] at e
    have hy : y = x := by
      rw [e, List.getLastD_eq_getLast?] at h2
      simpa using h2
    rw [e, List.map_append, hy]
    exact atI_last _ _
theorem tgt_ltP {r : Row} {n N : Nat} (h : r.ok n N) : ∀ t ∈ tgt r, t < N := fun t ht => by
  have ht := (tgt_mem r t).mp ht
  cases r with
  | load x m => rw [List.mem_singleton.mp ht]; exact h.2
  | add x m => rw [List.mem_singleton.mp ht]; exact h.2
  | take x m => rw [List.mem_singleton.mp ht]; exact h.2
  | store x m => rw [List.mem_singleton.mp ht]; exact h.2
  | say m => rw [List.mem_singleton.mp ht]; exact h
  | test a b =>
    rcases List.mem_cons.mp ht with e | e
    · rw [e]; exact h.1
    · rw [List.mem_singleton.mp e]; exact h.2
  | stop => cases ht
theorem in64P {k : Nat} {A : Around} (hr : Room k A) : A.units + 64 < cLine := by
  have := hr.un
  omega
theorem stepsOf_len (rows : List Row) (start : Nat) (s : List Nat) : (stepsOf rows start s).length ≤ 2 := by
  unfold stepsOf
  rw [List.length_map]
  exact Nat.le_trans (List.length_filter_le _ _) (tgt_len _)
abbrev sLoops : Stmt := top 48
abbrev FLoops (K : Frg) (mg : Str → Option Value) := Fd K mg "loops" sLoops ["program"]
abbrev nLoops : List Str := ["program","found","stretches","start","waiting","stretch","ahead","to"]
def spLoops (TM : Addr) : Sp := fun vs H Q E => ∃ (a : Addr) (p : Prog), vs = [.ref a] ∧ ProgAt H a p ∧ Good p ∧ (loopsF p.rows = none → ∀ H', Same1 H H' → E (.ref TM) none H') ∧
  ∀ L, loopsF p.rows = some L → (∀ s ∈ L, Str_ p.rows.length s) → L.length ≤ 100 → ∀ l bs H', Same1 H H' → H l = none → H' l = some (.lst (bs.map V.ref)) → TupsN H' bs L → Q (.ref l) H'
section
variable {P : Program} {w : World} {K : PySem.W.Frag} {mg : Str → Option Value} {base : Heap}
theorem scLoops : FnScope nLoops ["program"] (defScope sLoops) := ⟨rfl, rfl, rfl, by decide +kernel, rfl, by decide +kernel, by decide +kernel⟩
theorem ok_loops {TMA : Addr} (ov : OvK K TMA) (mTM : mg "TooMany" = some (.ref TMA)) (c : FLoops K mg) (cCheckProgram : FCheckProgram K mg) (cAhead : FAhead K mg) (T : Bt mg) (CG : Cg mg) (CS : Cs mg)
    (GCheckProgram : FnOk P w K mg base CX0 4 cCheckProgram.f cCheckProgram.fd ["program"] spCheckProgram) (GAhead : FnOk P w K mg base CX0 3 cAhead.f cAhead.fd ["row"] spAhead) : FnOk P w K mg base (L2.CX P w) 5 c.f c.fd ["program"] (spLoops TMA) := by
  refine c.F.okX scLoops (fun vs H Q E h => ?_) (fun cdv A outer s H vs Q E hr h => ?_)
  · obtain ⟨a, p, rfl, _⟩ := h
    rfl
  · obtain ⟨a, p, rfl, hP, g, kn, ks⟩ := h
    refine ⟨_, (pss_cons (ps_expr (pe_call GCheckProgram (hr.mono (by first | omega | decide)) (by rfl) cCheckProgram.m cCheckProgram.F.kp cCheckProgram.b .nil pass0 (pa_cons (pv 0) pa_nil)))
      (pss_cons (ps_set (i := 1) scLoops.nd rfl (Or.inl rfl) (pe_lst pa_nil))
      (pss_cons (ps_set (i := 2) scLoops.nd rfl (Or.inl rfl) pe_int)
      (pss_cons (ps_for (L2.passes_of rfl) rfl (pi_range1 rfl T.range (pa_cons (pe_callB call_len_seq (by rfl) T.len PySem.boot_len (pa_cons (pe_ix ix_tup (pv 0) pe_int (fun _ _ => rfl)) pa_nil)) pa_nil)) (pg_name (i := 3) scLoops.nd rfl (Or.inr rfl))
          (pss_cons (ps_set (i := 4) scLoops.nd rfl (Or.inl rfl) (pe_lst (pa_cons (pe_tup (pa_cons (pv 3) pa_nil)) pa_nil)))
          (pss_one (ps_while (L2.passes_of rfl) (pt_truth (pv 4) (fun _ => rfl))
              (pss_cons (ps_set (i := 5) scLoops.nd rfl (Or.inr rfl) (pe_bm0 PySem.F.plainAttrs_list PySem.F.slot_list_pop PySem.F.type_list_pop mt_pop (pv 4)))
              (pss_cons (ps_aug (i := 2) scLoops.nd rfl (.inl rfl) pe_int ip_add)
              (pss_cons (ps_if (pt_cmpR op_gt (pv 2) (pe_glob rfl CS.mS relI) (nomark _))
                  (pss_one (ps_raise rfl (takes_of rfl rfl rfl rfl) (pmk_own PySem.F.excBase_ValueError ov.x mTM ov.k (raises_own ov.b ov.t) rfl)))
                  pss_nil)
              (pss_cons (ps_set (i := 6) scLoops.nd rfl (Or.inl rfl) (pe_call GAhead (hr.mono (by first | omega | decide)) (by rfl) cAhead.m cAhead.F.kp cAhead.b .nil pass0 (pa_cons (pe_ix ix_tup (pe_ix ix_tup (pv 0) pe_int (fun _ _ => rfl)) (pe_ix ix_tup (pv 5) (pe_un un_neg pe_int) (fun _ _ => rfl)) (fun _ _ => rfl)) pa_nil)))
              (pss_cons (ps_if (pt_cmpR op_in_seq (pv 3) (pv 6) rfl)
                  (pss_one (ps_expr (pe_bm PySem.F.plainAttrs_list PySem.F.slot_list_append PySem.F.type_list_append mt_append (pv 1) (pa_cons (pv 5) pa_nil))))
                  pss_nil)
              (pss_one (ps_expr (pe_bm PySem.F.plainAttrs_list PySem.F.slot_list_extend PySem.F.type_list_extend mt_extend (pv 4) (pa_cons (pe_lc (own := [("to", 7)]) (g := gName 7) rfl scLoops.nd (pi_list (pv 6)) (blkOk_by (N := nLoops) (sc := defScope sLoops) (by decide +kernel)) (fun _ _ _ _ _ => (pg_name (i := 7) scLoops.nd rfl (Or.inl rfl))) (fun _ _ _ _ _ => (pts_one (PW.pt (pw_and (pt_cmpR op_gt (pv 7) (pv 3) (nomark _)) (pw_and1 (pt_cmpR (op_notIn_seqK K rfl) (pv 7) (pv 5) rfl)))))) (fun _ _ _ _ _ => (pe_tup (pa_starK K rfl (pv 5) (pa_cons (pv 7) pa_nil))))) pa_nil)))))))))))))
      (pss_cons (ps_if (pt_cmpR op_gt (pe_callB call_len_seq (by rfl) T.len PySem.boot_len (pa_cons (pv 1) pa_nil)) (pe_glob rfl CG.mG relI) (nomark _))
          (pss_one (ps_raise rfl (takes_of rfl rfl rfl rfl) (pmk_own PySem.F.excBase_ValueError ov.x mTM ov.k (raises_own ov.b ov.t) rfl)))
          pss_nil)
      (pss_one (ps_ret (pe_callB (DLR.cr_sortedTI (in64P hr)) (by rfl) T.sorted (by decide +kernel) (pa_cons (pv 1) pa_nil))))))))), ?_⟩
    refine ⟨_, rfl, a, p, rfl, hP, g, fun H1 s1 => ?_⟩
    obtain ⟨wa, ra, rbs, hpa, hwa, hra, hR⟩ := id hP
    have hbr := Paired.length hR
    have r40 := g.r40
    refine ⟨Nat.zero_le _, fun l hl => ?_⟩
    have nl : H l = none := s1.free hl
    refine alloc hl fun H2 s2 e2 => ?_
    have S2 := s1.trans s2
    refine ⟨_, rfl, a, _, _, _, rfl, rfl, SqT.of (S2 _ _ hpa), at1, ra, _, rfl, .inr (SqT.of (S2 _ _ hra)), ((rbs.map V.ref).length : Int), rfl, by omega, by rw [List.length_map]; omega, ?_⟩
    generalize hRes : dfsAll p.rows (List.range p.rows.length) 3000 [] = Res
    have hNI : ((rbs.map V.ref).length : Int).toNat = p.rows.length := by rw [List.length_map, hbr]; rfl
    refine for_range (lo := 0) (n := ((rbs.map V.ref).length : Int).toNat) (fun i σ H' => ∃ (x3 x4 x5 x6 : Option V) (z : Int) (n : Nat) (f : List (List Nat)) (cs : List Addr), σ = [some (.ref a), some (.ref l), some (.int z), x3, x4, x5, x6, none] ∧ z = 3000 - (n : Int) ∧ Same1 H1 H' ∧ H' l = some (.lst (cs.map V.ref)) ∧ TupsN H' cs f ∧ f.length + n ≤ 3000 ∧ (∀ s ∈ f, Str_ p.rows.length s) ∧ dfsAll p.rows ((List.range p.rows.length).drop i) n f = Res)
      ⟨none, none, none, none, 0, 3000, [], [], rfl, rfl, s2, e2, .nil, Nat.le_refl _, fun s hs => (by cases hs), hRes⟩ ?_ ?_
    · rw [hNI]
      rintro i σ H3 hir ⟨x3, x4, x5, x6, z, n, f, cs, rfl, hz, s3, e3, hT, hfn, hf, hD⟩
      rw [Int.zero_add]
      have S3 := s1.trans s3
      refine ⟨_, rfl, (by show 1 ≤ sizeLine; decide), fun t ht => ?_⟩
      refine alloc ht fun H4 s4 e4 => ?_
      refine ⟨(by show 1 ≤ sizeLine; decide), fun wl hwl => ?_⟩
      have nwl : H wl = none := (S3.trans s4).free hwl
      have nwl1 : H1 wl = none := (s3.trans s4).free hwl
      have ne : l ≠ wl := ne_of_none (s4 _ _ e3) hwl
      refine alloc hwl fun H5 s5 e5 => ?_
      dsimp only [gName]
      have S5 := (S3.trans s4).trans s5
      have ei : (List.range p.rows.length).drop i = i :: (List.range p.rows.length).drop (i + 1) := by
        rw [List.drop_eq_getElem_cons (by rw [List.length_range]; exact hir), List.getElem_range]
      rw [ei] at hD
      generalize hD0 : dfs p.rows i n [[i]] f = D0
      refine whileP (fun m σ H' => ∃ (x5 x6 : Option V) (z : Int) (n' : Nat) (st f' : List (List Nat)) (ws cs' : List Addr), m = n' ∧ σ = [some (.ref a), some (.ref l), some (.int z), some (nI i), some (.ref wl), x5, x6, none] ∧ z = 3000 - (n' : Int) ∧ Same1 H1 H' ∧ H' l = some (.lst (cs'.map V.ref)) ∧ TupsN H' cs' f' ∧ H' wl = some (.lst (ws.map V.ref)) ∧ TupsN H' ws st.reverse ∧
          (∀ s ∈ st, Str_ p.rows.length s) ∧ (∀ s ∈ f', Str_ p.rows.length s) ∧ f'.length + n' ≤ 3000 ∧ st.length + n' ≤ 3001 ∧ dfs p.rows i n' st f' = D0)
        (fun σ H' => ∃ (x5 x6 : Option V) (z : Int) (n' : Nat) (f' : List (List Nat)) (cs' : List Addr), σ = [some (.ref a), some (.ref l), some (.int z), some (nI i), some (.ref wl), x5, x6, none] ∧ z = 3000 - (n' : Int) ∧ Same1 H1 H' ∧ H' l = some (.lst (cs'.map V.ref)) ∧ TupsN H' cs' f' ∧ (∀ s ∈ f', Str_ p.rows.length s) ∧ f'.length + n' ≤ 3000 ∧ some (n', f') = D0)
        ⟨_, x5, x6, z, n, [[i]], f, [t], cs, rfl, rfl, hz, (s3.trans s4).trans s5, s5 _ _ (s4 _ _ e3), hT.kp ((Kp.same s4).trans (Kp.same s5)), e5, .cons (s5 _ _ e4) .nil, fun s hs => by rw [List.mem_singleton.mp hs]; exact ⟨by simp, by simp, fun x hx => by rw [List.mem_singleton.mp hx]; exact hir⟩, hf, hfn, by show 1 + n ≤ 3001; omega, hD0⟩ ?_ ?_
      · rintro σ H' ⟨x5, x6, z, n', f', cs', rfl, hz', s', e', hT', hf', hfn', hD'⟩
        refine ⟨_, _, _, _, z, n', f', cs', rfl, hz', s', e', hT', hfn', hf', ?_⟩
        rw [← hD]
        show _ = dfsAll p.rows (i :: _) n f
        rw [dfsAll_cons, hD0, ← hD']
      · intro Nx hNx
        rintro m σ H6 ⟨x5, x6, z, n', st, f', ws, cs', rfl, rfl, hz', s6, e6, hT6, hw6, hW6, hst, hf6, hfn6, hsn, hD6⟩
        have hwl6 := tups_len hW6
        rw [List.length_reverse] at hwl6
        refine ⟨_, rfl, !(ws.map V.ref).isEmpty, .inl ⟨_, SqL.of hw6, rfl⟩, ?_⟩
        cases st with
        | nil =>
          have : ws = [] := List.eq_nil_of_length_eq_zero hwl6
          subst this
          rw [dfs_nil] at hD6
          exact hNx _ _ ⟨x5, x6, z, m, f', cs', rfl, hz', s6, e6, hT6, hf6, hfn6, hD6⟩
        | cons sv st =>
          rw [List.reverse_cons] at hW6
          obtain ⟨ws0, wv, rfl, hW0, hwv⟩ := tups_last hW6
          have hsv := hst sv List.mem_cons_self
          have hsl := hsv.len
          obtain ⟨hat, hlt⟩ := hsv.at
          have hst' : ∀ s ∈ st, Str_ p.rows.length s := fun s hs => hst s (List.mem_cons_of_mem _ hs)
          have hsn' : st.length + 1 + m ≤ 3001 := hsn
          have hw0l := tups_len hW0
          rw [List.length_reverse] at hw0l
          rw [List.map_append] at hw6
          have hw6 : H6 wl = some (.lst (ws0.map V.ref ++ [V.ref wv])) := hw6
          have hne : (!((ws0 ++ [wv]).map V.ref).isEmpty) = true := by simp
          rw [hne]
          refine ⟨_, fun σ' H' q => q, _, rfl, .inl ⟨rfl, _, SqL.of hw6⟩, wl, _, V.ref wv, rfl, rfl, hw6, ?_, ?_⟩
          · rw [List.length_append]
            show (ws0.map V.ref ++ [V.ref wv])[(ws0.map V.ref).length + 1 - 1]? = _
            rw [Nat.add_sub_cancel, List.getElem?_append_right (Nat.le_refl _), Nat.sub_self]
            rfl
          rw [List.dropLast_concat]
          have s7 : Same1 H1 (upd H6 wl (.lst (ws0.map V.ref))) := Same.mut s6 nwl1
          have e7 : (upd H6 wl (.lst (ws0.map V.ref))) l = some (.lst (cs'.map V.ref)) := (upd_ne ne).trans e6
          have T7 : TupsN (upd H6 wl (.lst (ws0.map V.ref))) cs' f' := hT6.kp (Kp.lst hw6)
          have W7 : TupsN (upd H6 wl (.lst (ws0.map V.ref))) ws0 st.reverse := hW0.kp (Kp.lst hw6)
          have v7 : (upd H6 wl (.lst (ws0.map V.ref))) wv = some (.tup (sv.map nI)) := Kp.lst hw6 _ _ hwv
          have w7 : (upd H6 wl (.lst (ws0.map V.ref))) wl = some (.lst (ws0.map V.ref)) := upd_same
          generalize upd H6 wl (.lst (ws0.map V.ref)) = H7 at s7 e7 T7 W7 v7 w7 ⊢
          have S7 := s1.trans s7
          dsimp only [gName]
          refine ⟨_, rfl, _, _, rfl, rfl, ?_⟩
          refine ⟨_, rfl, _, _, rfl, rfl, _, rfl, ?_⟩
          cases m with
          | zero =>
            rw [show decide ((3000 : Int) < z + 1) = true from decide_eq_true (by omega)]
            refine iteT (kn ?_ H7 S7)
            have d0 : D0 = none := hD6.symm
            unfold loopsF
            rw [hRes, ← hD, dfsAll_cons, hD0, d0]
          | succ m =>
          rw [show decide ((3000 : Int) < z + 1) = false from decide_eq_false (by omega)]
          have hD6 : dfs p.rows i m ((stepsOf p.rows i sv).reverse ++ st) (if i ∈ tgt (p.rows.getD (sv.getLastD 0) .stop) then f' ++ [sv] else f') = D0 := hD6
          obtain ⟨rb, hb1, hb2⟩ := Paired.getR hR (List.getElem?_eq_getElem hlt)
          have hbV : (rbs.map V.ref)[sv.getLastD 0]? = some (.ref rb) := by rw [List.getElem?_map, hb1]; rfl
          have er : p.rows.getD (sv.getLastD 0) .stop = p.rows[sv.getLastD 0] := by rw [List.getD_eq_getElem?_getD, List.getElem?_eq_getElem hlt]; rfl
          refine iteF ⟨_, rfl, a, _, _, _, rfl, rfl, SqT.of (S7 _ _ hpa), at1, _, rfl, _, rfl, wv, _, _, _, rfl, rfl, SqT.of v7, hat, ra, _, _, _, rfl, rfl, SqT.of (S7 _ _ hra), atI_nat hbV, ?_⟩
          refine ⟨rb, p.rows[sv.getLastD 0], rfl, S7 _ _ hb2, fun q H8 s8 nq e8 => ?_⟩
          dsimp only [gName]
          have S8 := s7.trans s8
          have k8 := Kp.same s8
          refine seq_elim (fun σ' H' => ∃ cs2, σ' = [some (.ref a), some (.ref l), some (.int (z + 1)), some (nI i), some (.ref wl), some (.ref wv), some (.ref q), none] ∧ Same1 H1 H' ∧ H' l = some (.lst (cs2.map V.ref)) ∧ TupsN H' cs2 (if i ∈ tgt (p.rows.getD (sv.getLastD 0) .stop) then f' ++ [sv] else f') ∧ Kp H8 H' ∧ H' wl = some (.lst (ws0.map V.ref)) ∧ H' q = H8 q) ?_ ?_
          · rintro σ' H9 ⟨cs2, rfl, s9, e9, T9, k9, w9, q9⟩
            rw [e8] at q9
            have v9 : H9 wv = some (.tup (sv.map nI)) := k9 _ _ (k8 _ _ v7)
            refine ⟨_, rfl, .inl ⟨rfl, _, SqL.of w9⟩, _, rfl, q, rfl, ⟨_, SqL.of q9⟩, fun D hD' => ?_⟩
            have nqD : q ≠ D := ne_of_none q9 hD'
            have nwD : wl ≠ D := ne_of_none w9 hD'
            refine lc_list (K := K) (a := q) (xs := (tgt p.rows[sv.getLastD 0]).map nI) (fun j H' => ∃ ds : List Addr, Same1 H9 H' ∧ H' D = some (.lst (ds.map V.ref)) ∧ TupsN H' ds ((((tgt p.rows[sv.getLastD 0]).take j).filter fun t => decide (i < t) && decide (t ∉ sv)).map fun t => sv ++ [t]))
              ⟨[], Same.new hD', upd_same, .nil⟩ (fun j H' _ ⟨_, q2, _⟩ => SqL.of (q2 _ _ q9)) ?_ ?_
            · rintro j x H10 hj ⟨ds, s10, hD10, hd⟩
              rw [List.getElem?_map] at hj
              cases hz9 : (tgt p.rows[sv.getLastD 0])[j]? with
              | none => rw [hz9] at hj; cases hj
              | some y =>
                rw [hz9] at hj
                have e : nI y = x := Option.some.inj hj
                subst e
                have hjl := (List.getElem?_eq_some_iff.mp hz9).1
                have htl := tgt_len p.rows[sv.getLastD 0]
                have hdl := tups_len hd
                have hdl2 : ds.length ≤ 2 := by
                  rw [hdl, List.length_map]
                  refine Nat.le_trans (List.length_filter_le _ _) ?_
                  rw [List.length_take]
                  omega
                rw [List.take_add_one, hz9]
                have v10 := s10 _ _ v9
                refine ⟨rfl, _, rfl, _, rfl, _, _, rfl, rfl, _, rfl, ?_⟩
                have skip : (decide (i < y) && decide (y ∉ sv)) = false → TupsN H10 ds ((((tgt p.rows[sv.getLastD 0]).take j ++ (some y).toList).filter fun t => decide (i < t) && decide (t ∉ sv)).map fun t => sv ++ [t]) := by
                  intro z0
                  rw [List.filter_append, show (some y).toList = [y] from rfl, List.filter_cons, if_neg (by rw [z0]; decide), List.filter_nil, List.append_nil]
                  exact hd
                by_cases c1 : i < y
                · rw [show decide ((i : Int) < (y : Int)) = true from decide_eq_true (by omega)]
                  refine ⟨_, rfl, _, rfl, wv, _, rfl, .inr (SqT.of v10), rfl, flat_n _, _, rfl, ?_⟩
                  rw [if_pos rfl, inV_n]
                  by_cases c2 : y ∈ sv
                  · rw [decide_eq_true c2]
                    exact ⟨ds, s10, hD10, skip (by rw [decide_eq_true c1, decide_eq_false (fun z => z c2)]; rfl)⟩
                  · rw [decide_eq_false c2]
                    refine ⟨_, rfl, wv, _, rfl, .inl (SqT.of v10), _, rfl, sz (by rw [List.length_append, List.length_map]; show sv.length + 1 ≤ _; omega), fun t2 ht2 => ?_⟩
                    refine alloc ht2 fun H11 s11 e11 => ?_
                    have hD11 := s11 _ _ hD10
                    refine ⟨_, hD11, szl (by rw [List.length_map]; omega), ds ++ [t2], Same.mut (s10.trans s11) hD', by rw [upd_same, List.map_append]; rfl, ?_⟩
                    rw [List.filter_append, show (some y).toList = [y] from rfl, List.filter_cons, if_pos (by rw [decide_eq_true c1, decide_eq_true c2]; rfl), List.filter_nil, List.map_append]
                    refine TupsN.kp (Paired.app (TupsN.kp hd (Kp.same s11)) (Paired.one ?_)) (Kp.lst hD11)
                    rw [e11, List.map_append]
                    rfl
                · rw [show decide ((i : Int) < (y : Int)) = false from decide_eq_false (by omega)]
                  exact ⟨ds, s10, hD10, skip (by rw [decide_eq_false c1]; rfl)⟩
            · rintro H10 ⟨ds, s10, hD10, hd⟩
              rw [List.length_map, List.take_length] at hd
              have hd : TupsN H10 ds (stepsOf p.rows i sv) := by
                unfold stepsOf
                rw [er]
                exact hd
              have hdl := tups_len hd
              have hs2 := stepsOf_len p.rows i sv
              have w10 := s10 _ _ w9
              refine ⟨wl, D, _, _, rfl, rfl, w10, hD10, sz (by rw [List.length_map, List.length_map]; omega), ?_⟩
              have hf2 : (if i ∈ tgt (p.rows.getD (sv.getLastD 0) .stop) then f' ++ [sv] else f').length ≤ f'.length + 1 := by
                split
                · rw [List.length_append]; exact Nat.le_refl _
                · omega
              refine ⟨m, Nat.lt_succ_self _, some (.ref wv), some (.ref q), z + 1, m, (stepsOf p.rows i sv).reverse ++ st, _, ws0 ++ ds, cs2, rfl, rfl, by omega, Same.mut (s9.trans s10) nwl1, (upd_ne ne).trans (s10 _ _ e9), TupsN.kp T9 ((Kp.same s10).trans (Kp.lst w10)), by rw [upd_same, List.map_append], ?_, ?_, ?_, by omega, ?_, hD6⟩
              · rw [List.reverse_append, List.reverse_reverse]
                exact TupsN.kp (Paired.app (TupsN.kp W7 (k8.trans (k9.trans (Kp.same s10)))) hd) (Kp.lst w10)
              · intro s hs
                rcases List.mem_append.mp hs with y | y
                · have y := List.mem_reverse.mp y
                  unfold stepsOf at y
                  obtain ⟨t, ht, rfl⟩ := List.mem_map.mp y
                  obtain ⟨t1, t2⟩ := List.mem_filter.mp ht
                  rw [er] at t1
                  have t2 := of_decide_eq_true (Bool.and_eq_true_iff.mp t2).2
                  have tN := tgt_ltP (g.ok _ (List.getElem_mem hlt)) t t1
                  refine ⟨by simp, List.nodup_append.mpr ⟨hsv.nd, by simp, fun x hx y hy e => t2 (by rw [← List.mem_singleton.mp hy, ← e]; exact hx)⟩, fun x hx => ?_⟩
                  rcases List.mem_append.mp hx with z | z
                  · exact hsv.lt x z
                  · rw [List.mem_singleton.mp z]; exact tN
                · exact hst' s y
              · intro s hs
                split at hs
                · rcases List.mem_append.mp hs with z | z
                  · exact hf6 s z
                  · rw [List.mem_singleton.mp z]; exact hsv
                · exact hf6 s hs
              · rw [List.length_append, List.length_reverse]
                omega
          · intro N hN
            refine if_elim (fun b H' => H' = H8 ∧ b = decide (i ∈ tgt p.rows[sv.getLastD 0])) ?_ ?_
            · rintro b H' ⟨rfl, rfl⟩
              rw [er] at hN
              by_cases c : i ∈ tgt p.rows[sv.getLastD 0]
              · rw [decide_eq_true c]
                rw [if_pos c] at hN
                have hcl := tups_len T7
                have e9 := s8 _ _ e7
                refine iteT ⟨_, rfl, .inl ⟨rfl, _, SqL.of e9⟩, _, rfl, l, _, _, rfl, rfl, e9, szl (by rw [List.length_map]; omega), hN _ _ ⟨cs' ++ [wv], rfl, Same.mut S8 hl, by rw [upd_same, List.map_append]; rfl, TupsN.kp (Paired.app (TupsN.kp T7 k8) (Paired.one (k8 _ _ v7))) (Kp.lst e9), Kp.lst e9, (upd_ne ne.symm).trans (s8 _ _ w7), ?_⟩⟩
                exact upd_ne (fun z => by rw [z] at nq; rw [nq] at e7; cases e7)
              · rw [decide_eq_false c]
                rw [if_neg c] at hN
                exact iteF (hN _ _ ⟨cs', rfl, S8, s8 _ _ e7, TupsN.kp T7 k8, Kp.refl _, s8 _ _ w7, rfl⟩)
            · rintro F' hF
              refine ⟨_, rfl, _, rfl, q, _, rfl, .inl (SqL.of e8), rfl, flat_n _, _, rfl, ?_⟩
              rw [if_neg (by decide), inV_n]
              exact hF _ _ ⟨rfl, rfl⟩
    · rintro σ H3 ⟨x3, x4, x5, x6, z, n, f, cs, rfl, hz, s3, e3, hT, hfn, hf, hD⟩
      rw [hNI, List.drop_of_length_le (by rw [List.length_range]; exact Nat.le_refl _)] at hD
      have hD : some (n, f) = Res := hD
      have S3 := s1.trans s3
      have hcl := tups_len hT
      have hL : loopsF p.rows = if 100 < f.length then none else some (sortI2 f) := by
        unfold loopsF
        rw [hRes, ← hD]
      refine ⟨_, rfl, l, _, rfl, .inl (SqL.of e3), _, _, rfl, rfl, _, rfl, ?_⟩
      by_cases c : 100 < f.length
      · rw [if_pos c] at hL
        rw [show decide ((100 : Int) < ((cs.map V.ref).length : Int)) = true from decide_eq_true (by rw [List.length_map]; omega)]
        exact iteT (kn hL H3 S3)
      · rw [if_neg c] at hL
        rw [show decide ((100 : Int) < ((cs.map V.ref).length : Int)) = false from decide_eq_false (by rw [List.length_map]; omega)]
        exact iteF ⟨_, rfl, l, cs, f, rfl, SqL.of e3, hT, fun s hs => (hf s hs).ne, fun cs2 q hq _ hT2 => ks _ hL (fun s hs => hf s ((List.mergeSort_perm _ _).mem_iff.mp hs)) (by rw [show (sortI2 f).length = f.length from List.length_mergeSort _]; omega) q cs2 _ (Same.mut S3 (S3.free hq)) (S3.free hq) upd_same (TupsN.kp hT2 (Kp.new hq))⟩
end
end DL
namespace DLR
open PySem PySem.Spec PyProof.Rows L2
/-! ### list(zip(a, b)), a and b tuples -/
theorem zip_no_len : typeLookup (.type "zip") "__len__" = pure none := by rw [typeLookup_type, builtinLookup_eq_fast]; kernel_rfl
theorem zip_no_hint : typeLookup (.type "zip") "__length_hint__" = pure none := by rw [typeLookup_type, builtinLookup_eq_fast]; kernel_rfl
section
variable {prog : Program} {w : World} {A : Around} {E : Value → Shared → Prop} {s : Shared} {z TI TO T i1 i2 l1 l2 : Addr} {f : Bool} {oT : Obj} {k1 k2 : Nat} {xs ys : Array Value}
theorem held_item {x y : Value} {Q : Option Value → Shared → Prop} (D : ZipApart z TI TO i1 i2 l1 l2) (hz : IsZipHeld s.heap z TI TO T f) (hT : s.heap.get? T = some oT) (hTI : IsPair s.heap TI (.ref i1) (.ref i2))
    (h1 : s.heap.IsTupleIter i1 l1 k1) (h2 : s.heap.IsTupleIter i2 l2 k2) (hl1 : s.heap.IsTuple l1 xs) (hl2 : s.heap.IsTuple l2 ys) (hx : xs[k1]? = some x) (hy : ys[k2]? = some y)
    (hQ : ∀ h', IsZipHeld h' z TI TO T true → h'.IsTupleIter i1 l1 (k1 + 1) → h'.IsTupleIter i2 l2 (k2 + 1) → IsPair h' s.heap.objs.size x y → h'.objs.size = s.heap.objs.size + 1 →
      (∀ c o, c ≠ z → c ≠ i1 → c ≠ i2 → s.heap.get? c = some o → h'.get? c = some o) → Q (some (.ref s.heap.objs.size)) { s with heap := h' }) : wpAny (model prog w) A (pyNext (.ref z)) Q E s := by
  have ty : s.TypeIs (.ref z) "zip" := ⟨_, hz, rfl⟩
  unfold pyNext
  refine wpAny_bind (wpAny_attempt (wpAny_callSpecial?_slot (name := Str.ofString "__next__") ty F.slot_zip_next (wpAny_call_entry F.slot_zip_next ty F.entry_zip_next ?_ (F.args_zip_next_1 _))))
  show wpAny _ _ (field (.ref z) 2 >>= _) _ _ _
  refine wpAny_bind (wpAny_field hz rfl (x := .bool false) rfl ?_)
  show wpAny _ _ (field (.ref z) 3 >>= _) _ _ _
  refine wpAny_bind (wpAny_field hz rfl (x := .ref TI) rfl (wpAny_bind (wpAny_seqItems hTI rfl ?_)))
  show wpAny _ _ (Builtin.SmallTypes.ownedTupleIsFree (.ref z) >>= _) _ _ _
  refine wpAny_bind (wpAny_tupleHeld_zip hz hT fun g1 z1 s1 => ?_)
  simp only [Bool.false_eq_true, if_false]
  refine wpAny_bind ?_
  rw [← Array.forIn_toList]
  simp only [List.forIn_cons, List.forIn_nil]
  refine wpAny_bind (wpAny_bind (wpAny_holding ?_))
  show wpAny _ _ (Builtin.SmallTypes.nextOf (.ref i1) >>= _) _ _ _
  refine wpAny_bind (RZ.nextOf_tuple_item (s := { s with heap := g1 }) (h1.extBut s1.extBut D.i1z) (hl1.extBut s1.extBut D.l1z) hx fun g2 a2 s2 => wpAny_pure (wpAny_pure ?_))
  refine wpAny_bind (wpAny_bind (wpAny_holding ?_))
  show wpAny _ _ (Builtin.SmallTypes.nextOf (.ref i2) >>= _) _ _ _
  refine wpAny_bind (RZ.nextOf_tuple_item (s := { s with heap := g2 }) ((h2.extBut s1.extBut D.i2z).extBut s2.extBut D.i12.symm) ((hl2.extBut s1.extBut D.l2z).extBut s2.extBut D.l2i1) hy fun g3 a3 s3 => wpAny_pure (wpAny_pure (wpAny_pure ?_)))
  show wpAny _ _ (newTuple [x, y] >>= _) _ _ _
  refine wpAny_bind (wpAny_newTuple ?_)
  have hsz : g3.objs.size = s.heap.objs.size := by rw [s3.1, s2.1, s1.1]
  have z3 : IsZipHeld g3 z TI TO T true := s3.extBut _ _ D.i2z.symm (s2.extBut _ _ D.i1z.symm z1)
  have old : ∀ c o, c ≠ z → c ≠ i1 → c ≠ i2 → s.heap.get? c = some o → g3.get? c = some o := fun c o c1 c2 c3 e => s3.extBut _ _ c3 (s2.extBut _ _ c2 (s1.extBut _ _ c1 e))
  have b3 : g3.IsTupleIter i1 l1 (k1 + 1) := a2.extBut s3.extBut D.i12
  have pr : IsPair (g3.push { cls := .type "tuple", data := .seq #[x, y] }) g3.objs.size x y := Heap.get?_push_size _ rfl
  have sz4 : (g3.push { cls := .type "tuple", data := .seq #[x, y] }).objs.size = g3.objs.size + 1 := Heap.size_push ..
  refine wpAny_pure ⟨_, rfl, wpAny_pure ?_⟩
  show Q (some (.ref g3.objs.size)) _
  rw [hsz] at pr sz4 ⊢
  exact hQ _ (Heap.get?_push_of_some _ z3) (b3.at fun o e => Heap.get?_push_of_some _ e) (a3.at fun o e => Heap.get?_push_of_some _ e) pr sz4 fun c o c1 c2 c3 e => Heap.get?_push_of_some _ (old c o c1 c2 c3 e)
theorem held_end {x : Value} {Q : Option Value → Shared → Prop} (hh : A.handled = none) (D : ZipApart z TI TO i1 i2 l1 l2) (hz : IsZipHeld s.heap z TI TO T f) (hT : s.heap.get? T = some oT) (hTI : IsPair s.heap TI (.ref i1) (.ref i2))
    (h1 : s.heap.IsTupleIter i1 l1 k1) (h2 : s.heap.IsTupleIter i2 l2 k2) (hl1 : s.heap.IsTuple l1 xs) (hl2 : s.heap.IsTuple l2 ys) (hx : xs[k1]? = some x) (hy : ys[k2]? = none)
    (hQ : ∀ h', (∀ c o, c ≠ z → c ≠ i1 → c ≠ i2 → s.heap.get? c = some o → h'.get? c = some o) → Q none { s with heap := h' }) : wpAny (model prog w) A (pyNext (.ref z)) Q E s := by
  have ty : s.TypeIs (.ref z) "zip" := ⟨_, hz, rfl⟩
  have body : ∀ (A' : Around) (Q' : Fin → Shared → Prop) (E' : Value → Shared → Prop), A'.handled = none → (∀ h' e, (∀ c o, c ≠ z → c ≠ i1 → c ≠ i2 → s.heap.get? c = some o → h'.get? c = some o) → (∃ o, h'.get? e = some o ∧ o.cls = .type "StopIteration") → E' (.ref e) { s with heap := h' }) →
      wpAny (model prog w) A' (Builtin.«zip.__next__» ⟨[.ref z], []⟩) Q' E' s := by
    intro A' Q' E' hh hE
    show wpAny _ _ (field (.ref z) 2 >>= _) _ _ _
    refine wpAny_bind (wpAny_field hz rfl (x := .bool false) rfl ?_)
    show wpAny _ _ (field (.ref z) 3 >>= _) _ _ _
    refine wpAny_bind (wpAny_field hz rfl (x := .ref TI) rfl (wpAny_bind (wpAny_seqItems hTI rfl ?_)))
    show wpAny _ _ (Builtin.SmallTypes.ownedTupleIsFree (.ref z) >>= _) _ _ _
    refine wpAny_bind (wpAny_tupleHeld_zip hz hT fun g1 z1 s1 => ?_)
    simp only [Bool.false_eq_true, if_false]
    refine wpAny_bind ?_
    rw [← Array.forIn_toList]
    simp only [List.forIn_cons, List.forIn_nil]
    refine wpAny_bind (wpAny_bind (wpAny_holding ?_))
    show wpAny _ _ (Builtin.SmallTypes.nextOf (.ref i1) >>= _) _ _ _
    refine wpAny_bind (RZ.nextOf_tuple_item (s := { s with heap := g1 }) (h1.extBut s1.extBut D.i1z) (hl1.extBut s1.extBut D.l1z) hx fun g2 a2 s2 => wpAny_pure (wpAny_pure ?_))
    refine wpAny_bind (wpAny_bind (wpAny_holding ?_))
    show wpAny _ _ (Builtin.SmallTypes.nextOf (.ref i2) >>= _) _ _ _
    refine wpAny_bind (RZ.nextOf_tuple_end (s := { s with heap := g2 }) hh ((h2.extBut s1.extBut D.i2z).extBut s2.extBut D.i12.symm) ((hl2.extBut s1.extBut D.l2z).extBut s2.extBut D.l2i1) hy fun g3 e s3 he => ?_)
    exact hE g3 e (fun c o c1 c2 c3 q => s3 _ _ c3 (s2.extBut _ _ c2 (s1.extBut _ _ c1 q))) he
  unfold pyNext
  refine wpAny_bind (wpAny_attempt (wpAny_callSpecial?_slot (name := Str.ofString "__next__") ty F.slot_zip_next (wpAny_call_entry F.slot_zip_next ty F.entry_zip_next (body _ _ _ hh fun h' e hk he => ?_) (F.args_zip_next_1 _))))
  obtain ⟨o, ho, hc⟩ := he
  refine wpAny_bind (wpAny_isInstance (T := "StopIteration") (b := true) ⟨o, ho, hc⟩ isSubtype_stop ?_)
  exact wpAny_pure (hQ _ hk)
end
end DLR
namespace DLR
open PySem PySem.Spec PyProof.Rows L2
structure ZwAt (S z TI TO i1 i2 l1 l2 : Addr) (i : Nat) (h : Heap) : Prop where
  zf : (i = 0 ∧ IsZip h z TI TO .none) ∨ (∃ T f oT, IsZipHeld h z TI TO T f ∧ h.get? T = some oT ∧ T ≠ z ∧ T ≠ i1 ∧ T ≠ i2 ∧ T ≠ S)
  ti : IsPair h TI (.ref i1) (.ref i2)
  to : ∃ a b, IsPair h TO a b
  u1 : h.IsTupleIter i1 l1 i
  u2 : h.IsTupleIter i2 l2 i
theorem ZwAt.keep {S z TI TO i1 i2 l1 l2 : Addr} {i : Nat} {h h' : Heap} (st : ZwAt S z TI TO i1 i2 l1 l2 i h) (n : ∀ c ∈ [z, TI, TO, i1, i2], c ≠ S) (k : ∀ b o, b ≠ S → h.get? b = some o → h'.get? b = some o) : ZwAt S z TI TO i1 i2 l1 l2 i h' := by
  obtain ⟨zf, ti, ⟨a, b, to⟩, u1, u2⟩ := st
  refine ⟨?_, k _ _ (n _ (by simp)) ti, ⟨a, b, k _ _ (n _ (by simp)) to⟩, u1.at fun o e => k _ o (n _ (by simp)) e, u2.at fun o e => k _ o (n _ (by simp)) e⟩
  rcases zf with ⟨e, hz⟩ | ⟨T, f, oT, hz, hT, n1, n2, n3, n4⟩
  · exact .inl ⟨e, k _ _ (n _ (by simp)) hz⟩
  · exact .inr ⟨T, f, oT, k _ _ (n _ (by simp)) hz, k _ _ n4 hT, n1, n2, n3, n4⟩
abbrev PrAt (H : Hp) (ts : List Addr) (qs : List (V × V)) : Prop := Paired (fun t (q : V × V) => H t = some (.tup [q.1, q.2])) ts qs
theorem zip_loop {X : Cx} {A : Around} {R : Result → Shared → Prop} {pins : List (Addr × Obj)} {σ : L2.St} {S z TI TO i1 i2 a b : Addr} {res : Value} {H0 : Hp} {xs ys : List V} (hh : A.handled = none) (D : ZipApart z TI TO i1 i2 a b)
    (hA : H0 a = some (.tup xs)) (hB : H0 b = some (.tup ys)) (hl : ys.length < xs.length) (h1000 : ys.length ≤ 1000) (hS0 : H0 S = none)
    (out : ∀ (s' : Shared) (H' : Hp) (ts : List Addr), Inv X pins σ H' s' → H' S = some (.lst (ts.map V.ref)) → PrAt H' ts (xs.zip ys) → (∀ c o, H0 c = some o → H' c = some o) → R (.ok (.ret res)) s') :
    ∀ (k i : Nat) (s : Shared) (H : Hp) (acc : List Addr), ys.length - i = k → i ≤ ys.length → Inv X pins σ H s → ZwAt S z TI TO i1 i2 a b i s.heap → (∀ c ∈ [z, TI, TO, i1, i2], FpOk X pins H c) →
      H S = some (.lst (acc.map V.ref)) → PrAt H acc ((xs.zip ys).take i) → (∀ c o, H0 c = some o → H c = some o) → codeAny (model X.prog X.w) A (.builtin "list.extend.loop" ⟨[.ref S, .ref z, res], []⟩) R s := by
  intro k
  have zl : (xs.zip ys).length = ys.length := by rw [List.length_zip]; omega
  induction k with
  | zero =>
    intro i s H acc hk hi I st hf hS hP hkp
    have ei : i = ys.length := by omega
    subst ei
    refine codeAny_builtin F.entry_extend_loop ?_
    rw [Around.under_plainId F.plain_extend_loop _]
    show wpAny _ A.in1 (pyNext (.ref z) >>= _) _ _ s
    obtain ⟨its, rv, p, _⟩ := I.tuple (SqT.of (hkp _ _ hA))
    obtain ⟨jts, rw', p', _⟩ := I.tuple (SqT.of (hkp _ _ hB))
    have l1 := rv.length
    have l2 := rw'.length
    have hy : jts.toArray[ys.length]? = none := by simp; omega
    have hx : ys.length < its.length := by omega
    have hP' : PrAt H acc (xs.zip ys) := by rw [List.take_of_length_le (by omega)] at hP; exact hP
    have fin : ∀ h' : Heap, (∀ c o, c ≠ z → c ≠ TO → c ≠ i1 → c ≠ i2 → s.heap.get? c = some o → h'.get? c = some o) → R (.ok (.ret res)) { s with heap := h' } := fun h' kp =>
      out _ H acc (I.turnedL (t' := s.toks) (ch := [z, TI, TO, i1, i2]) (fun c o hb q => kp c o (fun e => hb (by simp [e])) (fun e => hb (by simp [e])) (fun e => hb (by simp [e])) (fun e => hb (by simp [e])) q) hf) hS hP' hkp
    refine wpAny_bind ?_
    obtain ⟨x0, y0, hTO⟩ := st.to
    rcases st.zf with ⟨e0, hz⟩ | ⟨T, f, oT, hz, hT, n1, n2, n3, n4⟩
    · exact RZ.pyNext_zipT_end (by exact hh) D hz st.ti hTO st.u1 st.u2 p p' (.inr hy) fun h' kp => wpAny_pure (fin h' kp)
    · exact held_end (x := its[ys.length]) (by exact hh) D hz hT st.ti st.u1 st.u2 p p' (by simp [List.getElem?_eq_getElem hx]) hy fun h' kp => wpAny_pure (fin h' fun c o c1 _ c3 c4 q => kp c o c1 c3 c4 q)
  | succ k ih =>
    intro i s H acc hk hi I st hf hS hP hkp
    have hlt : i < ys.length := by omega
    refine codeAny_builtin F.entry_extend_loop ?_
    rw [Around.under_plainId F.plain_extend_loop _]
    show wpAny _ A.in1 (pyNext (.ref z) >>= _) _ _ s
    obtain ⟨its, rv, p, _⟩ := I.tuple (SqT.of (hkp _ _ hA))
    obtain ⟨jts, rw', p', _⟩ := I.tuple (SqT.of (hkp _ _ hB))
    have l1 := rv.length
    have l2 := rw'.length
    have hxi : xs[i]? = some (xs[i]'(by omega)) := List.getElem?_eq_getElem _
    have hyi : ys[i]? = some (ys[i]'hlt) := List.getElem?_eq_getElem _
    generalize xs[i]'(by omega) = x at hxi
    generalize ys[i]'hlt = y at hyi
    obtain ⟨u, hu, ru⟩ := rv.get hxi
    obtain ⟨v, hv, rv'⟩ := rw'.get hyi
    have hal := Paired.length hP
    rw [List.length_take, zl] at hal
    have hSn : ∀ c ∈ [z, TI, TO, i1, i2], c ≠ S := fun c hc e => by
      have q := (hf c hc).1
      rw [e, hS] at q
      cases q
    have hlow : ∀ c ∈ [z, TI, TO, i1, i2], c < s.heap.objs.size := fun c hc => by
      have e' : c = z ∨ c = TI ∨ c = TO ∨ c = i1 ∨ c = i2 := by simpa using hc
      have zz : z < s.heap.objs.size := by
        rcases st.zf with ⟨_, hz⟩ | ⟨T, f, oT, hz, _⟩
        · exact Heap.lt_size hz
        · exact Heap.lt_size hz
      rcases e' with q | q | q | q | q
      · rw [q]; exact zz
      · rw [q]; exact Heap.lt_size st.ti
      · rw [q]
        obtain ⟨_, _, e1⟩ := st.to
        exact Heap.lt_size e1
      · rw [q]; obtain ⟨_, e1, _⟩ := st.u1; exact Heap.lt_size e1
      · rw [q]; obtain ⟨_, e1, _⟩ := st.u2; exact Heap.lt_size e1
    have hTn : H s.heap.objs.size = none := I.hok.fresh (Nat.le_refl _)
    have hSs : S ≠ s.heap.objs.size := fun e => by rw [e, hTn] at hS; cases hS
    refine wpAny_bind ?_
    have next : ∀ (h' : Heap) (T' : Addr) (f' : Bool) (oT' : Obj), IsZipHeld h' z TI TO T' f' → (∃ a b, IsPair h' TO a b) → h'.get? T' = some oT' → T' ≠ z → T' ≠ i1 → T' ≠ i2 → T' ≠ S → h'.IsTupleIter i1 a (i + 1) → h'.IsTupleIter i2 b (i + 1) → IsPair h' s.heap.objs.size u v →
        (∀ c o, c ≠ z → c ≠ TO → c ≠ i1 → c ≠ i2 → s.heap.get? c = some o → h'.get? c = some o) →
        wpAny (model X.prog X.w) A.in1 (updateSeq S (·.push (.ref s.heap.objs.size)) >>= fun _ => again (.builtin "list.extend.loop" ⟨[.ref S, .ref z, res], []⟩))
          (fun fin s' => match fin with | .done f => R (.ok f) s' | .again c' => c'.quiet = true ∧ codeAny (model X.prog X.w) A c' R s') (fun e s' => R (.error e) s') { s with heap := h' } := by
      intro h' T' f' oT' hz' to' hT' m1 m2 m3 m4 w1 w2 pr kp
      have new : ObjOk X.prog X.w (upd H s.heap.objs.size (.tup [x, y])) h' s.heap.objs.size (.tup [x, y]) := ⟨by show 2 ≤ sizeLine; decide, [u, v], .cons ru (.cons rv' .nil), ⟨_, pr, rfl, _, rfl⟩⟩
      have I1 : Inv X pins σ (upd H s.heap.objs.size (.tup [x, y])) { s with heap := h' } :=
        I.turnedNew (t' := s.toks) (ch := [z, TI, TO, i1, i2]) (fun c o hb q => kp c o (fun e => hb (by simp [e])) (fun e => hb (by simp [e])) (fun e => hb (by simp [e])) (fun e => hb (by simp [e])) q) hf (Nat.le_refl _) new
      have hS1 : (upd H s.heap.objs.size (.tup [x, y])) S = some (.lst (acc.map V.ref)) := (upd_ne hSs).trans hS
      obtain ⟨_, kts, n, r, hkl, e⟩ := I1.lstM hS1
      rw [List.length_map] at hkl
      have I2 := I1.lset (t' := s.toks) (f := (·.push (.ref s.heap.objs.size))) (its' := kts ++ [.ref s.heap.objs.size]) (ys := acc.map V.ref ++ [V.ref s.heap.objs.size]) hS1 e (by simp) (r.append (.cons (show RelV (V.ref s.heap.objs.size) (Value.ref s.heap.objs.size) from rfl) .nil)) (by rw [List.length_append, List.length_map, sizeLine_eq]; show acc.length + 1 ≤ _; omega)
      refine wpAny_bind (wpAny_updateSeq e rfl (wpAny_pure ⟨plainId_quiet F.plain_extend_loop _, ih (i + 1) _ _ (acc ++ [s.heap.objs.size]) (by omega) hlt I2 ?_ ?_ ?_ ?_ ?_⟩) (by rw [List.size_toArray, sizeLine_eq]; omega) (by rw [Array.size_push, List.size_toArray, sizeLine_eq]; omega))
      · exact ZwAt.keep ⟨.inr ⟨T', f', oT', hz', hT', m1, m2, m3, m4⟩, kp _ _ D.TIz D.TITO D.TIi1 D.TIi2 st.ti, to', w1, w2⟩ hSn fun c o hb q => (Heap.get?_update_other _ _ (Ne.symm hb)).trans q
      · intro c hc
        exact ⟨(upd_ne (hSn c hc)).trans ((upd_ne (Nat.ne_of_lt (hlow c hc))).trans (hf c hc).1), (hf c hc).2⟩
      · rw [upd_same, List.map_append]; rfl
      · rw [List.take_add_one, show (xs.zip ys)[i]? = some (x, y) from List.getElem?_zip_eq_some.mpr ⟨hxi, hyi⟩]
        refine DL.Paired.app (Paired.mapP hP fun t q e => ?_) (.cons ?_ .nil)
        · have n1 : t ≠ S := fun z => by rw [z, hS] at e; cases e
          have n2 : t ≠ s.heap.objs.size := fun z => by rw [z, hTn] at e; cases e
          exact (upd_ne n1).trans ((upd_ne n2).trans e)
        · exact (upd_ne hSs.symm).trans upd_same
      · intro c o hc
        have n1 : c ≠ S := fun e => by rw [e, hS0] at hc; cases hc
        have n2 : c ≠ s.heap.objs.size := fun e => by
          have q := hkp c o hc
          rw [e, hTn] at q
          cases q
        exact (upd_ne n1).trans ((upd_ne n2).trans (hkp c o hc))
    obtain ⟨x0, y0, hTO⟩ := st.to
    rcases st.zf with ⟨e0, hz⟩ | ⟨T, f, oT, hz, hT, n1, n2, n3, n4⟩
    · refine RZ.pyNext_zipT_item D hz st.ti hTO st.u1 st.u2 p p' (x := u) (y := v) (by simpa using hu) (by simpa using hv) fun h' z' TO' h1' h2' pr hsz kp => ?_
      exact next h' s.heap.objs.size false _ z' ⟨_, _, TO'⟩ pr (Nat.ne_of_gt (hlow z (by simp))) (Nat.ne_of_gt (hlow i1 (by simp))) (Nat.ne_of_gt (hlow i2 (by simp))) hSs.symm h1' h2' pr kp
    · refine held_item D hz hT st.ti st.u1 st.u2 p p' (x := u) (y := v) (by simpa using hu) (by simpa using hv) fun h' z' h1' h2' pr hsz kp => ?_
      exact next h' T true oT z' ⟨_, _, kp _ _ D.TOz D.TOi1 D.TOi2 hTO⟩ (kp _ _ n1 n2 n3 hT) n1 n2 n3 n4 h1' h2' pr fun c o c1 _ c3 c4 q => kp c o c1 c3 c4 q
theorem init_zip {X : Cx} {A : Around} {R : Result → Shared → Prop} {pins : List (Addr × Obj)} {σ : L2.St} {S z TI TO i1 i2 a b : Addr} {H0 H : Hp} {xs ys : List V} {s : Shared} (hh : A.handled = none) (D : ZipApart z TI TO i1 i2 a b)
    (hA : H0 a = some (.tup xs)) (hB : H0 b = some (.tup ys)) (hl : ys.length < xs.length) (h1000 : ys.length ≤ 1000) (hS0 : H0 S = none) (I : Inv X pins σ H s) (st : ZwAt S z TI TO i1 i2 a b 0 s.heap) (hf : ∀ c ∈ [z, TI, TO, i1, i2], FpOk X pins H c)
    (hS : H S = some (.lst [])) (hkp : ∀ c o, H0 c = some o → H c = some o) (hz : IsZip s.heap z TI TO .none)
    (out : ∀ (s' : Shared) (H' : Hp) (ts : List Addr), Inv X pins σ H' s' → H' S = some (.lst (ts.map V.ref)) → PrAt H' ts (xs.zip ys) → (∀ c o, H0 c = some o → H' c = some o) → R (.ok (.ret .none)) s') :
    wpAny (model X.prog X.w) A.in1 (Builtin.«list.__init__» ⟨[.ref S, .ref z], []⟩)
      (fun fin s' => match fin with | .done f => R (.ok f) s' | .again c' => c'.quiet = true ∧ codeAny (model X.prog X.w) A c' R s') (fun e s' => R (.error e) s') s := by
  have hSn : ∀ c ∈ [z, TI, TO, i1, i2], c ≠ S := fun c hc e => by
    have q := (hf c hc).1
    rw [e, hS] at q
    cases q
  have hSz : S ≠ z := (hSn z (by simp)).symm
  obtain ⟨_, its, n, r, hl0, e0⟩ := I.lstM hS
  cases r
  show wpAny _ A.in1 (do let old ← Builtin.List.listItems (.ref S); Builtin.List.listUpdate (.ref S) (fun _ => #[]); letGo old.toList.reverse; Builtin.List.listExtendWith (.ref S) (.ref z) .none) _ _ s
  refine wpAny_bind ?_
  unfold Builtin.List.listItems
  refine wpAny_bind (wpAny_seqItems e0 rfl (wpAny_pure ?_))
  show wpAny _ A.in1 (updateSeq S (fun _ => #[]) >>= fun _ => letGo (#[] : Array Value).toList.reverse >>= fun _ => Builtin.List.listExtendWith (.ref S) (.ref z) .none) _ _ s
  refine wpAny_bind (wpAny_updateSeq e0 rfl ?_)
  have e1 := Heap.get?_update_self (Obj.mapSeq (fun _ => (#[] : Array Value))) e0 rfl
  have k1 : ∀ b o, b ≠ S → s.heap.get? b = some o → (s.heap.update S (Obj.mapSeq (fun _ => (#[] : Array Value)))).get? b = some o := fun b o hb q => (Heap.get?_update_other _ _ (Ne.symm hb)).trans q
  refine wpAny_bind (wpAny_letGo ?_)
  generalize s.heap.update S (Obj.mapSeq (fun _ => (#[] : Array Value))) = h1 at e1 k1
  have ty : (Shared.mk h1 s.gens s.drawn s.toks s.os).TypeIs (.ref z) "zip" := ⟨_, k1 _ _ hSz.symm hz, rfl⟩
  unfold Builtin.List.listExtendWith
  refine wpAny_bind (wpAny_typeOf ty ?_)
  have g1 : Builtin.List.listSameRef (.ref S) (.ref z) = false := by simp [Builtin.List.listSameRef, hSz]
  have g2 : (Value.type "zip" == Value.type "list") = false := by decide
  have g3 : (Value.type "zip" == Value.type "tuple") = false := by decide
  simp only [g1, g2, g3, Bool.or_false, Bool.false_eq_true, if_false]
  refine wpAny_bind (wpAny_pyIter_zip (k1 _ _ hSz.symm hz) ?_)
  refine wpAny_bind (wpAny_holding ?_)
  unfold Builtin.List.listLengthHint
  refine wpAny_bind (wpAny_specialOf ty zip_no_len ?_)
  show wpAny _ A.in1 (specialOf (Value.ref z) (Str.ofString "__length_hint__") >>= _) _ _ _
  refine wpAny_bind (wpAny_specialOf ty zip_no_hint ?_)
  refine wpAny_pure ?_
  show wpAny _ A.in1 (rule "list.extend.makes-room" >>= fun _ => Builtin.List.listTouch (.ref S) >>= fun _ => again (.builtin "list.extend.loop" ⟨[.ref S, .ref z, .none], []⟩)) _ _ _
  refine wpAny_bind (wpAny_rule (wpAny_bind ?_))
  show wpAny _ A.in1 (updateSeq S (·.push .none) >>= fun _ => updateSeq S (·.pop)) _ _ _
  refine wpAny_bind (wpAny_updateSeq e1 rfl ?_)
  have e2 := Heap.get?_update_self (Obj.mapSeq (·.push Value.none)) e1 rfl
  refine wpAny_updateSeq (hz := by seq_fits) e2 rfl ?_
  have e3 := Heap.get?_update_self (Obj.mapSeq (·.pop)) e2 rfl
  have k3 : ∀ b o, b ≠ S → s.heap.get? b = some o → ((h1.update S (Obj.mapSeq (·.push Value.none))).update S (Obj.mapSeq (·.pop))).get? b = some o := fun b o hb q => (Heap.get?_update_other _ _ (Ne.symm hb)).trans ((Heap.get?_update_other _ _ (Ne.symm hb)).trans (k1 b o hb q))
  generalize (h1.update S (Obj.mapSeq (·.push Value.none))).update S (Obj.mapSeq (·.pop)) = h3 at e3 k3
  have I3 : Inv X pins σ (upd H S (.lst [])) { s with heap := h3, toks := s.toks } := I.write (x := S) (e := S) (by rw [hS]; exact trivial) (.inl rfl) k3 ⟨_, e3⟩ ⟨Nat.zero_le _, [], _, .nil, e3⟩
  exact wpAny_pure ⟨plainId_quiet F.plain_extend_loop _, zip_loop hh D hA hB hl h1000 hS0 out _ 0 _ _ [] rfl (Nat.zero_le _) I3 (st.keep hSn k3) (fun c hc => ⟨(upd_ne (hSn c hc)).trans (hf c hc).1, (hf c hc).2⟩) upd_same .nil fun c o hc => (upd_ne fun z => by rw [z, hS0] at hc; cases hc).trans (hkp c o hc)⟩
def tLZ (ta : TA) : TE := fun σ H Q => ta σ H fun vs H1 => ∃ (a b : Addr) (xs ys : List V), vs = [.ref a, .ref b] ∧ H1 a = some (.tup xs) ∧ H1 b = some (.tup ys) ∧ ys.length < xs.length ∧ ys.length ≤ 1000 ∧
  ∀ (q : Addr) (ts : List Addr) (H2 : Hp), (∀ c o, H1 c = some o → H2 c = some o) → H1 q = none → H2 q = some (.lst (ts.map V.ref)) → PrAt H2 ts (xs.zip ys) → Q (.ref q) H2
theorem pe_listZip {X : Cx} {e e2 : Expr} {ta : TA} {p p2 q pos : Pos} (hc : X.calm = true) (hg : Gl X "list") (hm : X.mg "list" = none) (hg2 : Gl X "zip") (hm2 : X.mg "zip" = none) (ha : PA X [e, e2] ta)
    (hs : starEach [e, e2] X.env = (false, eval e X.env) :: starEach [e2] X.env := by rfl) (hpl : (backTo q (starEach [e2] X.env)).any (·.1) = false := by rfl)
    (na : starEach [Expr.Call (.Name "zip" p2) [e, e2] [] q] X.env = (false, eval (.Call (.Name "zip" p2) [e, e2] [] q) X.env) :: starEach [] X.env := by rfl) :
    PE X (.Call (.Name "list" p) [.Call (.Name "zip" p2) [e, e2] [] q] [] pos) (tLZ ta) := by
  refine ⟨fun pins s σ H Q I h => ?_⟩
  refine Call_ (ld_blt I hg hm boot_list ?_)
  refine PyProof.Rows.callWith_type1 (PyProof.Rows.args_cons ?_ na) na rfl
  refine Call_ (ld_blt I hg2 hm2 PyProof.Rows.boot_zip (PyProof.Rows.callWith_type1 (thn (ha.run q pins s σ H _ I h) fun us s1 ⟨vs, H1, I1, r1, q1⟩ => ?_) hs hpl))
  obtain ⟨a, b, xs, ys, ex, hA, hB, hl, h1000, qq⟩ := q1
  subst ex
  cases r1 with
  | cons r rr =>
    cases rr with
    | cons r' rr =>
      cases rr
      cases r
      cases r'
      obtain ⟨its, rv, p1, _⟩ := I1.tuple (SqT.of hA)
      obtain ⟨jts, rw', p2', _⟩ := I1.tuple (SqT.of hB)
      obtain ⟨o1, ho1, _⟩ := id p1
      obtain ⟨o2, ho2, _⟩ := id p2'
      refine RZ.call_zipT (show s1.heap.IsTuple a its.toArray from p1) (show s1.heap.IsTuple b jts.toArray from p2') fun h' hz hTI hTO h1 h2 hsz hk => PyProof.Rows.args_nil ?_
      have hlow := Heap.lt_size hz
      have I2 : Inv X pins σ H1 { s1 with heap := h', toks := s1.toks } := I1.kept (t' := s1.toks) hk
      have I3 := I2.lnew (t' := s1.toks) (ys := []) (its := []) .nil (Nat.zero_le _)
      have hS : (h'.push { cls := .type "list", data := .seq #[] }).get? h'.objs.size = some { cls := .type "list", data := .seq #[] } := Heap.get?_push_size _ rfl
      have fr : H1 h'.objs.size = none := I2.hok.fresh (Nat.le_refl _)
      have up : ∀ c o, h'.get? c = some o → (h'.push { cls := .type "list", data := .seq #[] }).get? c = some o := fun c o e => Heap.get?_push_of_some _ e
      have five : ∀ c ∈ [s1.heap.objs.size + 4, s1.heap.objs.size + 2, s1.heap.objs.size + 3, s1.heap.objs.size, s1.heap.objs.size + 1], s1.heap.objs.size ≤ c ∧ c < h'.objs.size := fun c hc => by
        have e' : c = s1.heap.objs.size + 4 ∨ c = s1.heap.objs.size + 2 ∨ c = s1.heap.objs.size + 3 ∨ c = s1.heap.objs.size ∨ c = s1.heap.objs.size + 1 := by simpa using hc
        have hsz : h'.objs.size = s1.heap.objs.size + 5 := hsz
        rw [hsz]
        rcases e' with e | e | e | e | e <;> rw [e]
        · exact ⟨Nat.le_add_right _ _, Nat.lt_succ_self _⟩
        · exact ⟨Nat.le_add_right _ _, Nat.add_lt_add_left (by decide) _⟩
        · exact ⟨Nat.le_add_right _ _, Nat.add_lt_add_left (by decide) _⟩
        · exact ⟨Nat.le_refl _, Nat.lt_add_of_pos_right (by decide)⟩
        · exact ⟨Nat.le_add_right _ _, Nat.add_lt_add_left (by decide) _⟩
      refine callType_codes (Q₁ := fun obj s₁ => obj = .ref h'.objs.size ∧ s₁ = { s1 with heap := h'.push { cls := .type "list", data := .seq #[] } }) F.called_list (F.typeCall_list_1 _) F.entry_list_init (code_list_new _ ⟨rfl, rfl⟩) fun obj s₁ h₁ => ?_
      obtain ⟨rfl, rfl⟩ := h₁
      refine ⟨⟨_, hS, rfl⟩, F.args_list_init_2 _ _, init_zip (X := X) (A := X.A.in1) (H0 := H1) (H := upd H1 h'.objs.size (.lst [])) (by exact I1.ok.hd hc) (PySem.W.ktu_apart s1.heap.objs.size a b (Heap.lt_size ho1) (Heap.lt_size ho2)) hA hB hl h1000 fr I3 ⟨.inl ⟨rfl, up _ _ hz⟩, up _ _ hTI, ⟨_, _, up _ _ hTO⟩, h1.at fun o e => up _ o e, h2.at fun o e => up _ o e⟩ (fun c hcm => ?_) upd_same (fun c o e => (upd_ne fun z => by rw [z, fr] at e; cases e).trans e) (up _ _ hz) fun s' H' ts I' hS' hP' hk' => ?_⟩
      · obtain ⟨q1, q2⟩ := five c hcm
        obtain ⟨f1, f2⟩ := I1.fpOk (H' := H1) q1 (I1.hok.fresh q1)
        exact ⟨(upd_ne (Nat.ne_of_lt q2)).trans f1, f2⟩
      · exact ⟨rfl, .ref h'.objs.size, H', I', rfl, qq _ ts H' hk' fr hS' hP'⟩
end DLR
namespace DLR
open PySem PySem.Spec L2
theorem lc_zipT {K : PySem.W.Frag} {a b : Addr} {xs ys : List V} {g : TG} {tt : TT} {te : TE} {vs : List Nat} {σ : L2.St} {H1 : Hp} {D : Addr} {Qd : Hp → Prop} (hxy : ys.length ≤ xs.length) (Pv : Nat → Hp → Prop) (h0 : Pv 0 (upd H1 D (.lst [])))
    (hl : ∀ i H, i ≤ ys.length → Pv i H → SqT K H a xs ∧ SqT K H b ys)
    (hs : ∀ i x y T H H', xs[i]? = some x → ys[i]? = some y → Pv i H → H T = none → H' = upd H T (.tup [x, y]) → g (.ref T) (wipe σ vs) H' fun σ2 H2 => wipe σ2 vs = wipe σ vs ∧ tt σ2 H2 fun b H3 =>
      if b = true then te σ2 H3 fun y H4 => ∃ acc, H4 D = some (.lst acc) ∧ acc.length < sizeLine ∧ Pv (i + 1) (upd H4 D (.lst (acc ++ [y]))) else Pv (i + 1) H3) (hd : ∀ H, Pv ys.length H → Qd H) :
    ∃ W : Nat → Nat → Hp → Prop, (∃ m, W 0 m (upd H1 D (.lst []))) ∧ ∀ i m H, W i m H →
      ((RZ.ItzT K a b).stop i H ∧ Qd H) ∨ ((RZ.ItzT K a b).go i H ∧ ∃ Nx : Hp → Prop, (∀ H', Nx H' → ∃ m', m' < m ∧ W (i + 1) m' H') ∧ ∀ x H', (RZ.ItzT K a b).yld i H x H' → g x (wipe σ vs) H' fun σ2 H2 => wipe σ2 vs = wipe σ vs ∧ tt σ2 H2 fun b H3 =>
        if b = true then te σ2 H3 fun y H4 => ∃ acc, H4 D = some (.lst acc) ∧ acc.length < sizeLine ∧ Nx (upd H4 D (.lst (acc ++ [y]))) else Nx H3) := by
  refine ⟨fun i m H => m = ys.length - i ∧ i ≤ ys.length ∧ Pv i H, ⟨ys.length, by simp, Nat.zero_le _, h0⟩, ?_⟩
  rintro i m H ⟨rfl, hi, p⟩
  obtain ⟨q, q'⟩ := hl i H hi p
  by_cases hlt : i < ys.length
  · have hlt2 : i < xs.length := by omega
    have gx := List.getElem?_eq_getElem hlt2
    have gy := List.getElem?_eq_getElem hlt
    refine .inr ⟨⟨xs, ys, xs[i], ys[i], q, q', gx, gy⟩, Pv (i + 1), fun H' p' => ⟨ys.length - (i + 1), by omega, rfl, hlt, p'⟩, fun x H' y => ?_⟩
    obtain ⟨T, u, v, rfl, hT, rfl, hu, hv⟩ := y
    exact hs i u v T H _ (hu xs q) (hv ys q') p hT rfl
  · have e : i = ys.length := by omega
    subst e
    exact .inl ⟨⟨xs, ys, q, q', .inr (Nat.le_refl _)⟩, hd H p⟩
end DLR
namespace DL
open PySem PySem.Spec L2 DLR
/-! ### the least beats of a way -/
def pairsF (w : List Nat) : List (Nat × Nat) := w.zip (w.drop 1)
def halvesF (w : List Nat) : List (List Nat) := (pairsF w).map (fun q => [q.1, q.2]) ++ (w.drop 1).map fun x => [x]
def leastHalfF (rows : List Row) (l : List Nat) : Int := if l.length = 1 then 1 else (if (rows.getD (l.headD 0) .stop).uses = true then 1 else 0) + work (rows.getD (l.headD 0) .stop)
def leastF (rows : List Row) (w : List Nat) : Int := ((halvesF w).map (leastHalfF rows)).sum
theorem prAt_tups {H : Hp} : ∀ {w v : List Nat} {ts : List Addr}, PrAt H ts ((w.map nI).zip (v.map nI)) → TupsN H ts ((w.zip v).map fun q => [q.1, q.2])
  | [], _, [], .nil => .nil
  | _ :: _, [], [], .nil => .nil
  | x :: w, y :: v, _, .cons h t => .cons h (prAt_tups t)
theorem halvesF_len (w : List Nat) : (halvesF w).length ≤ 2 * w.length := by
  unfold halvesF pairsF
  rw [List.length_append, List.length_map, List.length_map, List.length_zip, List.length_drop]
  omega
abbrev sHalves : Stmt := top 41
abbrev sLeastHalf : Stmt := top 42
abbrev sLeastBeats : Stmt := top 43
abbrev sInRounds : Stmt := top 44
abbrev FHalves (K : Frg) (mg : Str → Option Value) := Fd K mg "halves" sHalves ["way"]
abbrev FLeastHalf (K : Frg) (mg : Str → Option Value) := Fd K mg "least_half" sLeastHalf ["program", "half"]
abbrev FLeastBeats (K : Frg) (mg : Str → Option Value) := Fd K mg "least_beats" sLeastBeats ["program", "way"]
abbrev FInRounds (K : Frg) (mg : Str → Option Value) := Fd K mg "in_rounds" sInRounds ["beats", "wide"]
abbrev nHalves : List Str := ["way","row"]
abbrev nLeastHalf : List Str := ["program","half","row","use"]
abbrev nLeastBeats : List Str := ["program","way","half"]
def spHalves : Sp := fun vs H Q _ => ∃ (a : Addr) (w : List Nat), vs = [.ref a] ∧ H a = some (.tup (w.map nI)) ∧ 0 < w.length ∧ w.length ≤ 100 ∧
  ∀ l bs H', Same1 H H' → H l = none → H' l = some (.lst (bs.map V.ref)) → TupsN H' bs (halvesF w) → Q (.ref l) H'
def spLeastHalf : Sp := fun vs H Q _ => ∃ (a h : Addr) (p : Prog) (l : List Nat), vs = [.ref a, .ref h] ∧ ProgAt H a p ∧ H h = some (.tup (l.map nI)) ∧ (l.length ≠ 1 → ∃ x l0, l = x :: l0 ∧ x < p.rows.length) ∧ ∀ H', Same1 H H' → Q (.int (leastHalfF p.rows l)) H'
def spLeastBeats : Sp := fun vs H Q _ => ∃ (a b : Addr) (p : Prog) (w : List Nat), vs = [.ref a, .ref b] ∧ ProgAt H a p ∧ H b = some (.tup (w.map nI)) ∧ 0 < w.length ∧ w.length ≤ 100 ∧ (∀ x ∈ w, x < p.rows.length) ∧ ∀ H', Same1 H H' → Q (.int (leastF p.rows w)) H'
def spInRounds : Sp := fun vs H Q _ => ∃ (b : Int) (W : Nat), vs = [.int b, nI W] ∧ 0 < W ∧ Q (.int (b + (-b) % (W : Int))) H
section
variable {P : Program} {w : World} {K : PySem.W.Frag} {mg : Str → Option Value} {base : Heap}
theorem scHalves : FnScope nHalves ["way"] (defScope sHalves) := ⟨rfl, rfl, rfl, by decide +kernel, rfl, by decide +kernel, by decide +kernel⟩
theorem scLeastHalf : FnScope nLeastHalf ["program", "half"] (defScope sLeastHalf) := ⟨rfl, rfl, rfl, by decide +kernel, rfl, by decide +kernel, by decide +kernel⟩
theorem scLeastBeats : FnScope nLeastBeats ["program", "way"] (defScope sLeastBeats) := ⟨rfl, rfl, rfl, by decide +kernel, rfl, by decide +kernel, by decide +kernel⟩
theorem scInRounds : FnScope ["beats","wide"] ["beats","wide"] (defScope sInRounds) := ⟨rfl, rfl, rfl, by decide +kernel, rfl, by decide +kernel, by decide +kernel⟩
theorem ok_inRounds (c : FInRounds K mg) : FnOk P w K mg base CX0 1 c.f c.fd ["beats", "wide"] spInRounds := by
  refine c.F.ok scInRounds (fun vs H Q E h => ?_) (fun cdv A outer s H vs Q E hr h => ?_)
  · obtain ⟨b, W, rfl, _⟩ := h
    rfl
  · obtain ⟨b, W, rfl, w0, k⟩ := h
    refine ⟨_, (pss_one (ps_ret (pe_op op_add (pv 0) (pe_op op_mod (pe_un un_neg (pv 0)) (pv 1))))), ?_⟩
    exact ⟨_, rfl, _, rfl, _, rfl, _, rfl, _, _, rfl, rfl, by omega, _, _, rfl, rfl, k⟩
theorem ok_halves (c : FHalves K mg) (T : Bt mg) : FnOk P w K mg base CX0 1 c.f c.fd ["way"] spHalves := by
  refine c.F.ok scHalves (fun vs H Q E h => ?_) (fun cdv A outer s H vs Q E hr h => ?_)
  · obtain ⟨a, w, rfl, _⟩ := h
    rfl
  · obtain ⟨a, w, rfl, ha, w0, w100, k⟩ := h
    refine ⟨_, (pss_one (ps_ret (pe_op op_cat (DLR.pe_listZip rfl (by rfl) T.list (by rfl) T.zip (pa_cons (pv 0) (pa_cons (pe_slice sl_tupS (pv 0) (po_some pe_int) po_none) pa_nil))) (pe_lc (own := [("row", 1)]) (g := gName 1) (tt := tYes) rfl scHalves.nd (pi_tup (pe_slice sl_tupS (pv 0) (po_some pe_int) po_none)) (blkOk_by (N := nHalves) (sc := defScope sHalves) (by decide +kernel)) (fun _ _ _ _ _ => (pg_name (i := 1) scHalves.nd rfl (Or.inl rfl))) (fun _ _ _ _ _ => pts_nil) (fun _ _ _ _ _ => (pe_tup (pa_cons (pv 1) pa_nil))))))), ?_⟩
    refine ⟨_, rfl, _, rfl, _, rfl, a, _, rfl, ha, fun t H1 s1 e1 => ?_⟩
    have e1 : H1 t = some (.tup ((w.drop 1).map nI)) := by
      rw [e1]
      exact congrArg (fun z => some (HO.tup z)) ((dropn 1).trans List.map_drop.symm)
    refine ⟨a, t, w.map nI, (w.drop 1).map nI, rfl, s1 _ _ ha, e1, by rw [List.length_map, List.length_map, List.length_drop]; omega, by rw [List.length_map, List.length_drop]; omega, fun q ts H2 s2 nq e2 hP => ?_⟩
    have hT := prAt_tups hP
    have s2 : Same1 H1 H2 := s2
    have S2 := s1.trans s2
    refine ⟨_, rfl, _, rfl, a, _, rfl, S2 _ _ ha, fun t2 H3 s3 e3 => ?_⟩
    have e3 : H3 t2 = some (.tup ((w.drop 1).map nI)) := by
      rw [e3]
      exact congrArg (fun z => some (HO.tup z)) ((dropn 1).trans List.map_drop.symm)
    have S3 := S2.trans s3
    have f2 := s3 _ _ e2
    have dl : (w.drop 1).length ≤ 100 := by rw [List.length_drop]; omega
    refine ⟨t2, rfl, ⟨_, SqT.of e3⟩, fun D hD => ?_⟩
    have nqD : q ≠ D := ne_of_none f2 hD
    refine lc_tup (K := K) (a := t2) (xs := (w.drop 1).map nI) (fun j H' => ∃ ds : List Addr, Same1 H3 H' ∧ H' D = some (.lst (ds.map V.ref)) ∧ TupsN H' ds (((w.drop 1).take j).map fun x => [x]))
      ⟨[], Same.new hD, upd_same, .nil⟩ (fun j H' _ ⟨_, q2, _⟩ => SqT.of (q2 _ _ e3)) ?_ ?_
    · rintro j x H4 hj ⟨ds, s4, hd4, hh4⟩
      rw [List.getElem?_map] at hj
      cases hz : (w.drop 1)[j]? with
      | none => rw [hz] at hj; cases hj
      | some y =>
        rw [hz] at hj
        have e : nI y = x := Option.some.inj hj
        subst e
        have hdl := tups_len hh4
        rw [List.length_map, List.length_take] at hdl
        refine ⟨rfl, _, rfl, (by show 1 ≤ sizeLine; decide), fun t3 ht3 => ?_⟩
        refine alloc ht3 fun H5 s5 e5 => ?_
        have hd5 := s5 _ _ hd4
        refine ⟨_, hd5, szl (by rw [List.length_map]; omega), ds ++ [t3], Same.mut (s4.trans s5) hD, by rw [upd_same, List.map_append]; rfl, ?_⟩
        rw [List.take_add_one, hz, List.map_append]
        exact TupsN.kp (Paired.app (TupsN.kp hh4 (Kp.same s5)) (Paired.one e5)) (Kp.lst hd5)
    · rintro H4 ⟨ds, s4, hd4, hh4⟩
      rw [List.length_map, List.take_length] at hh4
      have hql := tups_len hT
      have hdl := tups_len hh4
      rw [List.length_map, List.length_zip] at hql
      rw [List.length_map] at hdl
      refine ⟨q, D, _, _, rfl, rfl, s4 _ _ f2, hd4, sz (by rw [List.length_map, List.length_map]; omega), fun r hr => ?_⟩
      refine alloc hr fun H5 s5 e5 => ?_
      refine k r (ts ++ ds) H5 ((S3.trans s4).trans s5) ((S3.trans s4).free hr) (by rw [e5, List.map_append]) ?_
      exact Paired.app (TupsN.kp hT (((Kp.same s3).trans (Kp.same s4)).trans (Kp.same s5))) (TupsN.kp hh4 (Kp.same s5))
theorem ok_leastHalf (c : FLeastHalf K mg) (cUsesWorth : FUsesWorth K mg) (T : Bt mg) (Z : Pt K w mg) (ZW : Pw K w mg) : FnOk P w K mg base CX0 2 c.f c.fd ["program", "half"] spLeastHalf := by
  have GUsesWorth : FnOk P w K mg base CX0 1 cUsesWorth.f cUsesWorth.fd ["row"] spUses := ok_usesWorth cUsesWorth Z
  refine c.F.ok scLeastHalf (fun vs H Q E h => ?_) (fun cdv A outer s H vs Q E hr h => ?_)
  · obtain ⟨a, hh, p, l, rfl, _⟩ := h
    rfl
  · obtain ⟨a, hh, p, l, rfl, hP, hl, hx, k⟩ := h
    refine ⟨_, (pss_cons (ps_if (pt_cmpR op_eq (pe_callB call_len_seq (by rfl) T.len PySem.boot_len (pa_cons (pv 1) pa_nil)) pe_int (nomark _))
          (pss_one (ps_ret pe_int))
          pss_nil)
      (pss_cons (ps_set (i := 2) scLeastHalf.nd rfl (Or.inl rfl) (pe_ix ix_tup (pe_ix ix_tup (pv 0) pe_int (fun _ _ => rfl)) (pe_ix ix_tup (pv 1) pe_int (fun _ _ => rfl)) (fun _ _ => rfl)))
      (pss_cons (ps_set (i := 3) scLeastHalf.nd rfl (Or.inl rfl) (pe_ifExp (pt_val (pe_call GUsesWorth (hr.mono (by first | omega | decide)) (by rfl) cUsesWorth.m cUsesWorth.F.kp cUsesWorth.b .nil pass0 (pa_cons (pv 2) pa_nil))) pe_int pe_int))
      (pss_one (ps_ret (pe_op op_add (pv 3) (pe_ix ix_kdict (pe_glob (v := .ref ZW.d) rfl ZW.m rfl) (pe_ix ix_tup (pv 2) pe_int (fun _ _ => rfl)) (fun _ _ => rfl)))))))), ?_⟩
    refine ⟨_, rfl, hh, _, rfl, .inr (SqT.of hl), rfl, _, rfl, ?_⟩
    unfold leastHalfF at k
    by_cases c : l.length = 1
    · rw [show decide (V.int (((l.map nI).length : Nat) : Int) = V.int 1) = true from decide_eq_true (by rw [List.length_map, c]; rfl)]
      rw [if_pos c] at k
      exact iteT (k H (Same.refl _))
    · rw [show decide (V.int (((l.map nI).length : Nat) : Int) = V.int 1) = false from decide_eq_false (fun z => c (by have := V.int.inj z; rw [List.length_map] at this; omega))]
      rw [if_neg c] at k
      obtain ⟨x, l0, rfl, hxN⟩ := hx c
      obtain ⟨wa, ra, rbs, hpa, hwa, hra, hR⟩ := hP
      obtain ⟨rb, hb1, hb2⟩ := Paired.getR hR (List.getElem?_eq_getElem hxN)
      have hbV : (rbs.map V.ref)[x]? = some (.ref rb) := by rw [List.getElem?_map, hb1]; rfl
      have er : p.rows.getD x .stop = p.rows[x] := by rw [List.getD_eq_getElem?_getD, List.getElem?_eq_getElem hxN]; rfl
      refine iteF ⟨_, rfl, a, _, _, _, rfl, rfl, SqT.of hpa, at1, _, rfl, hh, _, _, _, rfl, rfl, SqT.of hl, at0, ra, _, _, _, rfl, rfl, SqT.of hra, atI_nat hbV, ?_⟩
      refine ⟨_, rfl, rb, p.rows[x], rfl, hb2, ?_⟩
      have k : ∀ H', Same1 H H' → Q (.int ((if (p.rows.getD x .stop).uses = true then 1 else 0) + work (p.rows.getD x .stop))) H' := k
      rw [er] at k
      refine ⟨_, rfl, ?_⟩
      cases hu : p.rows[x].uses with
      | true =>
        rw [hu] at k
        exact iteT ⟨_, rfl, _, rfl, rb, _, _, _, rfl, rfl, SqT.of hb2, atI_nat (j := 0) (Row.w0 _), ZW.d, _, _, rfl, rfl, ZW.get _, _, _, rfl, rfl, k H (Same.refl _)⟩
      | false =>
        rw [hu] at k
        exact iteF ⟨_, rfl, _, rfl, rb, _, _, _, rfl, rfl, SqT.of hb2, atI_nat (j := 0) (Row.w0 _), ZW.d, _, _, rfl, rfl, ZW.get _, _, _, rfl, rfl, k H (Same.refl _)⟩
theorem ok_leastBeats (c : FLeastBeats K mg) (cHalves : FHalves K mg) (cLeastHalf : FLeastHalf K mg) (T : Bt mg) (GHalves : FnOk P w K mg base CX0 1 cHalves.f cHalves.fd ["way"] spHalves) (GLeastHalf : FnOk P w K mg base CX0 2 cLeastHalf.f cLeastHalf.fd ["program", "half"] spLeastHalf) : FnOk P w K mg base CX0 3 c.f c.fd ["program", "way"] spLeastBeats := by
  refine c.F.ok scLeastBeats (fun vs H Q E h => ?_) (fun cdv A outer s H vs Q E hr h => ?_)
  · obtain ⟨a, b, p, w, rfl, _⟩ := h
    rfl
  · obtain ⟨a, b, p, w, rfl, hP, hb, w0, w100, hw, k⟩ := h
    refine ⟨_, (pss_one (ps_ret (pe_callB (cr_sum rfl) (by rfl) T.sum (by decide +kernel) (pa_cons (pe_lc (own := [("half", 2)]) (g := gName 2) (tt := tYes) rfl scLeastBeats.nd (pi_list (pe_call GHalves (hr.mono (by first | omega | decide)) (by rfl) cHalves.m cHalves.F.kp cHalves.b .nil pass0 (pa_cons (pv 1) pa_nil))) (blkOk_by (N := nLeastBeats) (sc := defScope sLeastBeats) (by decide +kernel)) (fun _ _ _ _ _ => (pg_name (i := 2) scLeastBeats.nd rfl (Or.inl rfl))) (fun _ _ _ _ _ => pts_nil) (fun _ _ _ _ _ => (pe_call GLeastHalf (hr.mono (by first | omega | decide)) (by rfl) cLeastHalf.m cLeastHalf.F.kp cLeastHalf.b .nil pass0 (pa_cons (pv 0) (pa_cons (pv 2) pa_nil))))) pa_nil)))), ?_⟩
    refine ⟨_, rfl, b, w, rfl, hb, w0, w100, fun l bs H1 s1 nl e1 hT => ?_⟩
    have hbl := tups_len hT
    have hHl := halvesF_len w
    refine ⟨l, rfl, ⟨_, SqL.of e1⟩, fun D hD => ?_⟩
    refine lc_list (K := K) (a := l) (xs := bs.map V.ref) (fun i H' => Same1 H1 H' ∧ H' D = some (.lst ((((halvesF w).take i).map (leastHalfF p.rows)).map V.int))) ⟨Same.new hD, upd_same⟩ (fun i H' _ ⟨q, _⟩ => SqL.of (q _ _ e1)) ?_ ?_
    · rintro i x H2 hi ⟨s2, hd2⟩
      have hic : i < bs.length := by
        have q := (List.getElem?_eq_some_iff.mp hi).1
        rwa [List.length_map] at q
      have ex : x = .ref bs[i] := by
        rw [List.getElem?_map, List.getElem?_eq_getElem hic] at hi
        exact (Option.some.inj hi).symm
      subst ex
      obtain ⟨lv, hq1, hq2⟩ := Paired.get hT (List.getElem?_eq_getElem hic)
      refine ⟨rfl, _, rfl, _, rfl, a, bs[i], p, lv, rfl, hP.kp (Kp.same (s1.trans s2)), s2 _ _ hq2, fun ne => ?_, fun H3 s3 => ?_⟩
      · have hm := List.mem_of_getElem? hq1
        unfold halvesF at hm
        rcases List.mem_append.mp hm with z | z
        · obtain ⟨⟨u, v⟩, hz, rfl⟩ := List.mem_map.mp z
          exact ⟨u, [v], rfl, hw u (List.of_mem_zip hz).1⟩
        · obtain ⟨u, hz, rfl⟩ := List.mem_map.mp z
          exact absurd rfl ne
      · have hd3 := s3 _ _ hd2
        refine ⟨_, hd3, szl (by rw [List.length_map, List.length_map, List.length_take]; omega), Same.mut (s2.trans s3) hD, ?_⟩
        rw [upd_same, List.take_add_one, hq1, List.map_append, List.map_append]
        rfl
    · rintro H2 ⟨s2, hd2⟩
      rw [List.length_map, hbl, List.take_length] at hd2
      exact ⟨D, _, rfl, SqL.of hd2, k H2 (s1.trans s2)⟩
end
end DL
namespace DL
open PySem PySem.Spec L2 DLR
/-! ### the beats of the loops -/
def wayF (s : List Nat) : List Nat := s ++ [s.headD 0]
def takesF (y : Lay) (rows : List Row) (s : List Nat) : Int := ((pairsF (wayF s)).map fun q => costF y rows q.1 q.2).sum
def roundF (b : Int) (W : Nat) : Int := b + (-b) % (W : Int)
def fewF (y : Lay) (rows : List Row) (s : List Nat) : Int := roundF (leastF rows (wayF s)) y.wide
abbrev ToldAt (y : Lay) (rows : List Row) (H : Hp) (bs : List Addr) (L : List (List Nat)) : Prop := Paired (fun b s => ∃ t, H b = some (.tup [.ref t, .int (takesF y rows s), .int (fewF y rows s)]) ∧ H t = some (.tup (s.map nI))) bs L
theorem ToldAt.kp {y : Lay} {rows : List Row} {H H' : Hp} {bs : List Addr} {L : List (List Nat)} (h : ToldAt y rows H bs L) (k : Kp H H') : ToldAt y rows H' bs L := Paired.mapP h fun b x ⟨t, e1, e2⟩ => ⟨t, k _ _ e1, k _ _ e2⟩
abbrev sLoopBeats : Stmt := top 49
abbrev FLoopBeats (K : Frg) (mg : Str → Option Value) := Fd K mg "loop_beats" sLoopBeats ["program", "laying"]
abbrev nLoopBeats : List Str := ["program","laying","told","loop","way","takes","begin","to"]
def spLoopBeats (TM : Addr) : Sp := fun vs H Q E => ∃ (a b : Addr) (p : Prog) (y : Lay), vs = [.ref a, .ref b] ∧ ProgAt H a p ∧ Good p ∧ LayAt H b y ∧ LayOk p y ∧ (loopsF p.rows = none → ∀ H', Same1 H H' → E (.ref TM) none H') ∧
  ∀ L, loopsF p.rows = some L → (∀ s ∈ L, Str_ p.rows.length s) → L.length ≤ 100 → ∀ l bs H', Same1 H H' → H l = none → H' l = some (.lst (bs.map V.ref)) → ToldAt y p.rows H' bs L → Q (.ref l) H'
theorem way_len {N : Nat} {s : List Nat} (h : Str_ N s) : (wayF s).length = s.length + 1 ∧ 0 < s.length ∧ s[0]? = some (s.headD 0) ∧ ∀ x ∈ wayF s, x < N := by
  obtain ⟨ne, nd, lt⟩ := h
  match s, ne with
  | x :: r, _ =>
    refine ⟨by unfold wayF; rw [List.length_append]; rfl, Nat.succ_pos _, rfl, fun z hz => ?_⟩
    unfold wayF at hz
    rcases List.mem_append.mp hz with q | q
    · exact lt z q
    · rw [List.mem_singleton.mp q]
      exact lt x List.mem_cons_self
section
variable {P : Program} {w : World} {K : PySem.W.Frag} {mg : Str → Option Value} {base : Heap}
theorem scLoopBeats : FnScope nLoopBeats ["program", "laying"] (defScope sLoopBeats) := ⟨rfl, rfl, rfl, by decide +kernel, rfl, by decide +kernel, by decide +kernel⟩
theorem ok_loopBeats {TMA : Addr} (c : FLoopBeats K mg) (cCheckProgram : FCheckProgram K mg) (cCheckLaying : FCheckLaying K mg) (cLoops : FLoops K mg) (cCost : FCost K mg) (cInRounds : FInRounds K mg) (cLeastBeats : FLeastBeats K mg) (T : Bt mg)
    (GCheckProgram : FnOk P w K mg base CX0 4 cCheckProgram.f cCheckProgram.fd ["program"] spCheckProgram) (GCheckLaying : FnOk P w K mg base CX0 5 cCheckLaying.f cCheckLaying.fd ["program", "laying"] spCheckLaying)
    (GLoops : FnOk P w K mg base (L2.CX P w) 5 cLoops.f cLoops.fd ["program"] (spLoops TMA)) (GCost : FnOk P w K mg base CX0 5 cCost.f cCost.fd ["program", "laying", "begin", "to"] spCost)
    (GInRounds : FnOk P w K mg base CX0 1 cInRounds.f cInRounds.fd ["beats", "wide"] spInRounds) (GLeastBeats : FnOk P w K mg base CX0 3 cLeastBeats.f cLeastBeats.fd ["program", "way"] spLeastBeats) : FnOk P w K mg base (L2.CX P w) 6 c.f c.fd ["program", "laying"] (spLoopBeats TMA) := by
  refine c.F.okX scLoopBeats (fun vs H Q E h => ?_) (fun cdv A outer s H vs Q E hr h => ?_)
  · obtain ⟨a, b, p, y, rfl, _⟩ := h
    rfl
  · obtain ⟨a, b, p, y, rfl, hP, g, hY, yk, kn, ks⟩ := h
    have r40 := g.r40
    have w2 := yk.w2
    refine ⟨_, (pss_cons (ps_expr (pe_call GCheckProgram (hr.mono (by first | omega | decide)) (by rfl) cCheckProgram.m cCheckProgram.F.kp cCheckProgram.b .nil pass0 (pa_cons (pv 0) pa_nil)))
      (pss_cons (ps_expr (pe_call GCheckLaying (hr.mono (by first | omega | decide)) (by rfl) cCheckLaying.m cCheckLaying.F.kp cCheckLaying.b .nil pass0 (pa_cons (pv 0) (pa_cons (pv 1) pa_nil))))
      (pss_cons (ps_set (i := 2) scLoopBeats.nd rfl (Or.inl rfl) (pe_lst pa_nil))
      (pss_cons (ps_for (L2.passes_of rfl) rfl (pi_list (pe_call GLoops (hr.mono (by first | omega | decide)) (by rfl) cLoops.m cLoops.F.kp cLoops.b .nil (L2.passes_call (takes_of rfl rfl rfl rfl) (fun _ _ _ _ h => h)) (pa_cons (pv 0) pa_nil))) (pg_name (i := 3) scLoopBeats.nd rfl (Or.inl rfl))
          (pss_cons (ps_set (i := 4) scLoopBeats.nd rfl (Or.inl rfl) (pe_tup (StX.pa_star (pv 3) (pa_cons (pe_ix ix_tup (pv 3) pe_int (fun _ _ => rfl)) pa_nil))))
          (pss_cons (ps_set (i := 5) scLoopBeats.nd rfl (Or.inl rfl) (pe_callB (cr_sum rfl) (by rfl) T.sum (by decide +kernel) (pa_cons (pe_lc (own := [("begin", 6), ("to", 7)]) (g := gTup K 2 (gCons (gName 6) (gCons (gName 7) gNil))) (tt := tYes) rfl scLoopBeats.nd (RZ.pi_zipA (by rfl) T.zip (pa_cons (pv 4) (pa_cons (pe_slice sl_tupS (pv 4) (po_some pe_int) po_none) pa_nil))) (blkOk_by (N := nLoopBeats) (sc := defScope sLoopBeats) (by decide +kernel)) (fun _ _ _ _ _ => (pg_tupK K rfl rfl (pgs_cons (pg_name (i := 6) scLoopBeats.nd rfl (Or.inl rfl)) (pgs_cons (pg_name (i := 7) scLoopBeats.nd rfl (Or.inl rfl)) pgs_nil)))) (fun _ _ _ _ _ => pts_nil) (fun _ _ _ _ _ => (pe_call GCost (hr.mono (by first | omega | decide)) (by rfl) cCost.m cCost.F.kp cCost.b .nil pass0 (pa_cons (pv 0) (pa_cons (pv 1) (pa_cons (pv 6) (pa_cons (pv 7) pa_nil))))))) pa_nil)))
          (pss_one (ps_expr (pe_bm PySem.F.plainAttrs_list PySem.F.slot_list_append PySem.F.type_list_append mt_append (pv 2) (pa_cons (pe_tup (pa_cons (pv 3) (pa_cons (pv 5) (pa_cons (pe_call GInRounds (hr.mono (by first | omega | decide)) (by rfl) cInRounds.m cInRounds.F.kp cInRounds.b .nil pass0 (pa_cons (pe_call GLeastBeats (hr.mono (by first | omega | decide)) (by rfl) cLeastBeats.m cLeastBeats.F.kp cLeastBeats.b .nil pass0 (pa_cons (pv 0) (pa_cons (pv 4) pa_nil))) (pa_cons (pe_ix ix_tup (pv 1) pe_int (fun _ _ => rfl)) pa_nil))) pa_nil)))) pa_nil)))))))
      (pss_one (ps_ret (pv 2))))))), ?_⟩
    refine ⟨_, rfl, a, p, rfl, hP, g, fun H1 s1 => ?_⟩
    refine ⟨_, rfl, _, rfl, a, b, p, y, rfl, hP.kp (Kp.same s1), g, hY.kp (Kp.same s1), yk, fun H2 s2 => ?_⟩
    have S2 := s1.trans s2
    refine ⟨Nat.zero_le _, fun l hl => ?_⟩
    have nl : H l = none := S2.free hl
    refine alloc hl fun H3 s3 e3 => ?_
    have S3 := S2.trans s3
    dsimp only [gName]
    refine ⟨_, rfl, a, p, rfl, hP.kp (Kp.same S3), g, fun hn H' s' => kn hn H' (S3.trans s'), fun L hL hLs hL100 ll lbs H4 s4 nll e4 hT => ?_⟩
    have S4 := S3.trans s4
    have hll := tups_len hT
    have ne : l ≠ ll := fun z => by rw [z, nll] at e3; cases e3
    refine ⟨ll, rfl, ⟨_, SqL.of e4⟩, for_list (K := K) (a := ll) (xs := lbs.map V.ref) (fun i σ H' => ∃ (x3 x4 x5 : Option V) (bs : List Addr), σ = [some (.ref a), some (.ref b), some (.ref l), x3, x4, x5, none, none] ∧ Same1 H2 H' ∧ H' l = some (.lst (bs.map V.ref)) ∧ ToldAt y p.rows H' bs (L.take i) ∧ TupsN H' lbs L ∧ H' ll = some (.lst (lbs.map V.ref)))
      ⟨none, none, none, [], rfl, s3.trans s4, s4 _ _ e3, .nil, hT, e4⟩ (fun i σ H' _ ⟨_, _, _, _, _, _, _, _, _, q⟩ => SqL.of q) ?_ ?_⟩
    · rintro i x σ H5 hi ⟨x3, x4, x5, bs, rfl, s5, e5, hB, hT5, q5⟩
      have hic : i < lbs.length := by
        have q := (List.getElem?_eq_some_iff.mp hi).1
        rwa [List.length_map] at q
      have ex : x = .ref lbs[i] := by
        rw [List.getElem?_map, List.getElem?_eq_getElem hic] at hi
        exact (Option.some.inj hi).symm
      subst ex
      obtain ⟨sv, hq1, hq2⟩ := Paired.get hT5 (List.getElem?_eq_getElem hic)
      have hsv := hLs sv (List.mem_of_getElem? hq1)
      have hsl := hsv.len
      obtain ⟨wl, s0, sh, wN⟩ := way_len hsv
      have shV : (sv.map nI)[0]? = some (nI (sv.headD 0)) := by rw [List.getElem?_map, sh]; rfl
      have S5 := S2.trans s5
      have hbl := Paired.length hB
      rw [List.length_take] at hbl
      refine ⟨_, rfl, lbs[i], _, rfl, .inl (SqT.of hq2), _, rfl, lbs[i], _, _, _, rfl, rfl, SqT.of hq2, atI_nat (j := 0) shV, sz (by rw [List.length_append, List.length_map]; show sv.length + 1 ≤ _; omega), fun wt hwt => ?_⟩
      refine alloc hwt fun H6 s6 e6 => ?_
      have e6 : H6 wt = some (.tup ((wayF sv).map nI)) := by
        rw [e6]
        unfold wayF
        rw [List.map_append]
        rfl
      have S6 := S5.trans s6
      dsimp only [gName]
      refine ⟨_, rfl, _, rfl, _, rfl, wt, _, rfl, e6, fun t2 H7 s7 e7 => ?_⟩
      have e7 : H7 t2 = some (.tup (((wayF sv).drop 1).map nI)) := by
        rw [e7]
        exact congrArg (fun z => some (HO.tup z)) ((dropn 1).trans List.map_drop.symm)
      have f6 := s7 _ _ e6
      have S7 := S6.trans s7
      have pl : (pairsF (wayF sv)).length = (((wayF sv).drop 1).map nI).length := by
        unfold pairsF
        rw [List.length_zip, List.length_map, List.length_drop]
        omega
      refine ⟨wt, t2, _, _, rfl, .inr ⟨SqT.of f6, SqT.of e7, fun D hD => ?_⟩⟩
      refine DLR.lc_zipT (K := K) (a := wt) (b := t2) (xs := (wayF sv).map nI) (ys := ((wayF sv).drop 1).map nI) (by rw [List.length_map, List.length_map, List.length_drop]; omega) (fun j H' => Same1 H7 H' ∧ H' D = some (.lst ((((pairsF (wayF sv)).take j).map fun q => costF y p.rows q.1 q.2).map V.int))) ⟨Same.new hD, upd_same⟩ (fun j H' _ ⟨q, _⟩ => ⟨SqT.of (q _ _ f6), SqT.of (q _ _ e7)⟩) ?_ ?_
      · rintro j xv yv T9 H8 H9 hx hy ⟨s8, hd8⟩ hTn rfl
        rw [List.getElem?_map] at hx hy
        cases hu : (wayF sv)[j]? with
        | none => rw [hu] at hx; cases hx
        | some u =>
        cases hv : ((wayF sv).drop 1)[j]? with
        | none => rw [hv] at hy; cases hy
        | some v =>
        rw [hu] at hx
        rw [hv] at hy
        have ex : nI u = xv := Option.some.inj hx
        have ey : nI v = yv := Option.some.inj hy
        subst ex ey
        have hjl : j < (pairsF (wayF sv)).length := by
          rw [pl, List.length_map]
          exact (List.getElem?_eq_some_iff.mp hv).1
        have hz : (pairsF (wayF sv))[j]? = some (u, v) := List.getElem?_zip_eq_some.mpr ⟨hu, hv⟩
        refine alloc hTn fun H9 s9 e9 => ?_
        have S9 := (S7.trans s8).trans s9
        refine ⟨T9, _, rfl, SqT.of e9, rfl, _, _, rfl, _, _, rfl, rfl, ?_⟩
        refine ⟨rfl, _, rfl, _, rfl, _, rfl, _, rfl, a, b, p, y, u, v, rfl, hP.kp (Kp.same S9), g, hY.kp (Kp.same S9), yk, wN u (List.mem_of_getElem? hu), wN v (List.mem_of_mem_drop (List.mem_of_getElem? hv)), fun H10 s10 => ?_⟩
        have hd10 := s10 _ _ (s9 _ _ hd8)
        refine ⟨_, hd10, szl (by rw [List.length_map, List.length_map, List.length_take, pl, List.length_map, List.length_drop]; omega), Same.mut ((s8.trans s9).trans s10) hD, ?_⟩
        rw [upd_same, List.take_add_one, hz, List.map_append, List.map_append]
        rfl
      · rintro H8 ⟨s8, hd8⟩
        rw [← pl, List.take_length] at hd8
        have S8 := S7.trans s8
        refine ⟨D, _, rfl, SqL.of hd8, ?_⟩
        dsimp only [gName]
        have s58 : Same1 H5 H8 := (s6.trans s7).trans s8
        have e8 := s58 _ _ e5
        refine ⟨_, rfl, .inl ⟨rfl, _, SqL.of e8⟩, _, rfl, _, rfl, _, rfl, _, rfl, a, wt, p, wayF sv, rfl, hP.kp (Kp.same S8), s8 _ _ f6, by omega, by omega, wN, fun H9 s9 => ?_⟩
        have S9 := S8.trans s9
        obtain ⟨ypl, yhl, ycs, hyb, _⟩ := hY.kp (Kp.same S9)
        refine ⟨_, rfl, b, _, _, _, rfl, rfl, SqT.of hyb, at0, leastF p.rows (wayF sv), y.wide, rfl, by omega, ?_⟩
        refine ⟨(by show 3 ≤ sizeLine; decide), fun tt htt => ?_⟩
        refine alloc htt fun H10 s10 e10 => ?_
        have s510 : Same1 H5 H10 := (s58.trans s9).trans s10
        have el := s510 _ _ e5
        refine ⟨l, _, _, rfl, rfl, el, szl (by rw [List.length_map]; omega), _, _, _, bs ++ [tt], rfl, Same.mut (s5.trans s510) hl, by rw [upd_same, List.map_append]; rfl, ?_, TupsN.kp hT5 ((Kp.same s510).trans (Kp.lst el)), (upd_ne ne.symm).trans (s510 _ _ q5)⟩
        rw [List.take_add_one, hq1]
        refine ToldAt.kp (Paired.app (ToldAt.kp hB (Kp.same s510)) (Paired.one ⟨lbs[i], e10, s510 _ _ hq2⟩)) (Kp.lst el)
    · rintro σ H5 ⟨x3, x4, x5, bs, rfl, s5, e5, hB, hT5, q5⟩
      rw [List.length_map, hll, List.take_length] at hB
      exact ⟨_, rfl, ks L hL hLs hL100 l bs H5 (S2.trans s5) nl e5 hB⟩
end
end DL
namespace DL
open PySem L2 DLR
/-! ### rounds of a loop: whole rounds of the drum, no fewer than the least, the same however it is turned -/
theorem fbP_ge {now : Int} {place W : Nat} (h : 0 < W) : now ≤ fb now place W := by
  unfold fb
  have := Int.emod_nonneg ((place : Int) - now) (show (W : Int) ≠ 0 by omega)
  omega
theorem fbP_dvd (now : Int) (place W : Nat) : (W : Int) ∣ fb now place W - (place : Int) := by
  refine ⟨-(((place : Int) - now) / (W : Int)), ?_⟩
  unfold fb
  have e := Int.mul_ediv_add_emod ((place : Int) - now) (W : Int)
  rw [Int.mul_neg]
  omega
theorem fbP_shift {now c : Int} {p q W : Nat} {k : Int} (e : (q : Int) = (p : Int) + c + k * (W : Int)) : fb (now + c) q W = fb now p W + c := by
  unfold fb
  rw [e, show (p : Int) + c + k * (W : Int) - (now + c) = (p : Int) - now + k * (W : Int) by omega, Int.add_mul_emod_self_right]
  omega
theorem comesP {p : Prog} {y : Lay} (k : LayOk p y) {w : Nat} (hw : w < p.ws.length) (read : Int) : 0 < (comes y w read).length ∧ ∀ x ∈ comes y w read, read + 1 ≤ x := by
  have hw : w < y.homes.length := by rw [k.hl]; exact hw
  have e : y.homes.getD w [] = y.homes[w] := by rw [List.getD_eq_getElem?_getD, List.getElem?_eq_getElem hw]; rfl
  have h := k.hok _ (List.getElem_mem hw)
  have w2 := k.w2
  unfold comes comesL
  rw [e]
  refine ⟨by rw [List.length_map]; exact h.l1, fun x hx => ?_⟩
  obtain ⟨z, _, rfl⟩ := List.mem_map.mp hx
  exact fbP_ge (by omega)
def useOne (r : Row) : Int := if r.uses = true then 1 else 0
theorem use_ge {p : Prog} {y : Lay} (k : LayOk p y) {r : Row} {N : Nat} (ho : r.ok p.ws.length N) (read : Int) : useOne r + read ≤ useF y read r := by
  cases r with
  | load w n =>
    obtain ⟨a, b⟩ := comesP k ho.1 read
    have := b _ (minL_spec a).1
    show (1 : Int) + read ≤ minL (comes y w read)
    omega
  | add w n =>
    obtain ⟨a, b⟩ := comesP k ho.1 read
    have := b _ (minL_spec a).1
    show (1 : Int) + read ≤ minL (comes y w read)
    omega
  | take w n =>
    obtain ⟨a, b⟩ := comesP k ho.1 read
    have := b _ (minL_spec a).1
    show (1 : Int) + read ≤ minL (comes y w read)
    omega
  | store w n =>
    obtain ⟨a, b⟩ := comesP k ho.1 read
    have := b _ (maxL_spec a).1
    show (1 : Int) + read ≤ maxL (comes y w read)
    omega
  | say n => show (0 : Int) + read ≤ read; omega
  | test a b => show (0 : Int) + read ≤ read; omega
  | stop => show (0 : Int) + read ≤ read; omega
theorem cost_ge {p : Prog} {y : Lay} (g : Good p) (k : LayOk p y) {b t : Nat} (hb : b < p.rows.length) : useOne (p.rows.getD b .stop) + work (p.rows.getD b .stop) + 1 ≤ costF y p.rows b t := by
  have er : p.rows.getD b .stop = p.rows[b] := by rw [List.getD_eq_getElem?_getD, List.getElem?_eq_getElem hb]; rfl
  have ho := g.ok _ (List.getElem_mem hb)
  have w2 := k.w2
  unfold costF behindF
  rw [er]
  have a := use_ge k ho ((y.places.getD b 0 : Nat) : Int)
  have c := fbP_ge (now := useF y ((y.places.getD b 0 : Nat) : Int) p.rows[b] + work p.rows[b] + 1) (place := y.places.getD t 0) (W := y.wide) (by omega)
  omega
theorem sums_le {α : Type} {f g : α → Int} : ∀ {l : List α}, (∀ q ∈ l, f q + 1 ≤ g q) → (l.map f).sum + (l.length : Int) ≤ (l.map g).sum
  | [], _ => Int.le_refl _
  | x :: l, h => by
    have a := h x List.mem_cons_self
    have b := sums_le (l := l) fun q hq => h q (List.mem_cons_of_mem _ hq)
    rw [List.map_cons, List.map_cons, List.sum_cons, List.sum_cons, List.length_cons]
    omega
theorem sum_ones : ∀ l : List Nat, ((l.map fun x => [x]).map (leastHalfF rows)).sum = (l.length : Int)
  | [] => rfl
  | x :: l => by
    rw [List.map_cons, List.map_cons, List.sum_cons, sum_ones l, List.length_cons]
    show (1 : Int) + _ = _
    omega
theorem least_eq (rows : List Row) (w : List Nat) : leastF rows w = ((pairsF w).map fun q => useOne (rows.getD q.1 .stop) + work (rows.getD q.1 .stop)).sum + ((w.drop 1).length : Int) := by
  unfold leastF halvesF
  rw [List.map_append, List.sum_append, sum_ones, List.map_map]
  rfl
theorem pairs_len (w : List Nat) : (pairsF w).length = (w.drop 1).length := by
  unfold pairsF
  rw [List.length_zip, List.length_drop]
  omega
theorem takes_ge {p : Prog} {y : Lay} (g : Good p) (k : LayOk p y) {s : List Nat} (hs : Str_ p.rows.length s) : leastF p.rows (wayF s) ≤ takesF y p.rows s := by
  rw [least_eq, ← pairs_len]
  obtain ⟨_, _, _, wN⟩ := way_len hs
  exact sums_le fun q hq => cost_ge g k (wN _ (List.of_mem_zip hq).1)
theorem dvd_cost (y : Lay) (rows : List Row) (u v : Nat) : (y.wide : Int) ∣ costF y rows u v - (((y.places.getD v 0 : Nat) : Int) - ((y.places.getD u 0 : Nat) : Int)) := by
  obtain ⟨k, e⟩ := fbP_dvd (behindF y (rows.getD u .stop) ((y.places.getD u 0 : Nat) : Int)) (y.places.getD v 0) y.wide
  refine ⟨k, ?_⟩
  unfold costF
  omega
theorem dvd_tele {W : Int} {f : Nat → Nat → Int} {pl : Nat → Int} (h : ∀ u v, W ∣ f u v - (pl v - pl u)) : ∀ (xs : List Nat) (x : Nat), W ∣ ((pairsF (x :: xs)).map fun q => f q.1 q.2).sum - (pl (xs.getLastD x) - pl x)
  | [], x => ⟨0, by show (0 : Int) - (pl x - pl x) = _; omega⟩
  | y :: ys, x => by
    obtain ⟨a, ea⟩ := h x y
    obtain ⟨b, eb⟩ := dvd_tele h ys y
    refine ⟨a + b, ?_⟩
    have e : pairsF (x :: y :: ys) = (x, y) :: pairsF (y :: ys) := rfl
    rw [e, List.map_cons, List.sum_cons, List.getLastD_cons, Int.mul_add, ← ea, ← eb]
    dsimp only
    omega
theorem dvd_takes (y : Lay) (rows : List Row) {s : List Nat} (ne : s ≠ []) : (y.wide : Int) ∣ takesF y rows s := by
  match s, ne with
  | x :: r, _ =>
    have q := dvd_tele (pl := fun i => ((y.places.getD i 0 : Nat) : Int)) (dvd_cost y rows) (r ++ [x]) x
    have e : (r ++ [x]).getLastD x = x := by simp
    rw [e] at q
    have e2 : ((y.places.getD x 0 : Nat) : Int) - ((y.places.getD x 0 : Nat) : Int) = 0 := by omega
    rw [e2, Int.sub_zero] at q
    exact q
theorem dvd_round (b : Int) (W : Nat) : (W : Int) ∣ roundF b W := by
  refine ⟨-((-b) / (W : Int)), ?_⟩
  unfold roundF
  have e := Int.mul_ediv_add_emod (-b) (W : Int)
  rw [Int.mul_neg]
  omega
theorem round_le {b t : Int} {W : Nat} (h0 : 0 < W) (h : b ≤ t) (d : (W : Int) ∣ t) : roundF b W ≤ t := by
  obtain ⟨m, em⟩ := dvd_round b W
  obtain ⟨k, ek⟩ := d
  have lt : roundF b W < b + (W : Int) := by
    unfold roundF
    have := Int.emod_lt_of_pos (-b) (show (0 : Int) < (W : Int) by omega)
    omega
  rw [em] at lt ⊢
  rw [ek] at h ⊢
  refine Int.mul_le_mul_of_nonneg_left ?_ (by omega)
  refine Int.lt_add_one_iff.mp (Int.lt_of_mul_lt_mul_left (a := (W : Int)) ?_ (by omega))
  rw [Int.mul_add, Int.mul_one]
  omega
theorem few_le {p : Prog} {y : Lay} (g : Good p) (k : LayOk p y) {s : List Nat} (hs : Str_ p.rows.length s) : fewF y p.rows s ≤ takesF y p.rows s := by
  have w2 := k.w2
  exact round_le (by omega) (takes_ge g k hs) (dvd_takes y p.rows hs.ne)
structure Turned (p : Prog) (y z : Lay) (c : Int) : Prop where
  wide : z.wide = y.wide
  pl : ∀ i, i < p.rows.length → ∃ k : Int, ((z.places.getD i 0 : Nat) : Int) = ((y.places.getD i 0 : Nat) : Int) + c + k * (y.wide : Int)
  to : ∀ w, w < p.ws.length → ∀ x ∈ z.homes.getD w [], ∃ x0 ∈ y.homes.getD w [], ∃ k : Int, (x : Int) = (x0 : Int) + c + k * (y.wide : Int)
  fro : ∀ w, w < p.ws.length → ∀ x0 ∈ y.homes.getD w [], ∃ x ∈ z.homes.getD w [], ∃ k : Int, (x : Int) = (x0 : Int) + c + k * (y.wide : Int)
theorem minL_tr {l m : List Int} {c : Int} (hl : 0 < l.length) (a : ∀ x ∈ m, x - c ∈ l) (b : ∀ x ∈ l, x + c ∈ m) : minL m = minL l + c := by
  obtain ⟨h1, h2⟩ := minL_spec hl
  refine (minL_is (b _ h1) fun y hy => ?_).symm
  have := h2 _ (a y hy)
  omega
theorem maxL_tr {l m : List Int} {c : Int} (hl : 0 < l.length) (a : ∀ x ∈ m, x - c ∈ l) (b : ∀ x ∈ l, x + c ∈ m) : maxL m = maxL l + c := by
  obtain ⟨h1, h2⟩ := maxL_spec hl
  refine (maxL_is (b _ h1) fun y hy => ?_).symm
  have := h2 _ (a y hy)
  omega
theorem comes_tr {p : Prog} {y z : Lay} {c : Int} (h : Turned p y z c) {w : Nat} (hw : w < p.ws.length) (read k0 : Int) : (∀ x ∈ comes z w (read + (c + k0 * (y.wide : Int))), x - (c + k0 * (y.wide : Int)) ∈ comes y w read) ∧ ∀ x ∈ comes y w read, x + (c + k0 * (y.wide : Int)) ∈ comes z w (read + (c + k0 * (y.wide : Int))) := by
  have sh : ∀ {x x0 : Nat} {k : Int}, (x : Int) = (x0 : Int) + c + k * (y.wide : Int) → fb (read + (c + k0 * (y.wide : Int)) + 1) x y.wide = fb (read + 1) x0 y.wide + (c + k0 * (y.wide : Int)) := by
    intro x x0 k e
    rw [show read + (c + k0 * (y.wide : Int)) + 1 = (read + 1) + (c + k0 * (y.wide : Int)) by omega]
    refine fbP_shift (k := k - k0) ?_
    rw [e, Int.sub_mul]
    omega
  unfold comes comesL
  rw [h.wide]
  constructor
  · intro v hv
    obtain ⟨x, hx, rfl⟩ := List.mem_map.mp hv
    obtain ⟨x0, hx0, k, e⟩ := h.to w hw x hx
    refine List.mem_map.mpr ⟨x0, hx0, ?_⟩
    rw [sh e]
    omega
  · intro v hv
    obtain ⟨x0, hx0, rfl⟩ := List.mem_map.mp hv
    obtain ⟨x, hx, k, e⟩ := h.fro w hw x0 hx0
    exact List.mem_map.mpr ⟨x, hx, sh e⟩
theorem use_tr {p : Prog} {y z : Lay} {c : Int} (ky : LayOk p y) (h : Turned p y z c) {r : Row} {N : Nat} (ho : r.ok p.ws.length N) (read k0 : Int) : useF z (read + (c + k0 * (y.wide : Int))) r = useF y read r + (c + k0 * (y.wide : Int)) := by
  cases r with
  | load w n => exact minL_tr (comesP ky ho.1 read).1 (comes_tr h ho.1 read k0).1 (comes_tr h ho.1 read k0).2
  | add w n => exact minL_tr (comesP ky ho.1 read).1 (comes_tr h ho.1 read k0).1 (comes_tr h ho.1 read k0).2
  | take w n => exact minL_tr (comesP ky ho.1 read).1 (comes_tr h ho.1 read k0).1 (comes_tr h ho.1 read k0).2
  | store w n => exact maxL_tr (comesP ky ho.1 read).1 (comes_tr h ho.1 read k0).1 (comes_tr h ho.1 read k0).2
  | say n => rfl
  | test a b => rfl
  | stop => rfl
theorem cost_tr {p : Prog} {y z : Lay} {c : Int} (g : Good p) (ky : LayOk p y) (h : Turned p y z c) {b t : Nat} (hb : b < p.rows.length) (ht : t < p.rows.length) : costF z p.rows b t = costF y p.rows b t := by
  have er : p.rows.getD b .stop = p.rows[b] := by rw [List.getD_eq_getElem?_getD, List.getElem?_eq_getElem hb]; rfl
  have ho := g.ok _ (List.getElem_mem hb)
  obtain ⟨k1, e1⟩ := h.pl b hb
  obtain ⟨k2, e2⟩ := h.pl t ht
  unfold costF behindF
  rw [er, h.wide, e1, show ((y.places.getD b 0 : Nat) : Int) + c + k1 * (y.wide : Int) = ((y.places.getD b 0 : Nat) : Int) + (c + k1 * (y.wide : Int)) by omega, use_tr ky h ho]
  rw [show useF y ((y.places.getD b 0 : Nat) : Int) p.rows[b] + (c + k1 * (y.wide : Int)) + work p.rows[b] + 1 = (useF y ((y.places.getD b 0 : Nat) : Int) p.rows[b] + work p.rows[b] + 1) + (c + k1 * (y.wide : Int)) by omega]
  rw [fbP_shift (p := y.places.getD t 0) (k := k2 - k1) (by rw [e2, Int.sub_mul]; omega)]
  omega
theorem takes_tr {p : Prog} {y z : Lay} {c : Int} (g : Good p) (ky : LayOk p y) (h : Turned p y z c) {s : List Nat} (hs : Str_ p.rows.length s) : takesF z p.rows s = takesF y p.rows s := by
  obtain ⟨_, _, _, wN⟩ := way_len hs
  unfold takesF
  refine congrArg List.sum (List.map_congr_left fun q hq => ?_)
  exact cost_tr g ky h (wN _ (List.of_mem_zip hq).1) (wN _ (List.mem_of_mem_drop (List.of_mem_zip hq).2))
theorem few_tr {p : Prog} {y z : Lay} {c : Int} (h : Turned p y z c) (rows : List Row) (s : List Nat) : fewF z rows s = fewF y rows s := by
  unfold fewF
  rw [h.wide]
end DL
namespace DLR
open PySem PySem.Spec PyProof.Rows L2
theorem lookup_rel {f : Str × NameKind → Str × NameKind} (hf : ∀ p, (f p).1 = p.1 ∧ ((p.2 = .cell ∨ p.2 = .free) → ((f p).2 = .cell ∨ (f p).2 = .free))) : ∀ {names : List (Str × NameKind)} {x : Str}, names.lookup x = some .cell ∨ names.lookup x = some .free →
    (names.map f).lookup x = some .cell ∨ (names.map f).lookup x = some .free
  | [], x, h => by simp at h
  | (n, k) :: r, x, h => by
    obtain ⟨h1, h2⟩ := hf (n, k)
    obtain ⟨n', k', e⟩ : ∃ n' k', f (n, k) = (n', k') := ⟨_, _, rfl⟩
    rw [e] at h1 h2
    have h1 : n' = n := h1
    subst h1
    rw [List.map_cons, e]
    rw [List.lookup_cons] at h ⊢
    cases c : x == n' with
    | true =>
      rw [c] at h
      have h : k = .cell ∨ k = .free := h.imp (fun z => Option.some.inj z) fun z => Option.some.inj z
      exact (h2 h).imp (congrArg some) (congrArg some)
    | false =>
      rw [c] at h
      exact lookup_rel hf h
theorem blkRel {N : List Str} {sc scope : Scope} {own : List (Str × Nat)} {env : Env} (h : BlkOk N sc scope own) : BlkOk N (relabel sc env) scope own := by
  refine ⟨h.kind, h.uniq, h.ix, fun y hy e => ?_, h.own⟩
  unfold relabel
  refine lookup_rel (fun p => ?_) (h.free y hy e)
  obtain ⟨n, k⟩ := p
  dsimp only
  split
  · exact ⟨rfl, fun _ => .inl rfl⟩
  · exact ⟨rfl, fun z => z⟩
theorem pi_tupK {X : Cx} {tg e : Expr} {te : TE} (K0 : PySem.W.Frag) (hK : X.K = K0) (h : PE X e te) : PI X tg e (iTup K0 te) := by
  subst hK
  exact pi_tup h
theorem cr_sortedIK {X : Cx} (K0 : PySem.W.Frag) (hK : X.K = K0) : CallR X (.builtin "sorted") (rSortedI K0) := hK ▸ cr_sortedI
theorem call_tuple_ofK {X : Cx} (K0 : PySem.W.Frag) (hK : X.K = K0) : CallR X (.type "tuple") (fun xs H Q => ∃ p ys, xs = [.ref p] ∧ ((SqL K0 H p ys ∧ ∀ l, H l = none → Q (.ref l) (upd H l (.tup ys))) ∨ (SqT K0 H p ys ∧ Q (.ref p) H))) := by
  subst hK
  exact call_tuple_of
end DLR
namespace DL
open PySem L2 DLR LamX
theorem refs_ne_dice {H : Hp} {d sa la : Addr} {gs : List Addr} (dv : DiceV H d sa) (h : H la = some (.lst (gs.map V.ref))) : la ≠ d := fun e => by
  subst e
  obtain ⟨i, m, r, z, _⟩ := dv
  rw [z] at h
  have q : ([.ref sa, .int i, .int m, .int r] : List V) = gs.map V.ref := by injection (Option.some.inj h)
  match gs, q with
  | [], q => cases q
  | [_], q => cases q
  | _ :: _ :: _, q => cases (List.cons.inj (List.cons.inj q).2).1
def noTb (H : Hp) : Hp := fun a => match H a with
  | some (.tbl _) => none
  | x => x
theorem noTb_of {H : Hp} {a : Addr} {o : HO} (h : noTb H a = some o) : H a = some o ∧ ∀ ps, o ≠ .tbl ps := by
  unfold noTb at h
  split at h
  · cases h
  · rename_i n
    exact ⟨h, fun ps z => n ps (by rw [h, z])⟩
theorem noTb_at {H : Hp} {a : Addr} {o : HO} (h : H a = some o) (n : ∀ ps, o ≠ .tbl ps) : noTb H a = some o := by
  unfold noTb
  split
  · rename_i ps e
    rw [h] at e
    exact absurd (Option.some.inj e) (n ps)
  · exact h
theorem noTb_none {H : Hp} {a : Addr} (h : H a = none) : noTb H a = none := by
  unfold noTb
  rw [h]
theorem Ent.noTb {K : Frg} {H : Hp} {d sa : Addr} {ns : List Int} (h : Ent K H d sa ns) : Ent K (noTb H) d sa ns := by
  refine ⟨?_, ?_, h.len⟩
  · obtain ⟨i, m, r, z, q⟩ := h.dice
    exact ⟨i, m, r, noTb_at z (fun ps q => by cases q), q⟩
  · rcases h.scr with (g | ⟨o, g⟩) | g
    · exact .inl (.inl (noTb_at g (fun ps q => by cases q)))
    · exact .inl (.inr ⟨o, noTb_at g (fun ps q => by cases q)⟩)
    · exact .inr g
theorem Dc.ext {K : Frg} {H0 H H' : Hp} {d sa : Addr} {ns : List Int} (h : Dc K (DL.noTb H0) H d sa ns) (e : ExtN H H') : Dc K (DL.noTb H0) H' d sa ns := by
  refine ⟨h.e0, fun x o n g => e x o (h.but x o n g) (noTb_of g).2, ?_⟩
  obtain ⟨i, m, r, z, q⟩ := h.dice
  exact ⟨i, m, r, e _ _ z (fun ps q => by cases q), q⟩
theorem tabS_dice {K : Frg} {H H' : Hp} {d sa P : Addr} {ns : List Int} {q : Str} (t : TabS H P q) (c : Dc K H H' d sa ns) : TabS H' P q := by
  obtain ⟨j, m, r, z, _⟩ := c.e0.dice
  obtain ⟨ps, h1, h2, h3⟩ := t
  refine ⟨ps, c.but _ _ (ne_of h1 z (by intro q; cases q)) h1, h2, fun pos cv hc => ?_⟩
  obtain ⟨k, e1, e2⟩ := h3 pos cv hc
  exact ⟨k, e1, c.but _ _ (ne_of e2 z (by intro q; unfold CodeO at q; cases q)) e2⟩
/-! ### what the loops told, as data -/
def tldD (y : Lay) (rows : List Row) (s : List Nat) : PyData := .tuple [encI s, .int (takesF y rows s), .int (fewF y rows s)]
def tldsD (y : Lay) (rows : List Row) (L : List (List Nat)) : PyData := .list (L.map (tldD y rows))
def loopsD (L : List (List Nat)) : PyData := .list (L.map encI)
theorem natsP_lay : ∀ l : List Nat, PyData.canLayAll0 (natsP l) = true
  | [] => by decide +kernel
  | x :: l => by
    show (PyData.canLay0 (.int (x : Int)) && PyData.canLayAll0 (natsP l)) = true
    rw [natsP_lay l]
    rfl
theorem encs_lay : ∀ L : List (List Nat), PyData.canLayAll0 (L.map encI) = true
  | [] => by decide +kernel
  | x :: l => by
    show (PyData.canLayAll0 (natsP x) && PyData.canLayAll0 (l.map encI)) = true
    rw [encs_lay l, natsP_lay]
    rfl
theorem tlds_lay (y : Lay) (rows : List Row) : ∀ L : List (List Nat), PyData.canLayAll0 (L.map (tldD y rows)) = true
  | [] => (show PyData.canLayAll0 [] = true by decide +kernel)
  | x :: l => by
    show ((PyData.canLayAll0 (natsP x) && true) && PyData.canLayAll0 (l.map (tldD y rows))) = true
    rw [tlds_lay y rows l, natsP_lay]
    rfl
theorem encs_dep : ∀ L : List (List Nat), PyData.depthAll (L.map encI) ≤ 1
  | [] => by decide
  | x :: l => by
    have a := encs_dep l
    have b := encI_dep x
    show max (encI x).depth (PyData.depthAll (l.map encI)) ≤ 1
    omega
theorem tlds_dep (y : Lay) (rows : List Row) : ∀ L : List (List Nat), PyData.depthAll (L.map (tldD y rows)) ≤ 3
  | [] => (show PyData.depthAll [] ≤ 3 by decide)
  | x :: l => by
    have a := tlds_dep y rows l
    have b := encI_dep x
    have c : (tldD y rows x).depth ≤ 3 := by
      unfold tldD
      simp only [PyData.depth, PyData.depthAll]
      omega
    show max (tldD y rows x).depth (PyData.depthAll (l.map (tldD y rows))) ≤ 3
    omega
theorem loopsD_shaped (L : List (List Nat)) : SeqAt.shaped (loopsD L) = true := by
  have d := encs_dep L
  refine Bool.and_eq_true_iff.mpr ⟨encs_lay L, decide_eq_true ?_⟩
  unfold loopsD
  simp only [PyData.depth]
  omega
theorem tldsD_shaped (y : Lay) (rows : List Row) (L : List (List Nat)) : SeqAt.shaped (tldsD y rows L) = true := by
  have d := tlds_dep y rows L
  refine Bool.and_eq_true_iff.mpr ⟨tlds_lay y rows L, decide_eq_true ?_⟩
  unfold tldsD
  simp only [PyData.depth]
  omega
theorem loopsD_at {K : Frg} {H : Hp} : ∀ {bs : List Addr} {L : List (List Nat)}, TupsN H bs L → DpAll K H (bs.map V.ref) (L.map encI)
  | [], [], .nil => .nil
  | _ :: _, _ :: _, .cons h t => .cons (encI_at h) (loopsD_at t)
theorem tldsD_at {K : Frg} {H : Hp} {y : Lay} {rows : List Row} : ∀ {bs : List Addr} {L : List (List Nat)}, ToldAt y rows H bs L → DpAll K H (bs.map V.ref) (L.map (tldD y rows))
  | [], [], .nil => .nil
  | _ :: _, _ :: _, .cons ⟨t, e1, e2⟩ r => .cons (.tup (SqT.of e1) (.cons (encI_at e2) (.cons (.int _) (.cons (.int _) .nil)))) (tldsD_at r)
theorem ne_loops {K : Frg} {H : Hp} {a b : Addr} {bs cs : List Addr} {L : List (List Nat)} {Q : VK} (h1 : H a = some (.lst (bs.map V.ref))) (t1 : TupsN H bs L) (h2 : H b = some (.lst (cs.map V.ref))) (t2 : TupsN H cs L) (q : Q (.bl false) H) : rNeD K (.ref a) (.ref b) H Q := by
  refine ⟨loopsD L, loopsD L, .lst (SqL.of h1) (loopsD_at t1), .lst (SqL.of h2) (loopsD_at t2), loopsD_shaped L, loopsD_shaped L, ?_⟩
  rw [PySem.SeqAt.eqv_refl _ (SeqAt.canLay_of_shaped (loopsD_shaped L))]
  exact q
theorem ne_tlds {K : Frg} {H : Hp} {a b : Addr} {bs cs : List Addr} {y : Lay} {rows : List Row} {L : List (List Nat)} {Q : VK} (h1 : H a = some (.lst (bs.map V.ref))) (t1 : ToldAt y rows H bs L) (h2 : H b = some (.lst (cs.map V.ref))) (t2 : ToldAt y rows H cs L) (q : Q (.bl false) H) : rNeD K (.ref a) (.ref b) H Q := by
  refine ⟨tldsD y rows L, tldsD y rows L, .lst (SqL.of h1) (tldsD_at t1), .lst (SqL.of h2) (tldsD_at t2), tldsD_shaped y rows L, tldsD_shaped y rows L, ?_⟩
  rw [PySem.SeqAt.eqv_refl _ (SeqAt.canLay_of_shaped (tldsD_shaped y rows L))]
  exact q
theorem home_tr {W n : Nat} {h : List Nat} (w2 : 2 ≤ W) (k : HomeOk W h) {ms : List Int} (pm : ms.Perm (h.map fun x : Nat => (((x + n) % W : Nat) : Int))) (up : ms.Pairwise (· ≤ ·)) :
    ∃ h2 : List Nat, ms.map V.int = h2.map nI ∧ HomeOk W h2 ∧ (∀ x ∈ h2, ∃ x0 ∈ h, ∃ k : Int, (x : Int) = (x0 : Int) + (n : Int) + k * (W : Int)) ∧ ∀ x0 ∈ h, ∃ x ∈ h2, ∃ k : Int, (x : Int) = (x0 : Int) + (n : Int) + k * (W : Int) := by
  have kk : ∀ x0 : Nat, ∃ k : Int, (((x0 + n) % W : Nat) : Int) = (x0 : Int) + (n : Int) + k * (W : Int) := fun x0 => by
    refine ⟨-(((x0 + n) / W : Nat) : Int), ?_⟩
    have e := Nat.div_add_mod (x0 + n) W
    have e2 : ((W * ((x0 + n) / W) : Nat) : Int) = (((x0 + n) / W : Nat) : Int) * (W : Int) := by rw [Int.natCast_mul, Int.mul_comm]
    rw [Int.neg_mul, ← e2]
    omega
  have inj : (h.map fun x : Nat => (((x + n) % W : Nat) : Int)).Nodup := by
    refine List.pairwise_map.mpr (k.up.imp_of_mem fun {a b} ha hb lt e => ?_)
    have a1 := k.lt a ha
    have b1 := k.lt b hb
    have e : (a + n) % W = (b + n) % W := Int.ofNat.inj e
    have e1 := Nat.div_add_mod (a + n) W
    have e3 := Nat.div_add_mod (b + n) W
    rcases Nat.lt_trichotomy ((a + n) / W) ((b + n) / W) with q | q | q
    · have := Nat.mul_le_mul_left W q
      rw [Nat.mul_succ] at this
      omega
    · rw [q] at e1
      omega
    · have := Nat.mul_le_mul_left W q
      rw [Nat.mul_succ] at this
      omega
  have nd : ms.Nodup := pm.nodup_iff.mpr inj
  have st : ms.Pairwise (· < ·) := List.Pairwise.imp₂ (fun a b h1 h2 => by omega) up nd
  have h0 : ∀ x ∈ ms, 0 ≤ x := fun x hx => by
    obtain ⟨z, _, rfl⟩ := List.mem_map.mp (pm.mem_iff.mp hx)
    omega
  obtain ⟨h2, e1, e2, e3, e4⟩ := rise_nat h0 st
  have e5 : ∀ x : Nat, (x : Int) ∈ ms → x ∈ h2 := fun x hx => by
    have q : V.int (x : Int) ∈ ms.map V.int := List.mem_map.mpr ⟨_, hx, rfl⟩
    rw [e1] at q
    obtain ⟨z, hz, e⟩ := List.mem_map.mp q
    have := V.int.inj e
    have : z = x := by omega
    exact this ▸ hz
  have ln : ms.length = h.length := by rw [pm.length_eq, List.length_map]
  refine ⟨h2, e1, ⟨by rw [e2, ln]; exact k.l1, by rw [e2, ln]; exact k.l3, e3, fun x hx => ?_⟩, fun x hx => ?_, fun x0 hx0 => ?_⟩
  · obtain ⟨z, _, e⟩ := List.mem_map.mp (pm.mem_iff.mp (e4 x hx))
    have := Nat.mod_lt (z + n) (show 0 < W by omega)
    omega
  · obtain ⟨z, hz, e⟩ := List.mem_map.mp (pm.mem_iff.mp (e4 x hx))
    obtain ⟨k0, hk0⟩ := kk z
    exact ⟨z, hz, k0, e ▸ hk0⟩
  · obtain ⟨k0, hk0⟩ := kk x0
    exact ⟨(x0 + n) % W, e5 _ (pm.mem_iff.mpr (List.mem_map.mpr ⟨x0, hx0, rfl⟩)), k0, hk0⟩
end DL
namespace DL
open PySem L2 DLR LamX
abbrev sLaw : Stmt := top 61
abbrev nLaw : List Str := ["_law_script","_law_d","_law_turn","_law_program","_law_wide","_law_places","_law_homes","_law_found","_law_loop","_law_take","_law_few","_law_by","_law_turned","_law_some","_law_row","_law_place","_law_home"]
def forB : Stmt → List Stmt
  | .For _ _ b .. => b
  | _ => []
def ifB : Stmt → List Stmt
  | .If _ b .. => b
  | _ => []
def asgV : Stmt → Expr
  | .Assign _ v _ => v
  | _ => .Name "x" ⟨0, 0, 0, 0⟩
def callA : Expr → Expr
  | .Call _ (a :: _) _ _ => a
  | e => e
def lcS (d : Scope) : Expr → Scope
  | .ListComp _ _ sc _ => sc
  | _ => d
abbrev scTurn : Scope := lcS (defScope sLaw) (callA (asgV ((ifB ((forB ((defBody sLaw).getD 1 (.Pass ⟨0, 0, 0, 0⟩))).getD 3 (.Pass ⟨0, 0, 0, 0⟩))).getD 3 (.Pass ⟨0, 0, 0, 0⟩))))
abbrev qP : Str := (("law" : Str) ++ (".<locals>." : Str))
abbrev qL : Str := qP ++ ("<lambda>" : Str)
def spLaw (K : Frg) (Pt : Addr) : Sp := fun vs H Q _ => ∃ (sa : Addr) (ns : List Int), vs = [.ref sa] ∧ SqL K H sa (ns.map V.int) ∧ ns.length ≤ 63 ∧ H Pt = some (.tbl #[]) ∧ ∀ H', Q (.bl true) H'
abbrev FDice (K : Frg) (mg : Str → Option Value) := Fd K mg "_law_dice" sDice ["_law_script"]
abbrev FTold (K : Frg) (mg : Str → Option Value) := Fd K mg "_law_told" sTold ["_law_work"]
theorem tab_mem {Pt : Addr} {q : Str} (h : q = qP) : (Pt, q ++ "<lambda>") ∈ [(Pt, qL)] := by
  rw [h]
  exact List.mem_singleton.mpr rfl
theorem tab_one {Pt : Addr} {q : Str} (h : q = qP) : ∀ p ∈ [(Pt, qL)], p.1 = Pt → p.2 = q ++ "<lambda>" := by
  rw [h]
  intro p hp _
  rw [List.mem_singleton.mp hp]
structure Tn (K : Frg) (Hb H : Hp) (d sa Pt pa pl hl : Addr) (cs : List Addr) (ns : List Int) (p : Prog) (y : Lay) : Prop where
  ent : Dc K Hb H d sa ns
  tab : TabS H Pt qL
  prog : ProgAt H pa p
  pls : H pl = some (.tup (y.places.map nI))
  hms : H hl = some (.tup (cs.map V.ref))
  hat : HomesAt H cs y.homes
theorem Tn.same {K : Frg} {Hb H H' : Hp} {d sa Pt pa pl hl : Addr} {cs : List Addr} {ns : List Int} {p : Prog} {y : Lay} (h : Tn K Hb H d sa Pt pa pl hl cs ns p y) (s : Same1 H H') : Tn K Hb H' d sa Pt pa pl hl cs ns p y :=
  ⟨h.ent.same s, h.tab.ext s, h.prog.kp (Kp.same s), s _ _ h.pls, s _ _ h.hms, h.hat.kp (Kp.same s)⟩
theorem Tn.dice {K : Frg} {Hb H H' : Hp} {d sa Pt pa pl hl : Addr} {cs : List Addr} {ns : List Int} {p : Prog} {y : Lay} (h : Tn K Hb H d sa Pt pa pl hl cs ns p y) (c : Dc K H H' d sa ns) : Tn K Hb H' d sa Pt pa pl hl cs ns p y :=
  ⟨h.ent.trans c, tabS_dice h.tab c, h.prog.kp c.kp, c.kp _ _ h.pls, c.kp _ _ h.hms, h.hat.kp c.kp⟩
theorem Tn.ext {K : Frg} {H0 H H' : Hp} {d sa Pt pa pl hl : Addr} {cs : List Addr} {ns : List Int} {p : Prog} {y : Lay} (h : Tn K (noTb H0) H d sa Pt pa pl hl cs ns p y) (e : ExtN H H') (t : TabS H' Pt qL) : Tn K (noTb H0) H' d sa Pt pa pl hl cs ns p y := by
  have kp : Kp H H' := fun a xs g => e _ _ g (fun ps z => by cases z)
  exact ⟨h.ent.ext e, t, h.prog.kp kp, kp _ _ h.pls, kp _ _ h.hms, h.hat.kp kp⟩
theorem told_tr {p : Prog} {y z : Lay} {c : Int} (g : Good p) (ky : LayOk p y) (h : Turned p y z c) {H : Hp} : ∀ {bs : List Addr} {L : List (List Nat)}, (∀ s ∈ L, Str_ p.rows.length s) → ToldAt z p.rows H bs L → ToldAt y p.rows H bs L
  | [], [], _, .nil => .nil
  | _ :: _, s :: _, hL, .cons ⟨t, e1, e2⟩ r => .cons ⟨t, by rw [← takes_tr g ky h (hL s List.mem_cons_self), ← few_tr h p.rows s]; exact e1, e2⟩ (told_tr g ky h (fun s hs => hL s (List.mem_cons_of_mem _ hs)) r)
def HomeTr (W m : Nat) (h h2 : List Nat) : Prop := HomeOk W h2 ∧ (∀ x ∈ h2, ∃ x0 ∈ h, ∃ k : Int, (x : Int) = (x0 : Int) + (m : Int) + k * (W : Int)) ∧ ∀ x0 ∈ h, ∃ x ∈ h2, ∃ k : Int, (x : Int) = (x0 : Int) + (m : Int) + k * (W : Int)
theorem turned_of {p : Prog} {y : Lay} {m : Nat} (yk : LayOk p y) {hz : List (List Nat)} (hh : Paired (HomeTr y.wide m) y.homes hz) :
    LayOk p ⟨y.wide, y.places.map fun x => (x + m) % y.wide, hz⟩ ∧ Turned p y ⟨y.wide, y.places.map fun x => (x + m) % y.wide, hz⟩ (m : Int) := by
  have w2 := yk.w2
  have hlen := Paired.length hh
  have kk : ∀ x0 : Nat, ∃ k : Int, (((x0 + m) % y.wide : Nat) : Int) = (x0 : Int) + (m : Int) + k * (y.wide : Int) := fun x0 => by
    refine ⟨-(((x0 + m) / y.wide : Nat) : Int), ?_⟩
    have e := Nat.div_add_mod (x0 + m) y.wide
    have e2 : ((y.wide * ((x0 + m) / y.wide) : Nat) : Int) = (((x0 + m) / y.wide : Nat) : Int) * (y.wide : Int) := by rw [Int.natCast_mul, Int.mul_comm]
    rw [Int.neg_mul, ← e2]
    omega
  have atH : ∀ w, w < p.ws.length → HomeTr y.wide m (y.homes.getD w []) (hz.getD w []) := fun w hw => by
    have hw : w < y.homes.length := by rw [yk.hl]; exact hw
    obtain ⟨h2, q1, q2⟩ := Paired.get hh (List.getElem?_eq_getElem hw)
    rw [List.getD_eq_getElem?_getD, List.getD_eq_getElem?_getD, q1, List.getElem?_eq_getElem hw]
    exact q2
  refine ⟨⟨yk.w2, yk.w24, by rw [List.length_map]; exact yk.pl, fun x hx => ?_, by show hz.length = _; rw [← hlen]; exact yk.hl, fun h hm => ?_⟩, rfl, fun i hi => ?_, fun w hw => (atH w hw).2.1, fun w hw => (atH w hw).2.2⟩
  · obtain ⟨x0, _, rfl⟩ := List.mem_map.mp hx
    exact Nat.mod_lt _ (show 0 < y.wide by omega)
  · obtain ⟨j, hj, rfl⟩ := List.getElem_of_mem hm
    obtain ⟨h0, q1, q2⟩ := Paired.getR hh (List.getElem?_eq_getElem hj)
    exact q2.1
  · have hi : i < y.places.length := by rw [yk.pl]; exact hi
    show ∃ k : Int, (((y.places.map fun x => (x + m) % y.wide).getD i 0 : Nat) : Int) = _
    rw [List.getD_eq_getElem?_getD, List.getElem?_map, List.getD_eq_getElem?_getD, List.getElem?_eq_getElem hi]
    exact kk _
section
variable {P : Program} {w : World} {K : PySem.W.Frag} {mg : Str → Option Value} {base : Heap}
theorem scLaw : FnScope nLaw ["_law_script"] (defScope sLaw) := ⟨rfl, rfl, rfl, by decide +kernel, rfl, by decide +kernel, by decide +kernel⟩
theorem ok_law {fa cc Pt : Addr} {oc kV doc pm ct : Value} {an od : Option Addr} {osl : Array (Option Value)}
    (lk : K.lookup fa = some ⟨oc, od, .func (PySem.W.fnOf "law" "law" (defArgs sLaw) (defBody sLaw) (defScope sLaw) .none kV doc pm an (.ref cc) ct), osl⟩) (hcd : PySem.W.codeIn K (.ref cc) "law" = true) (TB : TabB base mg cc Pt)
    (cDice : FDice K mg) (cNext : FNext K mg) (cAny : FAny K mg) (cLaying : FLaying K mg) (cTold : FTold K mg) (cLoops : FLoops K mg) (cLoopBeats : FLoopBeats K mg) (T : Bt mg) (TS : Bs mg) (E : Er mg) (kTM : Knd K E E.TM 5)
    (GAny : FnOk P w K mg base CX0 8 cAny.f cAny.fd ["_law_d"] (spAny K)) (GLaying : FnOk P w K mg base CX0 2 cLaying.f cLaying.fd pLaying (spLaying K)) (GLoops : FnOk P w K mg base (L2.CX P w) 5 cLoops.f cLoops.fd ["program"] (spLoops E.TM)) (GLoopBeats : FnOk P w K mg base (L2.CX P w) 6 cLoopBeats.f cLoopBeats.fd ["program","laying"] (spLoopBeats E.TM)) :
    FnOk P w K mg base CX0 9 fa (PySem.W.fnOf "law" "law" (defArgs sLaw) (defBody sLaw) (defScope sLaw) .none kV doc pm an (.ref cc) ct) ["_law_script"] (spLaw K Pt) := by
  have GDice : FnOk P w K mg base CX0 1 cDice.f cDice.fd ["_law_script"] (spDice K) := ok_dice cDice.F T
  have GNext : FnOk P w K mg base CX0 1 cNext.f cNext.fd ["_law_dice_here", "_law_many"] (spNext K) := ok_next cNext.F T
  obtain ⟨ft, fdt, FT, bTo, mTo⟩ := cTold
  have kpTo := FT.kp
  obtain ⟨ocT, odT, kVT, docT, pmT, anT, cdvT, ctT, oslT, rfl, lkTo, hcdTo⟩ := FT.ex
  refine fn_of lk hcd scLaw (fun vs H Q E h => ?_) (fun A outer s H vs Q E' hr h => ?_)
  · obtain ⟨sa, ns, rfl, _⟩ := h
    rfl
  · obtain ⟨sa, ns, rfl, hS, hlen, hPt, kq⟩ := h
    refine ⟨_, PSs.nox (pss_cons (ps_set (i := 1) scLaw.nd rfl (Or.inl rfl) (pe_call GDice (hr.mono (by first | omega | decide)) (by rfl) cDice.m cDice.F.kp cDice.b .nil pass0 (pa_cons (pv 0) pa_nil)))
      (pss_cons (ps_for PassesOwn.never rfl (pi_range1 rfl T.range (pa_cons pe_int pa_nil)) (pg_name (i := 2) scLaw.nd rfl (Or.inl rfl))
          (pss_cons (ps_set (i := 3) scLaw.nd rfl (Or.inr rfl) (pe_call GAny (hr.mono (by first | omega | decide)) (by rfl) cAny.m cAny.F.kp cAny.b .nil pass0 (pa_cons (pv 1) pa_nil)))
          (pss_cons (ps_asg (pe_call GLaying (hr.mono (by first | omega | decide)) (by rfl) cLaying.m cLaying.F.kp cLaying.b .nil pass0 (pa_cons (pv 1) (pa_cons (pv 3) (pa_cons pe_int pa_nil)))) (pg_tup rfl (pgs_cons (pg_name (i := 4) scLaw.nd rfl (Or.inr rfl)) (pgs_cons (pg_name (i := 5) scLaw.nd rfl (Or.inr rfl)) (pgs_cons (pg_name (i := 6) scLaw.nd rfl (Or.inr rfl)) pgs_nil)))))
          (pss_cons (ps_set (i := 7) scLaw.nd rfl (Or.inl rfl) (pe_lamcall (k := 6) (T := [(Pt, qL)]) (by rfl) mTo kpTo lkTo hcdTo bTo scTold rfl (Or.inl rfl) (told_ok E T) TB rfl (tab_mem (by rfl)) (tab_one (by rfl)) (hr.mono (by first | omega | decide)) (lamS_by (sc := defScope sLaw) (by decide +kernel)) rfl (fun _ _ _ _ _ => rfl) (fun A2 outer2 s2 H2 E2 f2 c2 hr2 => (pe_call GLoopBeats (hr2.mono (by first | omega | decide)) (by rfl) cLoopBeats.m cLoopBeats.F.kp cLoopBeats.b .nil (L2.passes_call (takes_of rfl rfl rfl rfl) (fun _ _ _ _ h => h)) (pa_cons (pv 3) (pa_cons (pe_tup (pa_cons (pv 4) (pa_cons (pv 5) (pa_cons (pv 6) pa_nil)))) pa_nil))))))
          (pss_one (ps_if (pt_cmpR (op_neD hr.units) (pv 7) (pe_tup (pa_cons pe_str pa_nil)) (nomark _))
              (pss_cons (ps_for PassesOwn.never rfl (pi_list (pv 7)) (pg_tup rfl (pgs_cons (pg_name (i := 8) scLaw.nd rfl (Or.inl rfl)) (pgs_cons (pg_name (i := 9) scLaw.nd rfl (Or.inl rfl)) (pgs_cons (pg_name (i := 10) scLaw.nd rfl (Or.inl rfl)) pgs_nil))))
                  (pss_one (ps_if (PW.pt (pw_or (pt_cmpR op_ne (pe_op op_mod (pv 9) (pv 4)) pe_int (nomark _)) (pw_or (pt_cmpR op_ne (pe_op op_mod (pv 10) (pv 4)) pe_int (nomark _)) (pw_or1 (pt_cmpR op_lt (pv 9) (pv 10) (nomark _))))))
                      (pss_one (ps_ret pe_bl))
                      pss_nil)))
              (pss_cons (ps_if (pt_cmpR (op_neD hr.units) (pe_lc (own := [("_law_row", 14)]) (g := gName 14) (tt := tYes) rfl scLaw.nd (pi_list (pv 7)) (blkOk_by (N := nLaw) (sc := defScope sLaw) (by decide +kernel)) (fun _ _ _ _ _ => (pg_name (i := 14) scLaw.nd rfl (Or.inl rfl))) (fun _ _ _ _ _ => pts_nil) (fun _ _ _ _ _ => (pe_ix (ix_tupK K rfl) (pv 14) pe_int (fun _ _ => rfl)))) (pe_call GLoops (hr.mono (by first | omega | decide)) (by rfl) cLoops.m cLoops.F.kp cLoops.b .nil passL (pa_cons (pv 3) pa_nil)) (nomark _))
                  (pss_one (ps_ret pe_bl))
                  pss_nil)
              (pss_cons (ps_set (i := 11) scLaw.nd rfl (Or.inr rfl) (pe_call GNext (hr.mono (by first | omega | decide)) (by rfl) cNext.m cNext.F.kp cNext.b .nil pass0 (pa_cons (pv 1) (pa_cons (pv 4) pa_nil))))
              (pss_cons (ps_set (i := 12) scLaw.nd rfl (Or.inl rfl) (pe_callTy call_tuple_of (by rfl) T.tuple (by decide +kernel) (pa_cons (pe_lc (own := [("_law_home", 16)]) (g := gName 16) (tt := tYes) rfl scLaw.nd (pi_tup (pv 6)) (blkOk_by (N := nLaw) (sc := defScope sLaw) (by decide +kernel)) (fun _ _ _ _ _ => (pg_name (i := 16) scLaw.nd rfl (Or.inl rfl))) (fun _ _ _ _ _ => pts_nil) (fun _ _ _ _ _ => (pe_callTy (call_tuple_ofK K rfl) (by rfl) T.tuple (by decide +kernel) (pa_cons (pe_callB (cr_sortedIK K rfl) (by rfl) T.sorted (by decide +kernel) (pa_cons (pe_lc (own := [("_law_place", 15)]) (g := gName 15) (tt := tYes) rfl scLaw.nd (pi_tupK K rfl (pv 16)) (blkRel (blkOk_by (N := nLaw) (sc := scTurn) (by decide +kernel))) (fun _ _ _ _ _ => (pg_name (i := 15) scLaw.nd rfl (Or.inl rfl))) (fun _ _ _ _ _ => pts_nil) (fun _ _ _ _ _ => (pe_op op_mod (pe_op op_add (pv 15) (pv 11)) (pv 4)))) pa_nil)) pa_nil)))) pa_nil)))
              (pss_cons (ps_set (i := 13) scLaw.nd rfl (Or.inl rfl) (pe_call GLoopBeats (hr.mono (by first | omega | decide)) (by rfl) cLoopBeats.m cLoopBeats.F.kp cLoopBeats.b .nil passL (pa_cons (pv 3) (pa_cons (pe_tup (pa_cons (pv 4) (pa_cons (pe_callTy call_tuple_of (by rfl) T.tuple (by decide +kernel) (pa_cons (pe_lc (own := [("_law_place", 15)]) (g := gName 15) (tt := tYes) rfl scLaw.nd (pi_tup (pv 5)) (blkOk_by (N := nLaw) (sc := defScope sLaw) (by decide +kernel)) (fun _ _ _ _ _ => (pg_name (i := 15) scLaw.nd rfl (Or.inl rfl))) (fun _ _ _ _ _ => pts_nil) (fun _ _ _ _ _ => (pe_op op_mod (pe_op op_add (pv 15) (pv 11)) (pv 4)))) pa_nil)) (pa_cons (pv 12) pa_nil)))) pa_nil))))
              (pss_one (ps_if (pt_cmpR (op_neD hr.units) (pv 13) (pv 7) (nomark _))
                  (pss_one (ps_ret pe_bl))
                  pss_nil)))))))
              pss_nil))))))
      (pss_one (ps_ret pe_bl)))), ?_⟩
    refine ⟨_, rfl, sa, ns, rfl, hS, hlen, fun d H1 s1 hd hE => ?_⟩
    have B1 : Dc K (noTb H1) H1 d sa ns := ⟨hE.noTb, fun x o _ g => (noTb_of g).1, hE.dice⟩
    have T1 : TabS H1 Pt qL := TabS.nil (s1 _ _ hPt)
    refine ⟨4, rfl, by decide, by decide, ?_⟩
    refine for_range (lo := 0) (n := (4 : Int).toNat) (fun i σ H' => ∃ (x2 x3 x4 x5 x6 x7 x8 x9 x10 x11 x12 x13 : Option V), σ = [some (.ref sa), some (.ref d), x2, x3, x4, x5, x6, x7, x8, x9, x10, x11, x12, x13, none, none, none] ∧ Dc K (noTb H1) H' d sa ns ∧ TabS H' Pt qL)
      ⟨none, none, none, none, none, none, none, none, none, none, none, none, rfl, B1, T1⟩ ?_ ?_
    · rintro i σ H2 hi ⟨x2, x3, x4, x5, x6, x7, x8, x9, x10, x11, x12, x13, rfl, B2, T2⟩
      refine ⟨_, rfl, d, sa, ns, rfl, B2.ent, fun pa p H3 C3 hP g => ?_⟩
      have B3 := B2.trans C3
      have T3 := tabS_dice T2 C3
      refine ⟨_, rfl, _, rfl, d, sa, ns, pa, p, 3, rfl, B3.ent, hP, g, by decide, by decide, fun ya y H4 C4 hY yk _ => ?_⟩
      have B4 := B3.trans C4
      have T4 := tabS_dice T3 C4
      obtain ⟨pl, hl, cs, hya, hpl, hhl, hH⟩ := hY
      have L4 : Tn K (noTb H1) H4 d sa Pt pa pl hl cs ns p y := ⟨B4, T4, hP.kp C4.kp, hpl, hhl, hH⟩
      have w2 := yk.w2
      have w24 := yk.w24
      refine ⟨ya, _, rfl, SqT.of hya, rfl, _, _, rfl, _, _, rfl, _, _, rfl, rfl, ?_⟩
      refine ⟨fun q hq => by rw [List.mem_singleton.mp hq]; exact L4.tab, fun H5 e5 T5 => ?_⟩
      have L5 := L4.ext e5 (T5 _ (List.mem_singleton.mpr rfl))
      refine ⟨_, rfl, _, rfl, _, rfl, _, rfl, (by show 3 ≤ sizeLine; decide), fun yt hyt => ?_⟩
      refine alloc hyt fun H6 s6 e6 => ?_
      have L6 := L5.same s6
      have hY6 : LayAt H6 yt y := ⟨pl, hl, cs, e6, L6.pls, L6.hms, L6.hat⟩
      refine ⟨pa, yt, p, y, rfl, L6.prog, g, hY6, yk, ?_⟩
      cases hL : loopsF p.rows with
      | none =>
        refine ⟨fun _ H7 s7 => ⟨E.TM, 5, kTM, rfl, rfl, fun t H8 s8 e8 => ?_⟩, fun L z => (by cases z)⟩
        refine ⟨_, rfl, (by show 1 ≤ sizeLine; decide), fun t2 ht2 => ?_⟩
        refine alloc ht2 fun H9 s9 e9 => ?_
        have L9 := ((L6.same s7).same s8).same s9
        refine ⟨.tuple [.str "many"], .tuple [.str "many"], .tup (SqT.of (s9 _ _ e8)) (.cons (.str _) .nil), .tup (SqT.of e9) (.cons (.str _) .nil), by decide +kernel, by decide +kernel, ?_⟩
        rw [show (!PyData.eqv (.tuple [.str "many"]) (.tuple [.str "many"])) = false by decide +kernel]
        refine ⟨_, rfl, iteF ?_⟩
        exact ⟨_, _, _, _, _, _, _, _, _, _, _, _, rfl, L9.ent, L9.tab⟩
      | some L =>
        refine ⟨(fun z => by cases z), fun L' hL' hLs hL100 fl fbs H7 s7 nfl e7 hTd => ?_⟩
        obtain rfl : L = L' := Option.some.inj hL'
        have L7 := L6.same s7
        refine ⟨_, rfl, (by show 1 ≤ sizeLine; decide), fun t2 ht2 => ?_⟩
        refine alloc ht2 fun H8 s8 e8 => ?_
        have L8 := L7.same s8
        have f8 := s8 _ _ e7
        have hT8 : ToldAt y p.rows H8 fbs L := hTd.kp (Kp.same s8)
        have hfl := Paired.length hT8
        refine ⟨tldsD y p.rows L, .tuple [.str "many"], .lst (SqL.of f8) (tldsD_at hT8), .tup (SqT.of e8) (.cons (.str _) .nil), tldsD_shaped _ _ _, by decide +kernel, ?_⟩
        rw [show PyData.eqv (tldsD y p.rows L) (.tuple [.str "many"]) = false from rfl]
        refine ⟨_, rfl, iteT ?_⟩
        refine ⟨_, rfl, fl, rfl, ⟨_, SqL.of f8⟩, for_list (K := K) (a := fl) (xs := fbs.map V.ref) (fun j σ H' => ∃ (z8 z9 z10 : Option V), σ = [some (.ref sa), some (.ref d), some (.int (0 + (i : Int))), some (.ref pa), some (nI y.wide), some (.ref pl), some (.ref hl), some (.ref fl), z8, z9, z10, x11, x12, x13, none, none, none] ∧ H' = H8)
          ⟨x8, x9, x10, rfl, rfl⟩ (fun j σ H' _ ⟨_, _, _, _, q⟩ => by rw [q]; exact SqL.of f8) ?_ ?_⟩
        · rintro j x σ H9 hj ⟨z8, z9, z10, rfl, rfl⟩
          have hjc : j < fbs.length := by
            have q := (List.getElem?_eq_some_iff.mp hj).1
            rwa [List.length_map] at q
          have ex : x = .ref fbs[j] := by
            rw [List.getElem?_map, List.getElem?_eq_getElem hjc] at hj
            exact (Option.some.inj hj).symm
          subst ex
          obtain ⟨sv, hq1, tt, hq2, hq3⟩ := Paired.get hT8 (List.getElem?_eq_getElem hjc)
          have hsv := hLs sv (List.mem_of_getElem? hq1)
          obtain ⟨k1, ek1⟩ := dvd_takes y p.rows hsv.ne
          obtain ⟨k2, ek2⟩ := dvd_round (leastF p.rows (wayF sv)) y.wide
          have le := few_le g yk hsv
          refine ⟨fbs[j], _, rfl, SqT.of hq2, rfl, _, _, rfl, _, _, rfl, _, _, rfl, rfl, ?_⟩
          dsimp only
          refine ⟨_, rfl, _, rfl, _, _, rfl, rfl, by omega, rfl, _, rfl, ?_⟩
          rw [show (!decide (V.int (takesF y p.rows sv % (y.wide : Int)) = V.int 0)) = false by rw [ek1, Int.mul_emod_right]; rfl]
          refine iteF ⟨_, rfl, _, rfl, _, _, rfl, rfl, by omega, rfl, _, rfl, ?_⟩
          rw [show (!decide (V.int (fewF y p.rows sv % (y.wide : Int)) = V.int 0)) = false by rw [show fewF y p.rows sv = (y.wide : Int) * k2 from ek2, Int.mul_emod_right]; rfl]
          refine iteF ⟨_, rfl, _, rfl, _, _, rfl, rfl, _, rfl, ?_⟩
          rw [show decide (takesF y p.rows sv < fewF y p.rows sv) = false from decide_eq_false (by omega)]
          exact iteF ⟨_, _, _, rfl, rfl⟩
        rintro σ H9 ⟨z8, z9, z10, rfl, rfl⟩
        refine ⟨_, rfl, fl, rfl, ⟨_, SqL.of f8⟩, fun D hD => ?_⟩
        refine lc_list (K := K) (a := fl) (xs := fbs.map V.ref) (fun j H' => ∃ ts : List Addr, Same1 H9 H' ∧ H' D = some (.lst (ts.map V.ref)) ∧ TupsN H' ts (L.take j)) ⟨[], Same.new hD, upd_same, .nil⟩ (fun j H' _ ⟨_, q, _⟩ => SqL.of (q _ _ f8)) ?_ ?_
        · rintro j x H10 hj ⟨ts, s10, hd10, hT10⟩
          have hjc : j < fbs.length := by
            have q := (List.getElem?_eq_some_iff.mp hj).1
            rwa [List.length_map] at q
          have ex : x = .ref fbs[j] := by
            rw [List.getElem?_map, List.getElem?_eq_getElem hjc] at hj
            exact (Option.some.inj hj).symm
          subst ex
          obtain ⟨sv, hq1, tt, hq2, hq3⟩ := Paired.get hT8 (List.getElem?_eq_getElem hjc)
          have htl := tups_len hT10
          rw [List.length_take] at htl
          refine ⟨rfl, _, rfl, fbs[j], _, _, _, rfl, rfl, SqT.of (s10 _ _ hq2), at0, _, hd10, szl (by rw [List.length_map]; omega), ts ++ [tt], Same.mut s10 hD, by rw [upd_same, List.map_append]; rfl, ?_⟩
          rw [List.take_add_one, hq1]
          exact TupsN.kp (Paired.app hT10 (Paired.one (s10 _ _ hq3))) (Kp.lst hd10)
        rintro H10 ⟨ts, s10, hd10, hT10⟩
        rw [List.length_map, hfl, List.take_length] at hT10
        have L10 := L8.same s10
        refine ⟨_, rfl, pa, p, rfl, L10.prog, g, (fun z => by rw [hL] at z; cases z), fun L' hL' _ _ ll lbs H11 s11 nll e11 hT11 => ?_⟩
        obtain rfl : L = L' := Option.some.inj (hL.symm.trans hL')
        refine ne_loops (s11 _ _ hd10) (TupsN.kp hT10 (Kp.same s11)) e11 hT11 ?_
        refine ⟨_, rfl, iteF ?_⟩
        have L11 := L10.same s11
        have f11 := (s10.trans s11) _ _ f8
        have hTd11 : ToldAt y p.rows H11 fbs L := hT8.kp (Kp.same (s10.trans s11))
        refine ⟨_, rfl, _, rfl, d, sa, ns, (y.wide : Int), rfl, L11.ent.ent, by omega, by omega, fun n H12 n0 n1 C12 => ?_⟩
        obtain ⟨m, rfl⟩ : ∃ m : Nat, n = (m : Int) := ⟨n.toNat, by omega⟩
        have L12 := L11.dice C12
        have f12 := C12.but _ _ (refs_ne_dice L11.ent.dice f11) f11
        have hTd12 : ToldAt y p.rows H12 fbs L := hTd11.kp C12.kp
        have hmod : ∀ x : Nat, V.int (((x : Int) + (m : Int)) % (y.wide : Int)) = V.int ((((x + m) % y.wide : Nat)) : Int) := fun x => by rw [Int.natCast_emod, Int.natCast_add]
        dsimp only [gName]
        refine ⟨_, rfl, hl, rfl, ⟨_, SqT.of L12.hms⟩, fun D2 hD2 => ?_⟩
        have hcl := Paired.length L12.hat
        have hh8 : y.homes.length ≤ 8 := by rw [yk.hl]; exact g.w8
        refine lc_tup (K := K) (a := hl) (xs := cs.map V.ref) (fun j H' => ∃ (us : List Addr) (hz : List (List Nat)), Same1 H12 H' ∧ H' D2 = some (.lst (us.map V.ref)) ∧ HomesAt H' us hz ∧ Paired (HomeTr y.wide m) (y.homes.take j) hz) ⟨[], [], Same.new hD2, upd_same, .nil, .nil⟩ (fun j H' _ ⟨_, _, q, _⟩ => SqT.of (q _ _ L12.hms)) ?_ ?_
        · rintro j x H13 hj ⟨us, hz, s13, hd13, hu13, hz13⟩
          have hjc : j < cs.length := by
            have q := (List.getElem?_eq_some_iff.mp hj).1
            rwa [List.length_map] at q
          have ex : x = .ref cs[j] := by
            rw [List.getElem?_map, List.getElem?_eq_getElem hjc] at hj
            exact (Option.some.inj hj).symm
          subst ex
          obtain ⟨h0, hq1, hq2⟩ := Paired.get L12.hat (List.getElem?_eq_getElem hjc)
          have hk0 := yk.hok h0 (List.mem_of_getElem? hq1)
          have l3 := hk0.l3
          have hul := Paired.length hu13
          have hzl := Paired.length hz13
          rw [List.length_take] at hzl
          have c13 := s13 _ _ hq2
          refine ⟨rfl, _, rfl, cs[j], rfl, ⟨_, SqT.of c13⟩, fun D3 hD3 => ?_⟩
          refine lc_tup (K := K) (a := cs[j]) (xs := h0.map nI) (fun q H' => Same1 H13 H' ∧ H' D3 = some (.lst (((h0.take q).map fun x : Nat => (((x + m) % y.wide : Nat) : Int)).map V.int))) ⟨Same.new hD3, upd_same⟩ (fun q H' _ ⟨z, _⟩ => SqT.of (z _ _ c13)) ?_ ?_
          · rintro q x H14 hq ⟨s14, hd14⟩
            rw [List.getElem?_map] at hq
            cases hz0 : h0[q]? with
            | none => rw [hz0] at hq; cases hq
            | some y0 =>
              rw [hz0] at hq
              have e : nI y0 = x := Option.some.inj hq
              subst e
              refine ⟨rfl, _, rfl, _, rfl, _, _, rfl, rfl, _, rfl, _, _, rfl, rfl, by omega, ?_⟩
              refine ⟨_, hd14, szl (by rw [List.length_map, List.length_map, List.length_take]; omega), Same.mut s14 hD3, ?_⟩
              rw [upd_same, show (fun i j : Int => V.int (i % j)) ((y0 : Int) + (m : Int)) (y.wide : Int) = V.int (((y0 + m) % y.wide : Nat) : Int) from hmod y0, List.take_add_one, hz0, List.map_append, List.map_append]
              rfl
          rintro H14 ⟨s14, hd14⟩
          rw [List.length_map, List.take_length] at hd14
          refine ⟨D3, _, rfl, SqL.of hd14, fun ms q3 pm up hq3 => ?_⟩
          refine alloc hq3 fun H15 s15 e15 => ?_
          refine ⟨q3, _, rfl, .inl ⟨SqL.of e15, fun t3 ht3 => ?_⟩⟩
          refine alloc ht3 fun H16 s16 e16 => ?_
          obtain ⟨h2, m1, m2, m3, m4⟩ := home_tr w2 hk0 pm up
          have s1316 : Same1 H13 H16 := (s14.trans s15).trans s16
          have hd16 := s1316 _ _ hd13
          refine ⟨_, hd16, szl (by rw [List.length_map]; omega), us ++ [t3], hz ++ [h2], Same.mut (s13.trans s1316) hD2, by rw [upd_same, List.map_append]; rfl, ?_, ?_⟩
          · exact HomesAt.kp (Paired.app (HomesAt.kp hu13 (Kp.same s1316)) (Paired.one (by rw [e16, m1]))) (Kp.lst hd16)
          · rw [List.take_add_one, hq1]
            exact Paired.app hz13 (Paired.one ⟨m2, m3, m4⟩)
        rintro H13 ⟨us, hz, s13, hd13, hu13, hz13⟩
        rw [List.length_map, hcl, List.take_length] at hz13
        refine ⟨D2, _, rfl, .inl ⟨SqL.of hd13, fun tz htz => ?_⟩⟩
        refine alloc htz fun H14 s14 e14 => ?_
        dsimp only [gName]
        have L14 := (L12.same s13).same s14
        have r40 := g.r40
        have ypl := yk.pl
        refine ⟨_, rfl, _, rfl, _, rfl, pl, rfl, ⟨_, SqT.of L14.pls⟩, fun D4 hD4 => ?_⟩
        refine lc_tup (K := K) (a := pl) (xs := y.places.map nI) (fun q H' => Same1 H14 H' ∧ H' D4 = some (.lst (((y.places.take q).map fun x : Nat => (x + m) % y.wide).map nI))) ⟨Same.new hD4, upd_same⟩ (fun q H' _ ⟨z, _⟩ => SqT.of (z _ _ L14.pls)) ?_ ?_
        · rintro q x H15 hq ⟨s15, hd15⟩
          rw [List.getElem?_map] at hq
          cases hz0 : y.places[q]? with
          | none => rw [hz0] at hq; cases hq
          | some y0 =>
            rw [hz0] at hq
            have e : nI y0 = x := Option.some.inj hq
            subst e
            refine ⟨rfl, _, rfl, _, rfl, _, _, rfl, rfl, _, rfl, _, _, rfl, rfl, by omega, ?_⟩
            refine ⟨_, hd15, szl (by rw [List.length_map, List.length_map, List.length_take]; omega), Same.mut s15 hD4, ?_⟩
            rw [upd_same, show (fun i j : Int => V.int (i % j)) ((y0 : Int) + (m : Int)) (y.wide : Int) = V.int (((y0 + m) % y.wide : Nat) : Int) from hmod y0, List.take_add_one, hz0, List.map_append, List.map_append]
            rfl
        rintro H15 ⟨s15, hd15⟩
        rw [List.length_map, List.take_length] at hd15
        refine ⟨D4, _, rfl, .inl ⟨SqL.of hd15, fun tp htp => ?_⟩⟩
        refine alloc htp fun H16 s16 e16 => ?_
        refine ⟨_, rfl, (by show 3 ≤ sizeLine; decide), fun zt hzt => ?_⟩
        refine alloc hzt fun H17 s17 e17 => ?_
        have s1417 : Same1 H14 H17 := (s15.trans s16).trans s17
        have L17 := L14.same s1417
        obtain ⟨zk, tr⟩ := turned_of (m := m) yk hz13
        refine ⟨pa, zt, p, ⟨y.wide, y.places.map fun x => (x + m) % y.wide, hz⟩, rfl, L17.prog, g, ⟨tp, tz, us, e17, s17 _ _ e16, s1417 _ _ e14, HomesAt.kp hu13 (Kp.same (s14.trans s1417))⟩, zk, (fun z => by rw [hL] at z; cases z), fun L' hL' _ _ gl gbs H18 s18 ng eg hTg => ?_⟩
        obtain rfl : L = L' := Option.some.inj (hL.symm.trans hL')
        have s1218 : Same1 H12 H18 := ((s13.trans s14).trans s1417).trans s18
        have L18 := L17.same s18
        refine ⟨_, rfl, _, rfl, ne_tlds eg (told_tr g yk tr hLs hTg) (s1218 _ _ f12) (hTd12.kp (Kp.same s1218)) ?_⟩
        refine ⟨_, rfl, iteF ?_⟩
        exact ⟨_, _, _, _, _, _, _, _, _, _, _, _, rfl, L18.ent, L18.tab⟩
    · rintro σ H2 ⟨x2, x3, x4, x5, x6, x7, x8, x9, x10, x11, x12, x13, rfl, B2, T2⟩
      exact kq _
end
end DL
namespace DL
open PySem L2 DLR
theorem tup_lit {K : Frg} {H : Hp} {t : Addr} {dd : Option Addr} {its : Array Value} {n : Nat} {sl : Array (Option Value)} {l : List Str} (h : K.lookup t = some ⟨.type "tuple", dd, .seq its n, sl⟩) (e : Vals (l.map V.str) its.toList) (hl : l.length ≤ 1000) : SqT K H t (l.map V.str) := by
  refine .inr ⟨_, its, n, h, rfl, rfl, ?_, e⟩
  have q : its.size = l.length := by
    have z := e.length
    rw [List.length_map] at z
    exact z.symm
  rw [q]
  exact sz (by omega)
theorem kit_cls' {K : Frg} {t : Value} {C : Addr} {b : Bool} (i : PySem.W.isClsIn K C = true) (ty : PySem.W.typeIn K (.ref C) = some (.type "type")) (s : PySem.W.subIn K t (.ref C) = some b) : PySem.W.kitCls K t (.ref C) = some b := by
  unfold PySem.W.kitCls
  have h : ((PySem.W.clsIn K C).isSome && PySem.W.typeIn K (.ref C) == some (.type "type")) = true := by
    rw [ty, show (PySem.W.clsIn K C).isSome = true from i]
    rfl
  dsimp only
  rw [if_pos h]
  exact s
theorem kit_no {K : Frg} {D C : Addr} {b : Bool} (n : (D == C) = false) (i : PySem.W.isClsIn K C = true) (ty : PySem.W.typeIn K (.ref C) = some (.type "type")) (s : PySem.W.subIn K (.ref D) (.ref C) = some b) : PySem.W.kitOne K (.ref D) (.ref C) = some b := by
  unfold PySem.W.kitOne
  have ne : ¬ (Value.ref D == Value.ref C) = true := fun z => by
    have e : Value.ref D = Value.ref C := by simpa using z
    injection e with e
    exact ne_of_beq_false n e
  rw [if_neg ne]
  exact kit_cls' i ty s
theorem kit_self {K : Frg} {D : Addr} : PySem.W.kitOne K (.ref D) (.ref D) = some true := by
  unfold PySem.W.kitOne
  rw [if_pos (by simp)]
theorem kit_type {K : Frg} {D : Addr} {T : String} {b : Bool} (m : PySem.W.kitMeta T = true) (s : PySem.W.subIn K (.ref D) (.type T) = some b) : PySem.W.kitOne K (.ref D) (.type T) = some b := by
  unfold PySem.W.kitOne
  have ne : ¬ (Value.ref D == Value.type T) = true := fun z => by
    have e : Value.ref D = Value.type T := by simpa using z
    cases e
  rw [if_neg ne]
  unfold PySem.W.kitCls
  dsimp only
  rw [if_pos m]
  exact s
theorem exm_sub {K : Frg} {D C : Addr} {b : Bool} (bb : PySem.W.subIn K (.ref C) (.type "BaseException") = some true) (i : PySem.W.isClsIn K C = true) (ty : PySem.W.typeIn K (.ref C) = some (.type "type")) (s : PySem.W.subIn K (.ref D) (.ref C) = some b) : PySem.W.exmOne K (.ref D) (.ref C) = some b := by
  unfold PySem.W.exmOne
  rw [bb, if_pos (by rfl)]
  exact kit_cls' i ty s
theorem all_mk {P : Program} {w : World} {K : PySem.W.Frag} {h : Heap} {mg : Str → Option Value} {fa : Addr} (X : K.In h) (G : h.Ns mainGlobals mg) (hfa : mg "law" = some (.ref fa))
    {af0 af1 af2 af3 af4 af5 af6 af7 af8 af9 af10 af11 af12 af13 af14 af15 af16 af17 af18 af19 af20 af21 af22 af23 af24 af25 af26 af27 af28 af29 af30 af31 af32 af33 af34 af35 af36 eBP eBL eBF eBG eBE eTM_ eOV eBT eDE cc tP d p_load p_add p_take p_store p_say p_test p_stop e : Addr} {odf0 anf0 odf1 anf1 odf2 anf2 odf3 anf3 odf4 anf4 odf5 anf5 odf6 anf6 odf7 anf7 odf8 anf8 odf9 anf9 odf10 anf10 odf11 anf11 odf12 anf12 odf13 anf13 odf14 anf14 odf15 anf15 odf16 anf16 odf17 anf17 odf18 anf18 odf19 anf19 odf20 anf20 odf21 anf21 odf22 anf22 odf23 anf23 odf24 anf24 odf25 anf25 odf26 anf26 odf27 anf27 odf28 anf28 odf29 anf29 odf30 anf30 odf31 anf31 odf32 anf32 odf33 anf33 odf34 anf34 odf35 anf35 odf36 anf36 ddc pd_load pd_add pd_take pd_store pd_say pd_test pd_stop : Option Addr} {slf0 slf1 slf2 slf3 slf4 slf5 slf6 slf7 slf8 slf9 slf10 slf11 slf12 slf13 slf14 slf15 slf16 slf17 slf18 slf19 slf20 slf21 slf22 slf23 slf24 slf25 slf26 slf27 slf28 slf29 slf30 slf31 slf32 slf33 slf34 slf35 slf36 slc ps_load ps_add ps_take ps_store ps_say ps_test ps_stop : Array (Option Value)} {its_load its_add its_take its_store its_say its_test its_stop : Array Value} {ocf0 kVf0 dcf0 pmf0 cdf0 ctf0 ocf1 kVf1 dcf1 pmf1 cdf1 ctf1 ocf2 kVf2 dcf2 pmf2 cdf2 ctf2 ocf3 kVf3 dcf3 pmf3 cdf3 ctf3 ocf4 kVf4 dcf4 pmf4 cdf4 ctf4 ocf5 kVf5 dcf5 pmf5 cdf5 ctf5 ocf6 kVf6 dcf6 pmf6 cdf6 ctf6 ocf7 kVf7 dcf7 pmf7 cdf7 ctf7 ocf8 kVf8 dcf8 pmf8 cdf8 ctf8 ocf9 kVf9 dcf9 pmf9 cdf9 ctf9 ocf10 kVf10 dcf10 pmf10 cdf10 ctf10 ocf11 kVf11 dcf11 pmf11 cdf11 ctf11 ocf12 kVf12 dcf12 pmf12 cdf12 ctf12 ocf13 kVf13 dcf13 pmf13 cdf13 ctf13 ocf14 kVf14 dcf14 pmf14 cdf14 ctf14 ocf15 kVf15 dcf15 pmf15 cdf15 ctf15 ocf16 kVf16 dcf16 pmf16 cdf16 ctf16 ocf17 kVf17 dcf17 pmf17 cdf17 ctf17 ocf18 kVf18 dcf18 pmf18 cdf18 ctf18 ocf19 kVf19 dcf19 pmf19 cdf19 ctf19 ocf20 kVf20 dcf20 pmf20 cdf20 ctf20 ocf21 kVf21 dcf21 pmf21 cdf21 ctf21 ocf22 kVf22 dcf22 pmf22 cdf22 ctf22 ocf23 kVf23 dcf23 pmf23 cdf23 ctf23 ocf24 kVf24 dcf24 pmf24 cdf24 ctf24 ocf25 kVf25 dcf25 pmf25 cdf25 ctf25 ocf26 kVf26 dcf26 pmf26 cdf26 ctf26 ocf27 kVf27 dcf27 pmf27 cdf27 ctf27 ocf28 kVf28 dcf28 pmf28 cdf28 ctf28 ocf29 kVf29 dcf29 pmf29 cdf29 ctf29 ocf30 kVf30 dcf30 pmf30 cdf30 ctf30 ocf31 kVf31 dcf31 pmf31 cdf31 ctf31 ocf32 kVf32 dcf32 pmf32 cdf32 ctf32 ocf33 kVf33 dcf33 pmf33 cdf33 ctf33 ocf34 kVf34 dcf34 pmf34 cdf34 ctf34 ocf35 kVf35 dcf35 pmf35 cdf35 ctf35 ocf36 kVf36 dcf36 pmf36 ctf36 : Value} {es es2 : Array DictEntry} {n pn_load pn_add pn_take pn_store pn_say pn_test pn_stop n2 : Nat} {tW tR tN t2 t24 t3 tG tS tx_load tx_add tx_take tx_store tx_say tx_test tx_stop : Tok} {vsc : Array Value} {file18 : Str} {tf18 tg7 tt10 : Tok} {fl7 tx10 : Int} {in9 : Bool}
    (nf0 : PySem.W.nsIn K mainGlobals "_law_next" = some (some (.ref af0)))
    (lf0 : K.lookup af0 = some ⟨ocf0, odf0, .func (PySem.W.fnOf "_law_next" "_law_next" (defArgs sNext) (defBody sNext) (defScope sNext) .none kVf0 dcf0 pmf0 anf0 cdf0 ctf0), slf0⟩)
    (cf0 : PySem.W.codeIn K cdf0 "_law_next" = true)
    (kf0 : PySem.W.keepIn K (.ref af0) = true)
    (nf1 : PySem.W.nsIn K mainGlobals "_law_straight" = some (some (.ref af1)))
    (lf1 : K.lookup af1 = some ⟨ocf1, odf1, .func (PySem.W.fnOf "_law_straight" "_law_straight" (defArgs sStraight) (defBody sStraight) (defScope sStraight) .none kVf1 dcf1 pmf1 anf1 cdf1 ctf1), slf1⟩)
    (cf1 : PySem.W.codeIn K cdf1 "_law_straight" = true)
    (kf1 : PySem.W.keepIn K (.ref af1) = true)
    (nf2 : PySem.W.nsIn K mainGlobals "_law_fork" = some (some (.ref af2)))
    (lf2 : K.lookup af2 = some ⟨ocf2, odf2, .func (PySem.W.fnOf "_law_fork" "_law_fork" (defArgs sFork) (defBody sFork) (defScope sFork) .none kVf2 dcf2 pmf2 anf2 cdf2 ctf2), slf2⟩)
    (cf2 : PySem.W.codeIn K cdf2 "_law_fork" = true)
    (kf2 : PySem.W.keepIn K (.ref af2) = true)
    (nf3 : PySem.W.nsIn K mainGlobals "_law_body" = some (some (.ref af3)))
    (lf3 : K.lookup af3 = some ⟨ocf3, odf3, .func (PySem.W.fnOf "_law_body" "_law_body" (defArgs sBody) (defBody sBody) (defScope sBody) .none kVf3 dcf3 pmf3 anf3 cdf3 ctf3), slf3⟩)
    (cf3 : PySem.W.codeIn K cdf3 "_law_body" = true)
    (kf3 : PySem.W.keepIn K (.ref af3) = true)
    (nf4 : PySem.W.nsIn K mainGlobals "_law_mixed" = some (some (.ref af4)))
    (lf4 : K.lookup af4 = some ⟨ocf4, odf4, .func (PySem.W.fnOf "_law_mixed" "_law_mixed" (defArgs sMixed) (defBody sMixed) (defScope sMixed) .none kVf4 dcf4 pmf4 anf4 cdf4 ctf4), slf4⟩)
    (cf4 : PySem.W.codeIn K cdf4 "_law_mixed" = true)
    (kf4 : PySem.W.keepIn K (.ref af4) = true)
    (nf5 : PySem.W.nsIn K mainGlobals "_law_stopping" = some (some (.ref af5)))
    (lf5 : K.lookup af5 = some ⟨ocf5, odf5, .func (PySem.W.fnOf "_law_stopping" "_law_stopping" (defArgs sStopping) (defBody sStopping) (defScope sStopping) .none kVf5 dcf5 pmf5 anf5 cdf5 ctf5), slf5⟩)
    (cf5 : PySem.W.codeIn K cdf5 "_law_stopping" = true)
    (kf5 : PySem.W.keepIn K (.ref af5) = true)
    (nf6 : PySem.W.nsIn K mainGlobals "_law_any" = some (some (.ref af6)))
    (lf6 : K.lookup af6 = some ⟨ocf6, odf6, .func (PySem.W.fnOf "_law_any" "_law_any" (defArgs sAny) (defBody sAny) (defScope sAny) .none kVf6 dcf6 pmf6 anf6 cdf6 ctf6), slf6⟩)
    (cf6 : PySem.W.codeIn K cdf6 "_law_any" = true)
    (kf6 : PySem.W.keepIn K (.ref af6) = true)
    (nf7 : PySem.W.nsIn K mainGlobals "is_number" = some (some (.ref af7)))
    (lf7 : K.lookup af7 = some ⟨ocf7, odf7, .func (PySem.W.fnOf "is_number" "is_number" (defArgs sIsNumber) (defBody sIsNumber) (defScope sIsNumber) .none kVf7 dcf7 pmf7 anf7 cdf7 ctf7), slf7⟩)
    (cf7 : PySem.W.codeIn K cdf7 "is_number" = true)
    (kf7 : PySem.W.keepIn K (.ref af7) = true)
    (nf8 : PySem.W.nsIn K mainGlobals "is_between" = some (some (.ref af8)))
    (lf8 : K.lookup af8 = some ⟨ocf8, odf8, .func (PySem.W.fnOf "is_between" "is_between" (defArgs sIsBetween) (defBody sIsBetween) (defScope sIsBetween) .none kVf8 dcf8 pmf8 anf8 cdf8 ctf8), slf8⟩)
    (cf8 : PySem.W.codeIn K cdf8 "is_between" = true)
    (kf8 : PySem.W.keepIn K (.ref af8) = true)
    (nf9 : PySem.W.nsIn K mainGlobals "part" = some (some (.ref af9)))
    (lf9 : K.lookup af9 = some ⟨ocf9, odf9, .func (PySem.W.fnOf "part" "part" (defArgs sPart) (defBody sPart) (defScope sPart) .none kVf9 dcf9 pmf9 anf9 cdf9 ctf9), slf9⟩)
    (cf9 : PySem.W.codeIn K cdf9 "part" = true)
    (kf9 : PySem.W.keepIn K (.ref af9) = true)
    (nf10 : PySem.W.nsIn K mainGlobals "check_worths" = some (some (.ref af10)))
    (lf10 : K.lookup af10 = some ⟨ocf10, odf10, .func (PySem.W.fnOf "check_worths" "check_worths" (defArgs sCheckWorths) (defBody sCheckWorths) (defScope sCheckWorths) .none kVf10 dcf10 pmf10 anf10 cdf10 ctf10), slf10⟩)
    (cf10 : PySem.W.codeIn K cdf10 "check_worths" = true)
    (kf10 : PySem.W.keepIn K (.ref af10) = true)
    (nf11 : PySem.W.nsIn K mainGlobals "has_shape" = some (some (.ref af11)))
    (lf11 : K.lookup af11 = some ⟨ocf11, odf11, .func (PySem.W.fnOf "has_shape" "has_shape" (defArgs sHasShape) (defBody sHasShape) (defScope sHasShape) .none kVf11 dcf11 pmf11 anf11 cdf11 ctf11), slf11⟩)
    (cf11 : PySem.W.codeIn K cdf11 "has_shape" = true)
    (kf11 : PySem.W.keepIn K (.ref af11) = true)
    (nf12 : PySem.W.nsIn K mainGlobals "check_row" = some (some (.ref af12)))
    (lf12 : K.lookup af12 = some ⟨ocf12, odf12, .func (PySem.W.fnOf "check_row" "check_row" (defArgs sCheckRow) (defBody sCheckRow) (defScope sCheckRow) .none kVf12 dcf12 pmf12 anf12 cdf12 ctf12), slf12⟩)
    (cf12 : PySem.W.codeIn K cdf12 "check_row" = true)
    (kf12 : PySem.W.keepIn K (.ref af12) = true)
    (nf13 : PySem.W.nsIn K mainGlobals "check_program" = some (some (.ref af13)))
    (lf13 : K.lookup af13 = some ⟨ocf13, odf13, .func (PySem.W.fnOf "check_program" "check_program" (defArgs sCheckProgram) (defBody sCheckProgram) (defScope sCheckProgram) .none kVf13 dcf13 pmf13 anf13 cdf13 ctf13), slf13⟩)
    (cf13 : PySem.W.codeIn K cdf13 "check_program" = true)
    (kf13 : PySem.W.keepIn K (.ref af13) = true)
    (nf14 : PySem.W.nsIn K mainGlobals "uses_worth" = some (some (.ref af14)))
    (lf14 : K.lookup af14 = some ⟨ocf14, odf14, .func (PySem.W.fnOf "uses_worth" "uses_worth" (defArgs sUsesWorth) (defBody sUsesWorth) (defScope sUsesWorth) .none kVf14 dcf14 pmf14 anf14 cdf14 ctf14), slf14⟩)
    (cf14 : PySem.W.codeIn K cdf14 "uses_worth" = true)
    (kf14 : PySem.W.keepIn K (.ref af14) = true)
    (nf15 : PySem.W.nsIn K mainGlobals "_law_laying" = some (some (.ref af15)))
    (lf15 : K.lookup af15 = some ⟨ocf15, odf15, .func (PySem.W.fnOf "_law_laying" "_law_laying" (defArgs sLaying) (defBody sLaying) (defScope sLaying) .none kVf15 dcf15 pmf15 anf15 cdf15 ctf15), slf15⟩)
    (cf15 : PySem.W.codeIn K cdf15 "_law_laying" = true)
    (kf15 : PySem.W.keepIn K (.ref af15) = true)
    (nf16 : PySem.W.nsIn K mainGlobals "check_wide" = some (some (.ref af16)))
    (lf16 : K.lookup af16 = some ⟨ocf16, odf16, .func (PySem.W.fnOf "check_wide" "check_wide" (defArgs sCheckWide) (defBody sCheckWide) (defScope sCheckWide) .none kVf16 dcf16 pmf16 anf16 cdf16 ctf16), slf16⟩)
    (cf16 : PySem.W.codeIn K cdf16 "check_wide" = true)
    (kf16 : PySem.W.keepIn K (.ref af16) = true)
    (nf17 : PySem.W.nsIn K mainGlobals "check_places" = some (some (.ref af17)))
    (lf17 : K.lookup af17 = some ⟨ocf17, odf17, .func (PySem.W.fnOf "check_places" "check_places" (defArgs sCheckPlaces) (defBody sCheckPlaces) (defScope sCheckPlaces) .none kVf17 dcf17 pmf17 anf17 cdf17 ctf17), slf17⟩)
    (cf17 : PySem.W.codeIn K cdf17 "check_places" = true)
    (kf17 : PySem.W.keepIn K (.ref af17) = true)
    (nf18 : PySem.W.nsIn K mainGlobals "check_homes" = some (some (.ref af18)))
    (lf18 : K.lookup af18 = some ⟨ocf18, odf18, .func (PySem.W.fnOf "check_homes" "check_homes" (defArgs sCheckHomes) (defBody sCheckHomes) (defScope sCheckHomes) .none kVf18 dcf18 pmf18 anf18 cdf18 ctf18), slf18⟩)
    (cf18 : PySem.W.codeIn K cdf18 "check_homes" = true)
    (kf18 : PySem.W.keepIn K (.ref af18) = true)
    (nf19 : PySem.W.nsIn K mainGlobals "are_homes" = some (some (.ref af19)))
    (lf19 : K.lookup af19 = some ⟨ocf19, odf19, .func (PySem.W.fnOf "are_homes" "are_homes" (defArgs sAreHomes) (defBody sAreHomes) (defScope sAreHomes) .none kVf19 dcf19 pmf19 anf19 cdf19 ctf19), slf19⟩)
    (cf19 : PySem.W.codeIn K cdf19 "are_homes" = true)
    (kf19 : PySem.W.keepIn K (.ref af19) = true)
    (nf20 : PySem.W.nsIn K mainGlobals "check_laying" = some (some (.ref af20)))
    (lf20 : K.lookup af20 = some ⟨ocf20, odf20, .func (PySem.W.fnOf "check_laying" "check_laying" (defArgs sCheckLaying) (defBody sCheckLaying) (defScope sCheckLaying) .none kVf20 dcf20 pmf20 anf20 cdf20 ctf20), slf20⟩)
    (cf20 : PySem.W.codeIn K cdf20 "check_laying" = true)
    (kf20 : PySem.W.keepIn K (.ref af20) = true)
    (nf21 : PySem.W.nsIn K mainGlobals "nexts" = some (some (.ref af21)))
    (lf21 : K.lookup af21 = some ⟨ocf21, odf21, .func (PySem.W.fnOf "nexts" "nexts" (defArgs sNexts) (defBody sNexts) (defScope sNexts) .none kVf21 dcf21 pmf21 anf21 cdf21 ctf21), slf21⟩)
    (cf21 : PySem.W.codeIn K cdf21 "nexts" = true)
    (kf21 : PySem.W.keepIn K (.ref af21) = true)
    (nf22 : PySem.W.nsIn K mainGlobals "rows_ahead" = some (some (.ref af22)))
    (lf22 : K.lookup af22 = some ⟨ocf22, odf22, .func (PySem.W.fnOf "rows_ahead" "rows_ahead" (defArgs sAhead) (defBody sAhead) (defScope sAhead) .none kVf22 dcf22 pmf22 anf22 cdf22 ctf22), slf22⟩)
    (cf22 : PySem.W.codeIn K cdf22 "rows_ahead" = true)
    (kf22 : PySem.W.keepIn K (.ref af22) = true)
    (nf23 : PySem.W.nsIn K mainGlobals "first_beat" = some (some (.ref af23)))
    (lf23 : K.lookup af23 = some ⟨ocf23, odf23, .func (PySem.W.fnOf "first_beat" "first_beat" (defArgs sFirstBeat) (defBody sFirstBeat) (defScope sFirstBeat) .none kVf23 dcf23 pmf23 anf23 cdf23 ctf23), slf23⟩)
    (cf23 : PySem.W.codeIn K cdf23 "first_beat" = true)
    (kf23 : PySem.W.keepIn K (.ref af23) = true)
    (nf24 : PySem.W.nsIn K mainGlobals "beats_of_use" = some (some (.ref af24)))
    (lf24 : K.lookup af24 = some ⟨ocf24, odf24, .func (PySem.W.fnOf "beats_of_use" "beats_of_use" (defArgs sBeatsOfUse) (defBody sBeatsOfUse) (defScope sBeatsOfUse) .none kVf24 dcf24 pmf24 anf24 cdf24 ctf24), slf24⟩)
    (cf24 : PySem.W.codeIn K cdf24 "beats_of_use" = true)
    (kf24 : PySem.W.keepIn K (.ref af24) = true)
    (nf25 : PySem.W.nsIn K mainGlobals "beat_of_use" = some (some (.ref af25)))
    (lf25 : K.lookup af25 = some ⟨ocf25, odf25, .func (PySem.W.fnOf "beat_of_use" "beat_of_use" (defArgs sBeatOfUse) (defBody sBeatOfUse) (defScope sBeatOfUse) .none kVf25 dcf25 pmf25 anf25 cdf25 ctf25), slf25⟩)
    (cf25 : PySem.W.codeIn K cdf25 "beat_of_use" = true)
    (kf25 : PySem.W.keepIn K (.ref af25) = true)
    (nf26 : PySem.W.nsIn K mainGlobals "beat_behind" = some (some (.ref af26)))
    (lf26 : K.lookup af26 = some ⟨ocf26, odf26, .func (PySem.W.fnOf "beat_behind" "beat_behind" (defArgs sBeatBehind) (defBody sBeatBehind) (defScope sBeatBehind) .none kVf26 dcf26 pmf26 anf26 cdf26 ctf26), slf26⟩)
    (cf26 : PySem.W.codeIn K cdf26 "beat_behind" = true)
    (kf26 : PySem.W.keepIn K (.ref af26) = true)
    (nf27 : PySem.W.nsIn K mainGlobals "cost" = some (some (.ref af27)))
    (lf27 : K.lookup af27 = some ⟨ocf27, odf27, .func (PySem.W.fnOf "cost" "cost" (defArgs sCost) (defBody sCost) (defScope sCost) .none kVf27 dcf27 pmf27 anf27 cdf27 ctf27), slf27⟩)
    (cf27 : PySem.W.codeIn K cdf27 "cost" = true)
    (kf27 : PySem.W.keepIn K (.ref af27) = true)
    (nf28 : PySem.W.nsIn K mainGlobals "loops" = some (some (.ref af28)))
    (lf28 : K.lookup af28 = some ⟨ocf28, odf28, .func (PySem.W.fnOf "loops" "loops" (defArgs sLoops) (defBody sLoops) (defScope sLoops) .none kVf28 dcf28 pmf28 anf28 cdf28 ctf28), slf28⟩)
    (cf28 : PySem.W.codeIn K cdf28 "loops" = true)
    (kf28 : PySem.W.keepIn K (.ref af28) = true)
    (nf29 : PySem.W.nsIn K mainGlobals "halves" = some (some (.ref af29)))
    (lf29 : K.lookup af29 = some ⟨ocf29, odf29, .func (PySem.W.fnOf "halves" "halves" (defArgs sHalves) (defBody sHalves) (defScope sHalves) .none kVf29 dcf29 pmf29 anf29 cdf29 ctf29), slf29⟩)
    (cf29 : PySem.W.codeIn K cdf29 "halves" = true)
    (kf29 : PySem.W.keepIn K (.ref af29) = true)
    (nf30 : PySem.W.nsIn K mainGlobals "least_half" = some (some (.ref af30)))
    (lf30 : K.lookup af30 = some ⟨ocf30, odf30, .func (PySem.W.fnOf "least_half" "least_half" (defArgs sLeastHalf) (defBody sLeastHalf) (defScope sLeastHalf) .none kVf30 dcf30 pmf30 anf30 cdf30 ctf30), slf30⟩)
    (cf30 : PySem.W.codeIn K cdf30 "least_half" = true)
    (kf30 : PySem.W.keepIn K (.ref af30) = true)
    (nf31 : PySem.W.nsIn K mainGlobals "least_beats" = some (some (.ref af31)))
    (lf31 : K.lookup af31 = some ⟨ocf31, odf31, .func (PySem.W.fnOf "least_beats" "least_beats" (defArgs sLeastBeats) (defBody sLeastBeats) (defScope sLeastBeats) .none kVf31 dcf31 pmf31 anf31 cdf31 ctf31), slf31⟩)
    (cf31 : PySem.W.codeIn K cdf31 "least_beats" = true)
    (kf31 : PySem.W.keepIn K (.ref af31) = true)
    (nf32 : PySem.W.nsIn K mainGlobals "in_rounds" = some (some (.ref af32)))
    (lf32 : K.lookup af32 = some ⟨ocf32, odf32, .func (PySem.W.fnOf "in_rounds" "in_rounds" (defArgs sInRounds) (defBody sInRounds) (defScope sInRounds) .none kVf32 dcf32 pmf32 anf32 cdf32 ctf32), slf32⟩)
    (cf32 : PySem.W.codeIn K cdf32 "in_rounds" = true)
    (kf32 : PySem.W.keepIn K (.ref af32) = true)
    (nf33 : PySem.W.nsIn K mainGlobals "loop_beats" = some (some (.ref af33)))
    (lf33 : K.lookup af33 = some ⟨ocf33, odf33, .func (PySem.W.fnOf "loop_beats" "loop_beats" (defArgs sLoopBeats) (defBody sLoopBeats) (defScope sLoopBeats) .none kVf33 dcf33 pmf33 anf33 cdf33 ctf33), slf33⟩)
    (cf33 : PySem.W.codeIn K cdf33 "loop_beats" = true)
    (kf33 : PySem.W.keepIn K (.ref af33) = true)
    (nf34 : PySem.W.nsIn K mainGlobals "_law_dice" = some (some (.ref af34)))
    (lf34 : K.lookup af34 = some ⟨ocf34, odf34, .func (PySem.W.fnOf "_law_dice" "_law_dice" (defArgs sDice) (defBody sDice) (defScope sDice) .none kVf34 dcf34 pmf34 anf34 cdf34 ctf34), slf34⟩)
    (cf34 : PySem.W.codeIn K cdf34 "_law_dice" = true)
    (kf34 : PySem.W.keepIn K (.ref af34) = true)
    (nf35 : PySem.W.nsIn K mainGlobals "_law_told" = some (some (.ref af35)))
    (lf35 : K.lookup af35 = some ⟨ocf35, odf35, .func (PySem.W.fnOf "_law_told" "_law_told" (defArgs sTold) (defBody sTold) (defScope sTold) .none kVf35 dcf35 pmf35 anf35 cdf35 ctf35), slf35⟩)
    (cf35 : PySem.W.codeIn K cdf35 "_law_told" = true)
    (kf35 : PySem.W.keepIn K (.ref af35) = true)
    (nf36 : PySem.W.nsIn K mainGlobals "law" = some (some (.ref af36)))
    (lf36 : K.lookup af36 = some ⟨ocf36, odf36, .func (PySem.W.fnOf "law" "law" (defArgs sLaw) (defBody sLaw) (defScope sLaw) .none kVf36 dcf36 pmf36 anf36 (.ref cc) ctf36), slf36⟩)
    (cf36 : PySem.W.codeIn K (.ref cc) "law" = true)
    (kf36 : PySem.W.keepIn K (.ref af36) = true)
    (mBP : PySem.W.nsIn K mainGlobals "BadProgram" = some (some (.ref eBP)))
    (mBL : PySem.W.nsIn K mainGlobals "BadLaying" = some (some (.ref eBL)))
    (mBF : PySem.W.nsIn K mainGlobals "BadFuel" = some (some (.ref eBF)))
    (mBG : PySem.W.nsIn K mainGlobals "BadGoes" = some (some (.ref eBG)))
    (mBE : PySem.W.nsIn K mainGlobals "BadPaper" = some (some (.ref eBE)))
    (mTM_ : PySem.W.nsIn K mainGlobals "TooMany" = some (some (.ref eTM_)))
    (mOV : PySem.W.nsIn K mainGlobals "Over" = some (some (.ref eOV)))
    (mBT : PySem.W.nsIn K mainGlobals "BadText" = some (some (.ref eBT)))
    (mDE : PySem.W.nsIn K mainGlobals "DrumError" = some (some (.ref eDE)))
    (b_ValueError : PySem.W.nsIn K mainGlobals "ValueError" = some none)
    (iBP : PySem.W.isClsIn K eBP = true)
    (tBP : PySem.W.typeIn K (.ref eBP) = some (.type "type"))
    (iBL : PySem.W.isClsIn K eBL = true)
    (tBL : PySem.W.typeIn K (.ref eBL) = some (.type "type"))
    (iBF : PySem.W.isClsIn K eBF = true)
    (tBF : PySem.W.typeIn K (.ref eBF) = some (.type "type"))
    (iBG : PySem.W.isClsIn K eBG = true)
    (tBG : PySem.W.typeIn K (.ref eBG) = some (.type "type"))
    (iBE : PySem.W.isClsIn K eBE = true)
    (tBE : PySem.W.typeIn K (.ref eBE) = some (.type "type"))
    (iTM_ : PySem.W.isClsIn K eTM_ = true)
    (tTM_ : PySem.W.typeIn K (.ref eTM_) = some (.type "type"))
    (iOV : PySem.W.isClsIn K eOV = true)
    (tOV : PySem.W.typeIn K (.ref eOV) = some (.type "type"))
    (iBT : PySem.W.isClsIn K eBT = true)
    (tBT : PySem.W.typeIn K (.ref eBT) = some (.type "type"))
    (iDE : PySem.W.isClsIn K eDE = true)
    (tDE : PySem.W.typeIn K (.ref eDE) = some (.type "type"))
    (bDE : PySem.W.subIn K (.ref eDE) (.type "BaseException") = some true)
    (TM__hg : PySem.W.findIn K (.ref eTM_) "__getattribute__" = some (some (.builtin "BaseException.__getattribute__")))
    (TM__hk : PySem.W.findIn K (.ref eTM_) "__getattr__" = some none)
    (TM__hs : PySem.W.subIn K (.ref eTM_) (.type "BaseException") = some true)
    (TM__hd : PySem.W.hasDictIn K eTM_ = true)
    (TM__ha : PySem.W.findIn K (.ref eTM_) "__class__" = some (some (.builtin "object.__class__")))
    (TM__hn : PySem.W.specialIn K (.builtin "object.__class__") "__get__" = some (some (.builtin "getset_descriptor.__get__")))
    (TM__ht : PySem.W.takesIn K (.builtin "object.__class__") = some true)
    (TM__hm : PySem.W.mroIn K eTM_ (.type "object") = some true)
    (TM__sDE : PySem.W.subIn K (.ref eTM_) (.ref eDE) = some true)
    (TM__sVE : PySem.W.subIn K (.ref eTM_) (.type "ValueError") = some true)
    (TM__s0 : PySem.W.subIn K (.ref eTM_) (.ref eBP) = some false)
    (TM__s1 : PySem.W.subIn K (.ref eTM_) (.ref eBL) = some false)
    (TM__s2 : PySem.W.subIn K (.ref eTM_) (.ref eBF) = some false)
    (TM__s3 : PySem.W.subIn K (.ref eTM_) (.ref eBG) = some false)
    (TM__s4 : PySem.W.subIn K (.ref eTM_) (.ref eBE) = some false)
    (TM__s6 : PySem.W.subIn K (.ref eTM_) (.ref eOV) = some false)
    (TM__s7 : PySem.W.subIn K (.ref eTM_) (.ref eBT) = some false)
    (TM__n0 : (eTM_ == eBP) = false)
    (TM__n1 : (eTM_ == eBL) = false)
    (TM__n2 : (eTM_ == eBF) = false)
    (TM__n3 : (eTM_ == eBG) = false)
    (TM__n4 : (eTM_ == eBE) = false)
    (TM__n6 : (eTM_ == eOV) = false)
    (TM__n7 : (eTM_ == eBT) = false)
    (TM__rx : PySem.W.excIn K eTM_ [.type "ValueError", .type "Exception", .type "BaseException", .type "object"] "ValueError.__new__" = true)
    (TM__rk : PySem.W.keepIn K (.ref eTM_) = true)
    (TM__rt : PySem.W.typeIn K (.ref eTM_) = some (.type "type"))
    (cK : K.lookup cc = some ⟨.type "code", ddc, .fields vsc, slc⟩)
    (c11 : vsc[11]? = some (.ref tP))
    (g11 : vsc.getD 11 .none = .ref tP)
    (g18 : vsc.getD 18 .none = .str file18 tf18)
    (g7 : vsc.getD 7 .none = .int fl7 tg7)
    (g9 : vsc.getD 9 .none = .bool in9)
    (g10 : vsc.getD 10 .none = .int tx10 tt10)
    (cP : (cc == tP) = false)
    (nP : K.lookup tP = none)
    (b_len : PySem.W.nsIn K mainGlobals "len" = some none)
    (b_int : PySem.W.nsIn K mainGlobals "int" = some none)
    (b_range : PySem.W.nsIn K mainGlobals "range" = some none)
    (b_isinstance : PySem.W.nsIn K mainGlobals "isinstance" = some none)
    (b_tuple : PySem.W.nsIn K mainGlobals "tuple" = some none)
    (b_list : PySem.W.nsIn K mainGlobals "list" = some none)
    (b_sorted : PySem.W.nsIn K mainGlobals "sorted" = some none)
    (b_sum : PySem.W.nsIn K mainGlobals "sum" = some none)
    (b_max : PySem.W.nsIn K mainGlobals "max" = some none)
    (b_enumerate : PySem.W.nsIn K mainGlobals "enumerate" = some none)
    (b_zip : PySem.W.nsIn K mainGlobals "zip" = some none)
    (b_all : PySem.W.nsIn K mainGlobals "all" = some none)
    (b_bool : PySem.W.nsIn K mainGlobals "bool" = some none)
    (b_str : PySem.W.nsIn K mainGlobals "str" = some none)
    (b_set : PySem.W.nsIn K mainGlobals "set" = some none)
    (qW : PySem.W.nsIn K mainGlobals "MOST_WORTHS" = some (some (.int 8 tW)))
    (qR : PySem.W.nsIn K mainGlobals "MOST_ROWS" = some (some (.int 40 tR)))
    (qN : PySem.W.nsIn K mainGlobals "MOST_NUMBER" = some (some (.int 1000000 tN)))
    (q2 : PySem.W.nsIn K mainGlobals "LEAST_WIDE" = some (some (.int 2 t2)))
    (q24 : PySem.W.nsIn K mainGlobals "MOST_WIDE" = some (some (.int 24 t24)))
    (q3 : PySem.W.nsIn K mainGlobals "MOST_HOMES" = some (some (.int 3 t3)))
    (qG : PySem.W.nsIn K mainGlobals "MOST_LOOPS" = some (some (.int 100 tG)))
    (qS : PySem.W.nsIn K mainGlobals "MOST_STRETCHES" = some (some (.int 3000 tS)))
    (pD : PySem.W.nsIn K mainGlobals "PARTS" = some (some (.ref d)))
    (pL : K.lookup d = some ⟨.type "dict", none, .dict es n, #[]⟩)
    (pK : PySem.W.KeysLit w.params es.toList)
    (w_load : PySem.W.nsIn K d "load" = some (some (.ref p_load)))
    (u_load : K.lookup p_load = some ⟨.type "tuple", pd_load, .seq its_load pn_load, ps_load⟩)
    (v_load : Vals ((["worth", "next"] : List Str).map V.str) its_load.toList)
    (w_add : PySem.W.nsIn K d "add" = some (some (.ref p_add)))
    (u_add : K.lookup p_add = some ⟨.type "tuple", pd_add, .seq its_add pn_add, ps_add⟩)
    (v_add : Vals ((["worth", "next"] : List Str).map V.str) its_add.toList)
    (w_take : PySem.W.nsIn K d "take" = some (some (.ref p_take)))
    (u_take : K.lookup p_take = some ⟨.type "tuple", pd_take, .seq its_take pn_take, ps_take⟩)
    (v_take : Vals ((["worth", "next"] : List Str).map V.str) its_take.toList)
    (w_store : PySem.W.nsIn K d "store" = some (some (.ref p_store)))
    (u_store : K.lookup p_store = some ⟨.type "tuple", pd_store, .seq its_store pn_store, ps_store⟩)
    (v_store : Vals ((["worth", "next"] : List Str).map V.str) its_store.toList)
    (w_say : PySem.W.nsIn K d "say" = some (some (.ref p_say)))
    (u_say : K.lookup p_say = some ⟨.type "tuple", pd_say, .seq its_say pn_say, ps_say⟩)
    (v_say : Vals ((["next"] : List Str).map V.str) its_say.toList)
    (w_test : PySem.W.nsIn K d "test" = some (some (.ref p_test)))
    (u_test : K.lookup p_test = some ⟨.type "tuple", pd_test, .seq its_test pn_test, ps_test⟩)
    (v_test : Vals ((["next", "next"] : List Str).map V.str) its_test.toList)
    (w_stop : PySem.W.nsIn K d "stop" = some (some (.ref p_stop)))
    (u_stop : K.lookup p_stop = some ⟨.type "tuple", pd_stop, .seq its_stop pn_stop, ps_stop⟩)
    (v_stop : Vals (([] : List Str).map V.str) its_stop.toList)
    (lo : (d == sysModules) = false)
    (pW : PySem.W.nsIn K mainGlobals "WORK" = some (some (.ref e)))
    (pWL : K.lookup e = some ⟨.type "dict", none, .dict es2 n2, #[]⟩)
    (pWK : PySem.W.KeysLit w.params es2.toList)
    (x_load : PySem.W.nsIn K e "load" = some (some (.int 1 tx_load)))
    (x_add : PySem.W.nsIn K e "add" = some (some (.int 2 tx_add)))
    (x_take : PySem.W.nsIn K e "take" = some (some (.int 2 tx_take)))
    (x_store : PySem.W.nsIn K e "store" = some (some (.int 1 tx_store)))
    (x_say : PySem.W.nsIn K e "say" = some (some (.int 3 tx_say)))
    (x_test : PySem.W.nsIn K e "test" = some (some (.int 1 tx_test)))
    (x_stop : PySem.W.nsIn K e "stop" = some (some (.int 0 tx_stop)))
    (lo2 : (e == sysModules) = false)
    (own : LamX.OwnTab K fa h) :
    ∃ (fd : FuncData) (cs : List (Addr × Addr)) (sp : Sp), (∀ p ∈ cs, h.get? p.2 = some { cls := .none, data := .fields #[] }) ∧ (∀ p ∈ cs, K.lookup p.2 = none) ∧ (∀ p ∈ cs, PySem.W.CodeHd h p.1 p.2) ∧ (∀ (s : Shared) (u : Value), BindsTo s fd ⟨[u], []⟩ [("_law_script", u)]) ∧
    (∀ (H : Hp) (a : Addr) (ns : List Int), ns.length ≤ 63 → (∀ z ∈ ns, Builtin.Int.intBits z ≤ 1048576) → (∀ p ∈ cs, H p.2 = some (.tbl #[])) → SqL K H a (ns.map V.int) → sp [.ref a] H (fun v _ => v = .bl true) fun _ _ _ => False) ∧
    ∀ base : Heap, K.In base → base.Ns mainGlobals mg → (∀ p ∈ cs, LamX.TabB base mg p.1 p.2) → FnOk P w K mg base CX0 9 fa fd ["_law_script"] sp := by
  have e := hfa.symm.trans (PySem.W.mg_of X G nf36)
  cases e
  have Ff0 := fun_mk (st := sNext) lf0 cf0 kf0
  have bf0 := Ff0.binds (ps := ["_law_dice_here", "_law_many"]) fun _ _ _ _ _ _ us hl => match us, hl with | [_, _], _ => rfl
  let cNext : Fd K mg "_law_next" sNext ["_law_dice_here", "_law_many"] := ⟨_, _, Ff0, bf0, PySem.W.mg_of X G nf0⟩
  have Ff1 := fun_mk (st := sStraight) lf1 cf1 kf1
  have bf1 := Ff1.binds (ps := ["_law_d", "_law_at"]) fun _ _ _ _ _ _ us hl => match us, hl with | [_, _], _ => rfl
  let cStraight : Fd K mg "_law_straight" sStraight ["_law_d", "_law_at"] := ⟨_, _, Ff1, bf1, PySem.W.mg_of X G nf1⟩
  have Ff2 := fun_mk (st := sFork) lf2 cf2 kf2
  have bf2 := Ff2.binds (ps := ["_law_d", "_law_at"]) fun _ _ _ _ _ _ us hl => match us, hl with | [_, _], _ => rfl
  let cFork : Fd K mg "_law_fork" sFork ["_law_d", "_law_at"] := ⟨_, _, Ff2, bf2, PySem.W.mg_of X G nf2⟩
  have Ff3 := fun_mk (st := sBody) lf3 cf3 kf3
  have bf3 := Ff3.binds (ps := ["_law_d", "_law_at", "_law_deep"]) fun _ _ _ _ _ _ us hl => match us, hl with | [_, _, _], _ => rfl
  let cBody : Fd K mg "_law_body" sBody ["_law_d", "_law_at", "_law_deep"] := ⟨_, _, Ff3, bf3, PySem.W.mg_of X G nf3⟩
  have Ff4 := fun_mk (st := sMixed) lf4 cf4 kf4
  have bf4 := Ff4.binds (ps := ["_law_d", "_law_program"]) fun _ _ _ _ _ _ us hl => match us, hl with | [_, _], _ => rfl
  let cMixed : Fd K mg "_law_mixed" sMixed ["_law_d", "_law_program"] := ⟨_, _, Ff4, bf4, PySem.W.mg_of X G nf4⟩
  have Ff5 := fun_mk (st := sStopping) lf5 cf5 kf5
  have bf5 := Ff5.binds (ps := ["_law_d", "_law_deep"]) fun _ _ _ _ _ _ us hl => match us, hl with | [_, _], _ => rfl
  let cStopping : Fd K mg "_law_stopping" sStopping ["_law_d", "_law_deep"] := ⟨_, _, Ff5, bf5, PySem.W.mg_of X G nf5⟩
  have Ff6 := fun_mk (st := sAny) lf6 cf6 kf6
  have bf6 := Ff6.binds (ps := ["_law_d"]) fun _ _ _ _ _ _ us hl => match us, hl with | [_], _ => rfl
  let cAny : Fd K mg "_law_any" sAny ["_law_d"] := ⟨_, _, Ff6, bf6, PySem.W.mg_of X G nf6⟩
  have Ff7 := fun_mk (st := sIsNumber) lf7 cf7 kf7
  have bf7 := Ff7.binds (ps := ["thing"]) fun _ _ _ _ _ _ us hl => match us, hl with | [_], _ => rfl
  let cIsNumber : Fd K mg "is_number" sIsNumber ["thing"] := ⟨_, _, Ff7, bf7, PySem.W.mg_of X G nf7⟩
  have Ff8 := fun_mk (st := sIsBetween) lf8 cf8 kf8
  have bf8 := Ff8.binds (ps := ["thing", "low", "high"]) fun _ _ _ _ _ _ us hl => match us, hl with | [_, _, _], _ => rfl
  let cIsBetween : Fd K mg "is_between" sIsBetween ["thing", "low", "high"] := ⟨_, _, Ff8, bf8, PySem.W.mg_of X G nf8⟩
  have Ff9 := fun_mk (st := sPart) lf9 cf9 kf9
  have bf9 := Ff9.binds (ps := ["whole", "at"]) fun _ _ _ _ _ _ us hl => match us, hl with | [_, _], _ => rfl
  let cPart : Fd K mg "part" sPart ["whole", "at"] := ⟨_, _, Ff9, bf9, PySem.W.mg_of X G nf9⟩
  have Ff10 := fun_mk (st := sCheckWorths) lf10 cf10 kf10
  have bf10 := Ff10.binds (ps := ["worths"]) fun _ _ _ _ _ _ us hl => match us, hl with | [_], _ => rfl
  let cCheckWorths : Fd K mg "check_worths" sCheckWorths ["worths"] := ⟨_, _, Ff10, bf10, PySem.W.mg_of X G nf10⟩
  have Ff11 := fun_mk (st := sHasShape) lf11 cf11 kf11
  have bf11 := Ff11.binds (ps := ["row"]) fun _ _ _ _ _ _ us hl => match us, hl with | [_], _ => rfl
  let cHasShape : Fd K mg "has_shape" sHasShape ["row"] := ⟨_, _, Ff11, bf11, PySem.W.mg_of X G nf11⟩
  have Ff12 := fun_mk (st := sCheckRow) lf12 cf12 kf12
  have bf12 := Ff12.binds (ps := ["row", "number", "counts"]) fun _ _ _ _ _ _ us hl => match us, hl with | [_, _, _], _ => rfl
  let cCheckRow : Fd K mg "check_row" sCheckRow ["row", "number", "counts"] := ⟨_, _, Ff12, bf12, PySem.W.mg_of X G nf12⟩
  have Ff13 := fun_mk (st := sCheckProgram) lf13 cf13 kf13
  have bf13 := Ff13.binds (ps := ["program"]) fun _ _ _ _ _ _ us hl => match us, hl with | [_], _ => rfl
  let cCheckProgram : Fd K mg "check_program" sCheckProgram ["program"] := ⟨_, _, Ff13, bf13, PySem.W.mg_of X G nf13⟩
  have Ff14 := fun_mk (st := sUsesWorth) lf14 cf14 kf14
  have bf14 := Ff14.binds (ps := ["row"]) fun _ _ _ _ _ _ us hl => match us, hl with | [_], _ => rfl
  let cUsesWorth : Fd K mg "uses_worth" sUsesWorth ["row"] := ⟨_, _, Ff14, bf14, PySem.W.mg_of X G nf14⟩
  have Ff15 := fun_mk (st := sLaying) lf15 cf15 kf15
  have bf15 := Ff15.binds (ps := ["_law_d", "_law_program", "_law_most"]) fun _ _ _ _ _ _ us hl => match us, hl with | [_, _, _], _ => rfl
  let cLaying : Fd K mg "_law_laying" sLaying ["_law_d", "_law_program", "_law_most"] := ⟨_, _, Ff15, bf15, PySem.W.mg_of X G nf15⟩
  have Ff16 := fun_mk (st := sCheckWide) lf16 cf16 kf16
  have bf16 := Ff16.binds (ps := ["wide"]) fun _ _ _ _ _ _ us hl => match us, hl with | [_], _ => rfl
  let cCheckWide : Fd K mg "check_wide" sCheckWide ["wide"] := ⟨_, _, Ff16, bf16, PySem.W.mg_of X G nf16⟩
  have Ff17 := fun_mk (st := sCheckPlaces) lf17 cf17 kf17
  have bf17 := Ff17.binds (ps := ["places", "count", "wide"]) fun _ _ _ _ _ _ us hl => match us, hl with | [_, _, _], _ => rfl
  let cCheckPlaces : Fd K mg "check_places" sCheckPlaces ["places", "count", "wide"] := ⟨_, _, Ff17, bf17, PySem.W.mg_of X G nf17⟩
  have Ff18 := fun_mk (st := sCheckHomes) lf18 cf18 kf18
  have bf18 := Ff18.binds (ps := ["homes", "count", "wide"]) fun _ _ _ _ _ _ us hl => match us, hl with | [_, _, _], _ => rfl
  let cCheckHomes : Fd K mg "check_homes" sCheckHomes ["homes", "count", "wide"] := ⟨_, _, Ff18, bf18, PySem.W.mg_of X G nf18⟩
  have Ff19 := fun_mk (st := sAreHomes) lf19 cf19 kf19
  have bf19 := Ff19.binds (ps := ["places", "wide"]) fun _ _ _ _ _ _ us hl => match us, hl with | [_, _], _ => rfl
  let cAreHomes : Fd K mg "are_homes" sAreHomes ["places", "wide"] := ⟨_, _, Ff19, bf19, PySem.W.mg_of X G nf19⟩
  have Ff20 := fun_mk (st := sCheckLaying) lf20 cf20 kf20
  have bf20 := Ff20.binds (ps := ["program", "laying"]) fun _ _ _ _ _ _ us hl => match us, hl with | [_, _], _ => rfl
  let cCheckLaying : Fd K mg "check_laying" sCheckLaying ["program", "laying"] := ⟨_, _, Ff20, bf20, PySem.W.mg_of X G nf20⟩
  have Ff21 := fun_mk (st := sNexts) lf21 cf21 kf21
  have bf21 := Ff21.binds (ps := ["row"]) fun _ _ _ _ _ _ us hl => match us, hl with | [_], _ => rfl
  let cNexts : Fd K mg "nexts" sNexts ["row"] := ⟨_, _, Ff21, bf21, PySem.W.mg_of X G nf21⟩
  have Ff22 := fun_mk (st := sAhead) lf22 cf22 kf22
  have bf22 := Ff22.binds (ps := ["row"]) fun _ _ _ _ _ _ us hl => match us, hl with | [_], _ => rfl
  let cAhead : Fd K mg "rows_ahead" sAhead ["row"] := ⟨_, _, Ff22, bf22, PySem.W.mg_of X G nf22⟩
  have Ff23 := fun_mk (st := sFirstBeat) lf23 cf23 kf23
  have bf23 := Ff23.binds (ps := ["now", "place", "wide"]) fun _ _ _ _ _ _ us hl => match us, hl with | [_, _, _], _ => rfl
  let cFirstBeat : Fd K mg "first_beat" sFirstBeat ["now", "place", "wide"] := ⟨_, _, Ff23, bf23, PySem.W.mg_of X G nf23⟩
  have Ff24 := fun_mk (st := sBeatsOfUse) lf24 cf24 kf24
  have bf24 := Ff24.binds (ps := ["word", "places", "read", "wide"]) fun _ _ _ _ _ _ us hl => match us, hl with | [_, _, _, _], _ => rfl
  let cBeatsOfUse : Fd K mg "beats_of_use" sBeatsOfUse ["word", "places", "read", "wide"] := ⟨_, _, Ff24, bf24, PySem.W.mg_of X G nf24⟩
  have Ff25 := fun_mk (st := sBeatOfUse) lf25 cf25 kf25
  have bf25 := Ff25.binds (ps := ["row", "read", "laying"]) fun _ _ _ _ _ _ us hl => match us, hl with | [_, _, _], _ => rfl
  let cBeatOfUse : Fd K mg "beat_of_use" sBeatOfUse ["row", "read", "laying"] := ⟨_, _, Ff25, bf25, PySem.W.mg_of X G nf25⟩
  have Ff26 := fun_mk (st := sBeatBehind) lf26 cf26 kf26
  have bf26 := Ff26.binds (ps := ["row", "read", "laying"]) fun _ _ _ _ _ _ us hl => match us, hl with | [_, _, _], _ => rfl
  let cBeatBehind : Fd K mg "beat_behind" sBeatBehind ["row", "read", "laying"] := ⟨_, _, Ff26, bf26, PySem.W.mg_of X G nf26⟩
  have Ff27 := fun_mk (st := sCost) lf27 cf27 kf27
  have bf27 := Ff27.binds (ps := ["program", "laying", "begin", "to"]) fun _ _ _ _ _ _ us hl => match us, hl with | [_, _, _, _], _ => rfl
  let cCost : Fd K mg "cost" sCost ["program", "laying", "begin", "to"] := ⟨_, _, Ff27, bf27, PySem.W.mg_of X G nf27⟩
  have Ff28 := fun_mk (st := sLoops) lf28 cf28 kf28
  have bf28 := Ff28.binds (ps := ["program"]) fun _ _ _ _ _ _ us hl => match us, hl with | [_], _ => rfl
  let cLoops : Fd K mg "loops" sLoops ["program"] := ⟨_, _, Ff28, bf28, PySem.W.mg_of X G nf28⟩
  have Ff29 := fun_mk (st := sHalves) lf29 cf29 kf29
  have bf29 := Ff29.binds (ps := ["way"]) fun _ _ _ _ _ _ us hl => match us, hl with | [_], _ => rfl
  let cHalves : Fd K mg "halves" sHalves ["way"] := ⟨_, _, Ff29, bf29, PySem.W.mg_of X G nf29⟩
  have Ff30 := fun_mk (st := sLeastHalf) lf30 cf30 kf30
  have bf30 := Ff30.binds (ps := ["program", "half"]) fun _ _ _ _ _ _ us hl => match us, hl with | [_, _], _ => rfl
  let cLeastHalf : Fd K mg "least_half" sLeastHalf ["program", "half"] := ⟨_, _, Ff30, bf30, PySem.W.mg_of X G nf30⟩
  have Ff31 := fun_mk (st := sLeastBeats) lf31 cf31 kf31
  have bf31 := Ff31.binds (ps := ["program", "way"]) fun _ _ _ _ _ _ us hl => match us, hl with | [_, _], _ => rfl
  let cLeastBeats : Fd K mg "least_beats" sLeastBeats ["program", "way"] := ⟨_, _, Ff31, bf31, PySem.W.mg_of X G nf31⟩
  have Ff32 := fun_mk (st := sInRounds) lf32 cf32 kf32
  have bf32 := Ff32.binds (ps := ["beats", "wide"]) fun _ _ _ _ _ _ us hl => match us, hl with | [_, _], _ => rfl
  let cInRounds : Fd K mg "in_rounds" sInRounds ["beats", "wide"] := ⟨_, _, Ff32, bf32, PySem.W.mg_of X G nf32⟩
  have Ff33 := fun_mk (st := sLoopBeats) lf33 cf33 kf33
  have bf33 := Ff33.binds (ps := ["program", "laying"]) fun _ _ _ _ _ _ us hl => match us, hl with | [_, _], _ => rfl
  let cLoopBeats : Fd K mg "loop_beats" sLoopBeats ["program", "laying"] := ⟨_, _, Ff33, bf33, PySem.W.mg_of X G nf33⟩
  have Ff34 := fun_mk (st := sDice) lf34 cf34 kf34
  have bf34 := Ff34.binds (ps := ["_law_script"]) fun _ _ _ _ _ _ us hl => match us, hl with | [_], _ => rfl
  let cDice : Fd K mg "_law_dice" sDice ["_law_script"] := ⟨_, _, Ff34, bf34, PySem.W.mg_of X G nf34⟩
  have Ff35 := fun_mk (st := sTold) lf35 cf35 kf35
  have bf35 := Ff35.binds (ps := ["_law_work"]) fun _ _ _ _ _ _ us hl => match us, hl with | [_], _ => rfl
  let cTold : Fd K mg "_law_told" sTold ["_law_work"] := ⟨_, _, Ff35, bf35, PySem.W.mg_of X G nf35⟩
  have Ff36 := fun_mk (st := sLaw) lf36 cf36 kf36
  have bf36 := Ff36.binds (ps := ["_law_script"]) fun _ _ _ _ _ _ us hl => match us, hl with | [_], _ => rfl
  have T : Bt mg := ⟨PySem.W.mg_none_of X G b_len, PySem.W.mg_none_of X G b_int, PySem.W.mg_none_of X G b_range, PySem.W.mg_none_of X G b_isinstance, PySem.W.mg_none_of X G b_tuple, PySem.W.mg_none_of X G b_list, PySem.W.mg_none_of X G b_sorted, PySem.W.mg_none_of X G b_sum, PySem.W.mg_none_of X G b_max, PySem.W.mg_none_of X G b_enumerate, PySem.W.mg_none_of X G b_zip, PySem.W.mg_none_of X G b_all, PySem.W.mg_none_of X G b_bool, PySem.W.mg_none_of X G b_str⟩
  have TS : Bs mg := ⟨PySem.W.mg_none_of X G b_set⟩
  let Cc : Cn mg := ⟨_, _, _, PySem.W.mg_of X G qW, PySem.W.mg_of X G qR, PySem.W.mg_of X G qN⟩
  let CL : Cl mg := ⟨_, _, PySem.W.mg_of X G q2, PySem.W.mg_of X G q24⟩
  let LH : Ch mg := ⟨_, PySem.W.mg_of X G q3⟩
  let CG : Cg mg := ⟨_, PySem.W.mg_of X G qG⟩
  let CS : Cs mg := ⟨_, PySem.W.mg_of X G qS⟩
  let E : Er mg := ⟨_, _, _, _, _, _, _, _, _, PySem.W.mg_of X G mBP, PySem.W.mg_of X G mBL, PySem.W.mg_of X G mBF, PySem.W.mg_of X G mBG, PySem.W.mg_of X G mBE, PySem.W.mg_of X G mTM_, PySem.W.mg_of X G mOV, PySem.W.mg_of X G mBT, PySem.W.mg_of X G mDE, PySem.W.mg_none_of X G b_ValueError⟩
  have kTM_ : Knd K E E.TM 5 := ⟨⟨TM__hg, TM__hk, TM__hs, TM__hd, TM__ha, TM__hn, TM__ht, TM__hm⟩, exm_sub bDE iDE tDE TM__sDE, kit_type (by decide +kernel) TM__sVE, kit_no TM__n0 iBP tBP TM__s0, kit_no TM__n1 iBL tBL TM__s1, kit_no TM__n2 iBF tBF TM__s2, kit_no TM__n3 iBG tBG TM__s3, kit_no TM__n4 iBE tBE TM__s4, kit_self, kit_no TM__n6 iOV tOV TM__s6, kit_no TM__n7 iBT tBT TM__s7, by decide⟩
  have rTM_ : OvK K E.TM := ⟨TM__rx, TM__rk, TM__hs, TM__rt⟩
  let Z : Pt K w mg := ⟨d, es, n, PySem.W.mg_of X G pD, ⟨pL, pK, lo⟩, fun r => by
    cases r with
    | load _ _ => exact ⟨p_load, w_load, fun H => tup_lit u_load v_load (by show 2 ≤ 1000; decide)⟩
    | add _ _ => exact ⟨p_add, w_add, fun H => tup_lit u_add v_add (by show 2 ≤ 1000; decide)⟩
    | take _ _ => exact ⟨p_take, w_take, fun H => tup_lit u_take v_take (by show 2 ≤ 1000; decide)⟩
    | store _ _ => exact ⟨p_store, w_store, fun H => tup_lit u_store v_store (by show 2 ≤ 1000; decide)⟩
    | say _ => exact ⟨p_say, w_say, fun H => tup_lit u_say v_say (by show 1 ≤ 1000; decide)⟩
    | test _ _ => exact ⟨p_test, w_test, fun H => tup_lit u_test v_test (by show 2 ≤ 1000; decide)⟩
    | stop  => exact ⟨p_stop, w_stop, fun H => tup_lit u_stop v_stop (by show 0 ≤ 1000; decide)⟩⟩
  let ZW : Pw K w mg := ⟨e, es2, n2, PySem.W.mg_of X G pW, ⟨pWL, pWK, lo2⟩, fun r => by
    cases r with
    | load _ _ => exact ⟨_, x_load⟩
    | add _ _ => exact ⟨_, x_add⟩
    | take _ _ => exact ⟨_, x_take⟩
    | store _ _ => exact ⟨_, x_store⟩
    | say _ => exact ⟨_, x_say⟩
    | test _ _ => exact ⟨_, x_test⟩
    | stop  => exact ⟨_, x_stop⟩⟩
  have hA := fun base : Heap => ok_any (P := P) (w := w) (base := base) cAny cStopping cMixed cBody cFork cStraight cNext T
  have hL := fun base : Heap => ok_laying (P := P) (w := w) (base := base) cLaying cNext T TS
  have hCP := fun base : Heap => ok_checkProgram (P := P) (w := w) (base := base) cCheckProgram cCheckRow cCheckWorths cHasShape cPart cIsBetween cIsNumber T Cc Z
  have hCL := fun base : Heap => ok_checkLaying (P := P) (w := w) (base := base) cCheckLaying cCheckWide cCheckPlaces cCheckHomes cAreHomes cPart cIsBetween cIsNumber T TS CL LH
  have hPC := fun base : Heap => ok_cost (P := P) (w := w) (base := base) cCost cBeatBehind cBeatOfUse cBeatsOfUse cFirstBeat cUsesWorth T Z ZW
  have hAh := fun base : Heap => ok_ahead (P := P) (w := w) (base := base) cAhead cNexts cUsesWorth T TS Z
  have hLo := fun base : Heap => ok_loops (P := P) (w := w) (base := base) rTM_ E.mTM cLoops cCheckProgram cAhead T CG CS (hCP base) (hAh base)
  have hHv := fun base : Heap => ok_halves (P := P) (w := w) (base := base) cHalves T
  have hLh := fun base : Heap => ok_leastHalf (P := P) (w := w) (base := base) cLeastHalf cUsesWorth T Z ZW
  have hLe := fun base : Heap => ok_leastBeats (P := P) (w := w) (base := base) cLeastBeats cHalves cLeastHalf T (hHv base) (hLh base)
  have hIR := fun base : Heap => ok_inRounds (P := P) (w := w) (base := base) cInRounds
  have hLpB := fun base : Heap => ok_loopBeats (P := P) (w := w) (base := base) cLoopBeats cCheckProgram cCheckLaying cLoops cCost cInRounds cLeastBeats T (hCP base) (hCL base) (hLo base) (hPC base) (hIR base) (hLe base)
  refine ⟨_, [(cc, tP)], spLaw K tP, fun p hp => ?_, fun p hp => ?_, fun p hp => ?_, ?_, fun H a ns hl _ hT hS => ⟨a, ns, rfl, hS, hl, hT _ (List.mem_singleton.mpr rfl), fun _ => rfl⟩, fun base _ _ hT => ok_law lf36 cf36 (hT _ (List.mem_singleton.mpr rfl)) cDice cNext cAny cLaying cTold cLoops cLoopBeats T TS E kTM_ (hA base) (hL base) (hLo base) (hLpB base)⟩
  · rw [List.mem_singleton.mp hp]
    exact own cc tP _ _ _ _ _ _ lf36 rfl rfl cK c11
  · rw [List.mem_singleton.mp hp]
    exact nP
  · rw [List.mem_singleton.mp hp]
    exact ⟨_, vsc, _, _, _, _, _, _, _, X _ _ cK, rfl, rfl, c11, g11, g18, g7, g9, g10, ne_of_beq_false cP⟩
  · exact fun s v => .of_eq rfl
end DL
open PySem PySem.W PyProof.Rows in
set_option maxRecDepth 100000 in
set_option maxHeartbeats 0 in
theorem PySem.Challenge.cw_drumlay_k14_whole_rounds_holds : PySem.Challenge.rw_drumlay_k14_whole_rounds.Holds := by
  w_on; o_law; k_head; (case hw => w_witness2)
  k_fill
  refine LamX.walk_ofOwn (l := PySem.Challenge.rw_drumlay_k14_whole_rounds) (n := 63) (k := 9) (x := "_law_script") (CX := fun _ => L2.CX0) rfl (by decide) rfl ⟨rfl, by decide, by decide⟩ ?hrec (fun w h Y => PySem.W.km_in_of Y) ?F fun _ _ _ _ _ z => z
  case hrec => exact (by decide +kernel)
  case F =>
    intro w mg fa h Y KX G hmg own
    refine' DL.all_mk KX G hmg ?nf0 ?lf0 ?cf0 ?kf0 ?nf1 ?lf1 ?cf1 ?kf1 ?nf2 ?lf2 ?cf2 ?kf2 ?nf3 ?lf3 ?cf3 ?kf3 ?nf4 ?lf4 ?cf4 ?kf4 ?nf5 ?lf5 ?cf5 ?kf5 ?nf6 ?lf6 ?cf6 ?kf6 ?nf7 ?lf7 ?cf7 ?kf7 ?nf8 ?lf8 ?cf8 ?kf8 ?nf9 ?lf9 ?cf9 ?kf9 ?nf10 ?lf10 ?cf10 ?kf10 ?nf11 ?lf11 ?cf11 ?kf11 ?nf12 ?lf12 ?cf12 ?kf12 ?nf13 ?lf13 ?cf13 ?kf13 ?nf14 ?lf14 ?cf14 ?kf14 ?nf15 ?lf15 ?cf15 ?kf15 ?nf16 ?lf16 ?cf16 ?kf16 ?nf17 ?lf17 ?cf17 ?kf17 ?nf18 ?lf18 ?cf18 ?kf18 ?nf19 ?lf19 ?cf19 ?kf19 ?nf20 ?lf20 ?cf20 ?kf20 ?nf21 ?lf21 ?cf21 ?kf21 ?nf22 ?lf22 ?cf22 ?kf22 ?nf23 ?lf23 ?cf23 ?kf23 ?nf24 ?lf24 ?cf24 ?kf24 ?nf25 ?lf25 ?cf25 ?kf25 ?nf26 ?lf26 ?cf26 ?kf26 ?nf27 ?lf27 ?cf27 ?kf27 ?nf28 ?lf28 ?cf28 ?kf28 ?nf29 ?lf29 ?cf29 ?kf29 ?nf30 ?lf30 ?cf30 ?kf30 ?nf31 ?lf31 ?cf31 ?kf31 ?nf32 ?lf32 ?cf32 ?kf32 ?nf33 ?lf33 ?cf33 ?kf33 ?nf34 ?lf34 ?cf34 ?kf34 ?nf35 ?lf35 ?cf35 ?kf35 ?nf36 ?lf36 ?cf36 ?kf36 ?mBP ?mBL ?mBF ?mBG ?mBE ?mTM_ ?mOV ?mBT ?mDE ?b_ValueError ?iBP ?tBP ?iBL ?tBL ?iBF ?tBF ?iBG ?tBG ?iBE ?tBE ?iTM_ ?tTM_ ?iOV ?tOV ?iBT ?tBT ?iDE ?tDE ?bDE ?TM__hg ?TM__hk ?TM__hs ?TM__hd ?TM__ha ?TM__hn ?TM__ht ?TM__hm ?TM__sDE ?TM__sVE ?TM__s0 ?TM__s1 ?TM__s2 ?TM__s3 ?TM__s4 ?TM__s6 ?TM__s7 ?TM__n0 ?TM__n1 ?TM__n2 ?TM__n3 ?TM__n4 ?TM__n6 ?TM__n7 ?TM__rx ?TM__rk ?TM__rt ?cK ?c11 ?g11 ?g18 ?g7 ?g9 ?g10 ?cP ?nP ?b_len ?b_int ?b_range ?b_isinstance ?b_tuple ?b_list ?b_sorted ?b_sum ?b_max ?b_enumerate ?b_zip ?b_all ?b_bool ?b_str ?b_set ?qW ?qR ?qN ?q2 ?q24 ?q3 ?qG ?qS ?pD ?pL ?pK ?w_load ?u_load ?v_load ?w_add ?u_add ?v_add ?w_take ?u_take ?v_take ?w_store ?u_store ?v_store ?w_say ?u_say ?v_say ?w_test ?u_test ?v_test ?w_stop ?u_stop ?v_stop ?lo ?pW ?pWL ?pWK ?x_load ?x_add ?x_take ?x_store ?x_say ?x_test ?x_stop ?lo2 own
    (case nf0 => k_is)
    (case lf0 => k_is)
    (case cf0 => k_is)
    (case kf0 => k_is)
    (case nf1 => k_is)
    (case lf1 => k_is)
    (case cf1 => k_is)
    (case kf1 => k_is)
    (case nf2 => k_is)
    (case lf2 => k_is)
    (case cf2 => k_is)
    (case kf2 => k_is)
    (case nf3 => k_is)
    (case lf3 => k_is)
    (case cf3 => k_is)
    (case kf3 => k_is)
    (case nf4 => k_is)
    (case lf4 => k_is)
    (case cf4 => k_is)
    (case kf4 => k_is)
    (case nf5 => k_is)
    (case lf5 => k_is)
    (case cf5 => k_is)
    (case kf5 => k_is)
    (case nf6 => k_is)
    (case lf6 => k_is)
    (case cf6 => k_is)
    (case kf6 => k_is)
    (case nf7 => k_is)
    (case lf7 => k_is)
    (case cf7 => k_is)
    (case kf7 => k_is)
    (case nf8 => k_is)
    (case lf8 => k_is)
    (case cf8 => k_is)
    (case kf8 => k_is)
    (case nf9 => k_is)
    (case lf9 => k_is)
    (case cf9 => k_is)
    (case kf9 => k_is)
    (case nf10 => k_is)
    (case lf10 => k_is)
    (case cf10 => k_is)
    (case kf10 => k_is)
    (case nf11 => k_is)
    (case lf11 => k_is)
    (case cf11 => k_is)
    (case kf11 => k_is)
    (case nf12 => k_is)
    (case lf12 => k_is)
    (case cf12 => k_is)
    (case kf12 => k_is)
    (case nf13 => k_is)
    (case lf13 => k_is)
    (case cf13 => k_is)
    (case kf13 => k_is)
    (case nf14 => k_is)
    (case lf14 => k_is)
    (case cf14 => k_is)
    (case kf14 => k_is)
    (case nf15 => k_is)
    (case lf15 => k_is)
    (case cf15 => k_is)
    (case kf15 => k_is)
    (case nf16 => k_is)
    (case lf16 => k_is)
    (case cf16 => k_is)
    (case kf16 => k_is)
    (case nf17 => k_is)
    (case lf17 => k_is)
    (case cf17 => k_is)
    (case kf17 => k_is)
    (case nf18 => k_is)
    (case lf18 => k_is)
    (case cf18 => k_is)
    (case kf18 => k_is)
    (case nf19 => k_is)
    (case lf19 => k_is)
    (case cf19 => k_is)
    (case kf19 => k_is)
    (case nf20 => k_is)
    (case lf20 => k_is)
    (case cf20 => k_is)
    (case kf20 => k_is)
    (case nf21 => k_is)
    (case lf21 => k_is)
    (case cf21 => k_is)
    (case kf21 => k_is)
    (case nf22 => k_is)
    (case lf22 => k_is)
    (case cf22 => k_is)
    (case kf22 => k_is)
    (case nf23 => k_is)
    (case lf23 => k_is)
    (case cf23 => k_is)
    (case kf23 => k_is)
    (case nf24 => k_is)
    (case lf24 => k_is)
    (case cf24 => k_is)
    (case kf24 => k_is)
    (case nf25 => k_is)
    (case lf25 => k_is)
    (case cf25 => k_is)
    (case kf25 => k_is)
    (case nf26 => k_is)
    (case lf26 => k_is)
    (case cf26 => k_is)
    (case kf26 => k_is)
    (case nf27 => k_is)
    (case lf27 => k_is)
    (case cf27 => k_is)
    (case kf27 => k_is)
    (case nf28 => k_is)
    (case lf28 => k_is)
    (case cf28 => k_is)
    (case kf28 => k_is)
    (case nf29 => k_is)
    (case lf29 => k_is)
    (case cf29 => k_is)
    (case kf29 => k_is)
    (case nf30 => k_is)
    (case lf30 => k_is)
    (case cf30 => k_is)
    (case kf30 => k_is)
    (case nf31 => k_is)
    (case lf31 => k_is)
    (case cf31 => k_is)
    (case kf31 => k_is)
    (case nf32 => k_is)
    (case lf32 => k_is)
    (case cf32 => k_is)
    (case kf32 => k_is)
    (case nf33 => k_is)
    (case lf33 => k_is)
    (case cf33 => k_is)
    (case kf33 => k_is)
    (case nf34 => k_is)
    (case lf34 => k_is)
    (case cf34 => k_is)
    (case kf34 => k_is)
    (case nf35 => k_is)
    (case lf35 => k_is)
    (case cf35 => k_is)
    (case kf35 => k_is)
    (case nf36 => k_is)
    (case lf36 => k_is)
    (case cf36 => k_is)
    (case kf36 => k_is)
    (case mBP => k_is)
    (case mBL => k_is)
    (case mBF => k_is)
    (case mBG => k_is)
    (case mBE => k_is)
    (case mTM_ => k_is)
    (case mOV => k_is)
    (case mBT => k_is)
    (case mDE => k_is)
    (case b_ValueError => k_is)
    (case iBP => k_is)
    (case tBP => k_is)
    (case iBL => k_is)
    (case tBL => k_is)
    (case iBF => k_is)
    (case tBF => k_is)
    (case iBG => k_is)
    (case tBG => k_is)
    (case iBE => k_is)
    (case tBE => k_is)
    (case iTM_ => k_is)
    (case tTM_ => k_is)
    (case iOV => k_is)
    (case tOV => k_is)
    (case iBT => k_is)
    (case tBT => k_is)
    (case iDE => k_is)
    (case tDE => k_is)
    (case bDE => k_is)
    (case TM__hg => k_is)
    (case TM__hk => k_is)
    (case TM__hs => k_is)
    (case TM__hd => k_is)
    (case TM__ha => k_is)
    (case TM__hn => k_is)
    (case TM__ht => k_is)
    (case TM__hm => k_is)
    (case TM__sDE => k_is)
    (case TM__sVE => k_is)
    (case TM__s0 => k_is)
    (case TM__s1 => k_is)
    (case TM__s2 => k_is)
    (case TM__s3 => k_is)
    (case TM__s4 => k_is)
    (case TM__s6 => k_is)
    (case TM__s7 => k_is)
    (case TM__n0 => decide)
    (case TM__n1 => decide)
    (case TM__n2 => decide)
    (case TM__n3 => decide)
    (case TM__n4 => decide)
    (case TM__n6 => decide)
    (case TM__n7 => decide)
    (case TM__rx => k_exc)
    (case TM__rk => k_is)
    (case TM__rt => k_is)
    (case cK => k_is)
    (case c11 => exact rfl)
    (case g11 => exact rfl)
    (case g18 => exact rfl)
    (case g7 => exact rfl)
    (case g9 => exact rfl)
    (case g10 => exact rfl)
    (case cP => decide)
    (case nP => first | k_is | rfl | decide +kernel)
    (case b_len => k_is)
    (case b_int => k_is)
    (case b_range => k_is)
    (case b_isinstance => k_is)
    (case b_tuple => k_is)
    (case b_list => k_is)
    (case b_sorted => k_is)
    (case b_sum => k_is)
    (case b_max => k_is)
    (case b_enumerate => k_is)
    (case b_zip => k_is)
    (case b_all => k_is)
    (case b_bool => k_is)
    (case b_str => k_is)
    (case b_set => k_is)
    (case qW => k_is)
    (case qR => k_is)
    (case qN => k_is)
    (case q2 => k_is)
    (case q24 => k_is)
    (case q3 => k_is)
    (case qG => k_is)
    (case qS => k_is)
    (case pD => k_is)
    (case pL => k_is)
    (case pK => k_keys)
    (case w_load => k_is)
    (case u_load => k_is)
    (case v_load => exact (.cons ⟨_, rfl⟩ (.cons ⟨_, rfl⟩ .nil)))
    (case w_add => k_is)
    (case u_add => k_is)
    (case v_add => exact (.cons ⟨_, rfl⟩ (.cons ⟨_, rfl⟩ .nil)))
    (case w_take => k_is)
    (case u_take => k_is)
    (case v_take => exact (.cons ⟨_, rfl⟩ (.cons ⟨_, rfl⟩ .nil)))
    (case w_store => k_is)
    (case u_store => k_is)
    (case v_store => exact (.cons ⟨_, rfl⟩ (.cons ⟨_, rfl⟩ .nil)))
    (case w_say => k_is)
    (case u_say => k_is)
    (case v_say => exact (.cons ⟨_, rfl⟩ .nil))
    (case w_test => k_is)
    (case u_test => k_is)
    (case v_test => exact (.cons ⟨_, rfl⟩ (.cons ⟨_, rfl⟩ .nil)))
    (case w_stop => k_is)
    (case u_stop => k_is)
    (case v_stop => exact .nil)
    (case lo => decide)
    (case pW => k_is)
    (case pWL => k_is)
    (case pWK => k_keys)
    (case x_load => k_is)
    (case x_add => k_is)
    (case x_take => k_is)
    (case x_store => k_is)
    (case x_say => k_is)
    (case x_test => k_is)
    (case x_stop => k_is)
    (case lo2 => decide)
