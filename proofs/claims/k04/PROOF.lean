import PyProof.Rows.All
import Wide.All
import OpenK.AllK
import Wide.FinOn
import HandS.ForMost
import HandS.ForExc
import HandS.Wide
import HandS.IsInst
import HandS.Style
import HandS.Evl
import KE.GoesEnum
import HandS.SortRule
import HandS.SortInts
import HandS.Defaults
import HandS.WordsDict
import HandS.Conv
import HandS.SetFor
import HandS.Iter
import KE.SortKeyHeap
import KE.KSortKey
import HandS.Lambda
import HandS.Nested
import HandS.SortKw
import HandS.CallLocal
import HandS.ExcInit
import HandS.WordsExc
import HandS.ExcField
import HandS.ExcOwn
import HandS.TryMany
import KE.KDflt
import KE.KExcIs
import HandS.ExcIs
import HandS.WideBits
import HandS.WideMore
import PyProof.ReprRoads
import PyProof.FitsInt
import PyProof.Rows.RegStrFacts
import PyProof.ReprLen
import HandS.TupAny
import HandS.EndTab
import PyProof.ReprBulk
import HandS.ForSpec
import PyProof.TupleIter
import HandS.Small
import KE.KNestM
import PySem.Challenge.RW_askedorder_k04_refused_keys_and_orders
set_option Elab.async false
set_option linter.all false
set_option maxRecDepth 100000
set_option maxHeartbeats 8000000
namespace L2
open PySem PySem.Spec PyProof.Rows
/-! ### own rules: list + list of lists that are only read, powers, repr of a bool, calls by keywords alone -/
def rCatS (K : PySem.W.Frag) : R2 := fun x y H Q => ∃ l b xs zs, x = .ref l ∧ y = .ref b ∧ SqL K H l xs ∧ SqL K H b zs ∧ xs.length + zs.length ≤ sizeLine ∧ ∀ p, H p = none → Q (.ref p) (upd H p (.lst (xs ++ zs)))
theorem op_catS {X : Cx} : OpR X (binaryOp .Add) (rCatS X.K) := by
  intro pins s σ H x y v u Q I rx ry h
  obtain ⟨l, b, xs, zs, rfl, rfl, hH, hB, hz, q⟩ := h
  cases rx
  cases ry
  obtain ⟨its, r, pl, hl⟩ := I.list hH
  obtain ⟨its2, r2, pl2, hl2⟩ := I.list hB
  have e1 := r.length
  have e2 := r2.length
  obtain ⟨⟨cls, dd, data, sl⟩, n, ho, hc, hdd, hd⟩ := pl
  obtain ⟨⟨cls2, dd2, data2, sl2⟩, n2, ho2, hc2, hdd2, hd2⟩ := pl2
  simp only at hc hd hc2 hd2
  subst hc hd hc2 hd2
  have e : its.toArray ++ its2.toArray = (its ++ its2).toArray := by simp
  refine concat_meets ⟨_, ho, rfl⟩ ⟨_, ho2, rfl⟩ noFill_list_add seq_list_add PySem.F.slot_list_add PySem.F.entry_list_add (PySem.F.args_list_add_2 _ _) (list_addW l b its.toArray its2.toArray n n2 dd dd2 sl sl2 (by simp only [List.size_toArray]; omega)) ⟨ho, ho2, ?_⟩
  rw [e]
  exact ⟨.ref _, _, I.lnew (t' := s.toks) (r.append r2) (by rw [List.length_append]; omega), rfl, q _ I.fresh⟩
def CPowW (i j : Int) : Prop := 0 ≤ j ∧ (Builtin.Int.intBits i : Int) * j ≤ 2 ^ 27
theorem op_powW {X : Cx} : OpR X (binaryOp .Pow) (rI CPowW fun i j => .int (i ^ j.toNat)) := opI fun _ _ _ _ _ _ _ hc q => pow_int hc.1 hc.2 q
theorem call_repr_bool {X : Cx} : CallR X (.builtin "repr") (fun xs H Q => ∃ b, xs = [.bl b] ∧ Q (.str (if b then "True" else "False")) H) := by
  intro pins s σ H xs us Q I r h
  obtain ⟨b, rfl, q⟩ := h
  obtain ⟨u, rfl, r1⟩ := vals1 r
  cases r1
  exact PySem.P.repr_of_bool ⟨.str _, H, I.tok _, ⟨_, rfl⟩, q⟩
/-- f(k = v, ..), keywords alone -/
def tCallK0 (sp : Sp) (gV : List V → List V → List V) (E : XK) (tk : TA) : TE := fun σ H Q => tk σ H fun zs H2 => sp (gV [] zs) H2 Q E
theorem pe_callK0 {X : Cx} {CX : CXT} {k : Nat} {f : Addr} {fd : FuncData} {ps ks : List Str} {sp : Sp} {E : XK} {x : Str} {p pos : Pos} {kws : List Keyword} {tk : TA} {g : List Value → List Value → List Value} {gV : List V → List V → List V}
    (F : FnOk X.prog X.w X.K X.mg X.base CX k f fd ps sp) (hr : Room k X.A) (hg : Gl X x) (hm : X.mg x = some (.ref f)) (hk : PySem.W.keepIn X.K (.ref f) = true) (hb : KBinds X.K fd ps ks g gV) (hx : Passes CX X E)
    (hkw : PK X kws tk) (hall : (backToKw pos (keywordEach kws X.env)).all (·.1.isSome) = true := by rfl) (hks : (backToKw pos (keywordEach kws X.env)).filterMap (·.1) = ks := by rfl)
    (hdb : (x == ("__debug__" : Str)) = false := by decide)
    (hpl : ((backTo pos (starEach [] X.env)).any (·.1) || (backToKw pos (keywordEach kws X.env)).any (·.1.isNone)) = false := by rfl) :
    PE X (.Call (.Name x p) [] kws pos) (tCallK0 sp gV E tk) := by
  refine ⟨fun pins s σ H Q I h => ?_⟩
  refine wpAny_Call_Name_kw (ld_glob I hg hm ?_ hdb)
  refine PySem.W.callWith_KW0 (h₀ := X.base) I.ok.mod.kin hk hall ?_ hpl
  refine thn (hkw.run pos pins s σ H _ I h) fun ws s2 ⟨zs, H2, I2, rz, q2⟩ => ⟨I2.kIn, ?_⟩
  rw [hks]
  exact run_fnk F hr hb hx I2 .nil rz q2
/-! ### heaps: all but one address -/
/-- all that was tracked, but at p, is as it was -/
def SB (p : Addr) (H H' : Hp) : Prop := ∀ b o, b ≠ p → H b = some o → H' b = some o
theorem SB.refl (p : Addr) (H : Hp) : SB p H H := fun _ _ _ h => h
theorem SB.trans {p : Addr} {H H1 H2 : Hp} (a : SB p H H1) (b : SB p H1 H2) : SB p H H2 := fun c o n h => b c o n (a c o n h)
theorem SB.new {p q : Addr} {H : Hp} {o : HO} (h : H q = none) : SB p H (upd H q o) := fun b u n e => by
  rw [upd_ne (ne_of_none e h)]
  exact e
theorem SB.put {p : Addr} {H : Hp} {o : HO} : SB p H (upd H p o) := fun b u n e => by
  rw [upd_ne n]
  exact e
theorem SB.of {p : Addr} {H H' : Hp} (a : Same H H') : SB p H H' := fun c o _ h => a c o h
theorem SB.seq {p : Addr} {K : PySem.W.Frag} {H H' : Hp} {a : Addr} {xs : List V} (e : SB p H H') (n : a ≠ p) (h : SqL K H a xs) : SqL K H' a xs := by
  rcases h with (h | ⟨o, h⟩) | h
  · exact .inl (.inl (e _ _ n h))
  · exact .inl (.inr ⟨o, e _ _ n h⟩)
  · exact .inr h
theorem SB.tup {p : Addr} {K : PySem.W.Frag} {H H' : Hp} {a : Addr} {xs : List V} (e : SB p H H') (n : a ≠ p) (h : SqT K H a xs) : SqT K H' a xs := by
  rcases h with (h | ⟨o, h⟩) | h
  · exact .inl (.inl (e _ _ n h))
  · exact .inl (.inr ⟨o, e _ _ n h⟩)
  · exact .inr h
/-- what is free behind was free before, but at p -/
theorem SB.free {p : Addr} {H H' : Hp} (e : SB p H H') {l : Addr} (n : l ≠ p) (h : H' l = Option.none) : H l = Option.none := by
  cases q : H l with
  | none => rfl
  | some o =>
    rw [e l o n q] at h
    cases h
theorem same_upd {H : Hp} {p : Addr} {o : HO} (h : H p = none) : Same H (upd H p o) := fun b x e => by
  rw [upd_ne (ne_of_none e h)]
  exact e
theorem Same.tupS {K : PySem.W.Frag} {H H' : Hp} {a : Addr} {xs : List V} (e : Same H H') (h : SqT K H a xs) : SqT K H' a xs := by
  rcases h with (h | ⟨o, h⟩) | h
  · exact .inl (.inl (e _ _ h))
  · exact .inl (.inr ⟨o, e _ _ h⟩)
  · exact .inr h
theorem sq_of {K : PySem.W.Frag} {H : Hp} {a : Addr} {xs : List V} (h : H a = some (.lst xs)) : SqL K H a xs := .inl (.inl h)
theorem st_of {K : PySem.W.Frag} {H : Hp} {a : Addr} {xs : List V} (h : H a = some (.tup xs)) : SqT K H a xs := .inl (.inl h)
end L2
namespace L2
open PySem PySem.Spec PyProof.Rows
theorem for_iteL {K : PySem.W.Frag} {a : Addr} {xs : List V} {g : TG} {tb : TS} {D : Ends} {σ : St} {H : Hp} (Pv : Nat → St → Hp → Prop) (h0 : Pv 0 σ H) (hl : ∀ i σ H, i ≤ xs.length → Pv i σ H → SqL K H a xs)
    (hs : ∀ i x σ H T, xs[i]? = some x → Pv i σ H → H T = none → g (.ref T) σ (upd H T (.tup [.int (i : Nat), x])) fun σ2 H2 => tb { D with nx := Pv (i + 1), ct := Pv (i + 1), bk := D.nx } σ2 H2) (hd : ∀ σ H, Pv xs.length σ H → D.nx σ H) :
    ∃ W : Nat → Nat → St → Hp → Prop, (∃ m, W 0 m σ H) ∧ ∀ i m σ H, W i m σ H →
      ((Ite K a).stop i H ∧ D.nx σ H) ∨ ((Ite K a).go i H ∧ ∃ N : St → Hp → Prop, (∀ σ' H', N σ' H' → ∃ m', m' < m ∧ W (i + 1) m' σ' H') ∧ ∀ x H', (Ite K a).yld i H x H' → g x σ H' fun σ2 H2 => tb { D with nx := N, ct := N, bk := D.nx } σ2 H2) := by
  refine ⟨fun i m σ H => m = xs.length - i ∧ i ≤ xs.length ∧ Pv i σ H, ⟨xs.length, by simp, Nat.zero_le _, h0⟩, ?_⟩
  rintro i m σ H ⟨rfl, hi, p⟩
  have q := hl i σ H hi p
  by_cases hlt : i < xs.length
  · refine .inr ⟨⟨xs, xs[i], q, by simp [hlt]⟩, Pv (i + 1), fun σ' H' p' => ⟨xs.length - (i + 1), by omega, rfl, hlt, p'⟩, fun x H' y => ?_⟩
    obtain ⟨T, z, e, nT, eH, f⟩ := y
    subst e eH
    exact hs i z σ _ T (f xs q) p nT
  · have e : i = xs.length := by omega
    subst e
    exact .inl ⟨⟨xs, q, Nat.le_refl _⟩, hd σ H p⟩
end L2

namespace PySem
open Sem (wp)
theorem meets_enumerate_new0 {v : Value} {o : Obj} {H : Heap → Prop} (B : Begins v o H) :
    Meets (Builtin.«enumerate.__new__» ⟨[.type "enumerate", v], []⟩) (fun _ R s => H s.heap ∧
      R (.ok (.ret (.ref (s.heap.push o).objs.size))) { s with heap := (s.heap.push o).push { cls := .type "enumerate", data := .fields #[.none, .bool false, .ref s.heap.objs.size, rawInt 0, .none, .none] } }) :=
  .of_wp fun prog w A R s h => by
    obtain ⟨hp, g, d, tk, os⟩ := s; obtain ⟨h1, h⟩ := h
    have hsub := sub_enumerate
    have q1 : ∀ {A' : Around} {E : Value → Shared → Prop} {Q : Value → Shared → Prop}, Q (.ref hp.objs.size) ⟨hp.push o, g, d, tk, os⟩ → wpAny (model prog w) A' (pyIter v) Q E ⟨hp, g, d, tk, os⟩ :=
      fun q => B.iter prog w _ _ ⟨hp, g, d, tk, os⟩ _ h1 q
    wp_walk using q1
    refine wpAny_stack_any fun st => wpAny_pure ?_
    split
    · rename_i c _ _ _ _ _
      cases (c == Value.type "enumerate")
      · wp_walk using q1
        exact ⟨_, rfl, h⟩
      · wp_walk using q1
        exact ⟨_, rfl, h⟩
    · wp_walk using q1
      exact ⟨_, rfl, h⟩
theorem enum_begins0 {prog : Program} {w : World} {A : Around} {E : Value → Shared → Prop} {s : Shared} {v : Value} {o : Obj} {H : Heap → Prop} {Q : Value → Shared → Prop} (B : Begins v o H) (h1 : H s.heap)
    (h : ∀ h', IsEnum h' (s.heap.objs.size + 1) s.heap.objs.size 0 .none → h'.get? s.heap.objs.size = some o → h'.objs.size = s.heap.objs.size + 2 →
      (∀ b o, s.heap.get? b = some o → h'.get? b = some o) → Q (.ref (s.heap.objs.size + 1)) { s with heap := h' }) :
    wpAny (model prog w) A (call (.type "enumerate") [v]) Q E s := by
  refine callType_new F.called_enumerate (by decide) (F.typeCall_enumerate_1 _) (F.newCall_enumerate_1 _) (fun obj => F.args_object_init_2 obj _) F.entry_enumerate_new
    (meets_enumerate_new0 B) ⟨h1, ?_⟩
  have hz : (s.heap.push o).objs.size = s.heap.objs.size + 1 := Heap.size_push ..
  show _ ∧ _
  rw [hz]
  have he : IsEnum ((s.heap.push o).push { cls := .type "enumerate", data := .fields #[.none, .bool false, .ref s.heap.objs.size, rawInt 0, .none, .none] }) (s.heap.objs.size + 1) s.heap.objs.size 0 .none := by
    have := Heap.get?_push_size (s.heap.push o) (o := { cls := .type "enumerate", data := .fields #[.none, .bool false, .ref s.heap.objs.size, rawInt 0, .none, .none] }) rfl
    rw [hz] at this; exact this
  refine ⟨⟨_, he, rfl⟩, h _ he (Heap.get?_push_of_some _ (Heap.get?_push_size _ B.free)) (by rw [Heap.size_push, hz]) fun b o x => Heap.get?_push_of_some _ (Heap.get?_push_of_some _ x)⟩
end PySem
namespace L2
open PySem PySem.Spec PyProof.Rows
/-- the tuple at a, each item in a new pair -/
def IteT (K : PySem.W.Frag) (a : Addr) : It :=
  ⟨fun i H => ∃ (xs : List V) (x : V), SqT K H a xs ∧ xs[i]? = some x, fun i H v H' => ∃ T x, v = .ref T ∧ H T = none ∧ H' = upd H T (.tup [.int (i : Nat), x]) ∧ ∀ xs, SqT K H a xs → xs[i]? = some x, fun i H => ∃ xs : List V, SqT K H a xs ∧ xs.length ≤ i⟩
theorem turn_enumT {P : Program} {w : World} {K : PySem.W.Frag} {elts : List Expr} {kk : Nat} {tpos : Pos} (a e it : Addr) (hae : e ≠ a) (hai : a ≠ it) :
    Turn P w K (.Tuple elts kk tpos) (IteT K a) [e, it] e (fun i h => (∃ old, IsEnum h e it ((i : Nat) : Int) old) ∧ h.IsTupleIter it a i ∧ e ≠ it) where
  mem := by simp
  obj := fun i h st b hb => by
    obtain ⟨⟨old, he⟩, ⟨o, ho, hc, hd⟩, _⟩ := st
    have e' : b = e ∨ b = it := by simpa using hb
    rcases e' with z | z
    · rw [z]; exact ⟨_, he, fun v q => nomatch q⟩
    · rw [z]; exact ⟨o, ho, fun v q => by rw [hd] at q; cases q⟩
  keep := fun i h h' st k => let ⟨⟨old, he⟩, hi, hne⟩ := st; ⟨⟨old, k e (by simp) _ he⟩, hi.at fun o q => k it (by simp) o q, hne⟩
  item := by
    intro X hP hw hK hc i pins s σ H E I hf st hg
    subst hP hw hK
    obtain ⟨⟨old, he⟩, hit, hne⟩ := st
    obtain ⟨xs, x, hq, hx⟩ := hg
    obtain ⟨its, rv, p, hz⟩ := I.tuple hq
    obtain ⟨u, hu, ru⟩ := rv.get hx
    have hel : e < s.heap.objs.size := Heap.lt_size he
    have hil : it < s.heap.objs.size := by obtain ⟨_, q, _⟩ := hit; exact Heap.lt_size q
    have hlt : i < its.toArray.size := by
      have z := (List.getElem?_eq_some_iff.mp hu).1
      simpa using z
    refine wpAny_pyNext_enum_itemD (Draws.tuple (A := X.A.in1) (I.ok.hd hc) it a hai its.toArray) he ⟨hit, p⟩ hlt hne (by simp [hne, hae]) fun x' h' tk hP' ho hit' hT hsz hk => ?_
    have ex : x' = u := by
      have q : its.toArray[i]? = some u := by simpa using hu
      rw [q] at hP'
      exact (Option.some.inj hP').symm
    subst ex
    refine ⟨_, rfl, wpAny_letOwnedTupleGo_enum (s := { s with heap := h', toks := tk + 1 }) ho fun h'' he' sb => ?_⟩
    have hT2 : h''.get? s.heap.objs.size = some { cls := .type "tuple", data := .seq #[.int i tk, x'] } := (sb.2 _ (Nat.ne_of_gt hel)).trans hT
    have new : ObjOk X.prog X.w (upd H s.heap.objs.size (.tup [.int (i : Nat), x])) h'' s.heap.objs.size (.tup [.int (i : Nat), x]) :=
      ⟨by show 2 ≤ sizeLine; decide, [.int i tk, x'], .cons ⟨_, rfl⟩ (.cons ru .nil), ⟨_, hT2, rfl, _, rfl⟩⟩
    have I1 : Inv X pins σ (upd H s.heap.objs.size (.tup [.int (i : Nat), x])) { s with heap := h'', toks := tk + 1 } :=
      I.turnedNew (ch := [e, it]) (fun b ob hb q => (sb.2 b (fun z => hb (by simp [z]))).trans (hk b ob (fun z => hb (by simp [z])) (fun z => hb (by simp [z])) q)) hf (Nat.le_refl _) new
    refine ⟨.ref s.heap.objs.size, _, I1, rfl, ⟨_, x, rfl, I.hok.fresh (Nat.le_refl _), rfl, fun ys hy => by rw [I.tuple_inj hy hq]; exact hx⟩, ⟨⟨x', ?_⟩, hit'.1.at fun o q => (sb.2 it (Ne.symm hne)).trans q, hne⟩, fun b hb => ?_⟩
    · have e1 : ((i + 1 : Nat) : Int) = (i : Int) + 1 := by omega
      rw [e1]; exact he'
    · have hb' : b < s.heap.objs.size := by
        have e' : b = e ∨ b = it := by simpa using hb
        rcases e' with z | z
        · rw [z]; exact hel
        · rw [z]; exact hil
      rw [upd_ne (Nat.ne_of_lt hb')]
      exact (hf b hb).1
  done := by
    intro X hP hw hK hc i pins s σ H E I hf st hg
    subst hP hw hK
    obtain ⟨⟨old, he⟩, hit, hne⟩ := st
    obtain ⟨xs, hq, hx⟩ := hg
    obtain ⟨its, rv, p, hz⟩ := I.tuple hq
    obtain ⟨f0, f1, f2, f3, f4, f5⟩ := hf it (by simp)
    have hl := rv.length
    have hT : s.TypeIs (.ref e) "enumerate" := ⟨_, he, rfl⟩
    have hN : its.toArray[i]? = none := by simp; omega
    unfold pyNext
    refine wpAny_bind (wpAny_attempt (wpAny_callSpecial?_slot (name := Str.ofString "__next__") hT F.slot_enumerate_next
      (wpAny_call_entry F.slot_enumerate_next hT F.entry_enumerate_next ?_ (F.args_enumerate_next_1 _))))
    show wpAny _ _ (field (.ref e) 2 >>= _) _ _ _
    refine wpAny_bind (wpAny_field he rfl (x := .ref it) rfl ?_)
    refine wpAny_bind (wpAny_nextOf_tuple_end (I.ok.hd hc) hit p hN fun h' x he' hx' => ?_)
    obtain ⟨o, ho, hcc⟩ := hx'
    refine wpAny_bind (wpAny_isInstance (T := "StopIteration") (b := true) ⟨o, ho, hcc⟩ isSubtype_stop ?_)
    exact wpAny_pure ⟨rfl, I.turned (t' := s.toks) (fun b o hb q => he' b o hb q) f0 f1 f3 f4 f5⟩
  self := fun A i s Q E st h => let ⟨⟨_, he⟩, _⟩ := st; wpAny_pyIter_enum he h
/-- enumerate of a list or a tuple -/
def iEnumA (K : PySem.W.Frag) (ta : TA) : TI := fun σ H R => ta σ H fun vs H1 => ∃ a xs, vs = [.ref a] ∧ ((SqL K H1 a xs ∧ R (Ite K a) H1) ∨ (SqT K H1 a xs ∧ R (IteT K a) H1))
theorem pi_enumA {X : Cx} {e : Expr} {ta : TA} {p pos tpos : Pos} {elts : List Expr} {kk : Nat} (hg : Gl X "enumerate") (hm : X.mg "enumerate" = none) (ha : PA X [e] ta) (hs : starEach [e] X.env = [(false, eval e X.env)] := by rfl) :
    PI X (.Tuple elts kk tpos) (.Call (.Name "enumerate" p) [e] [] pos) (iEnumA X.K ta) := by
  refine ⟨fun pins s σ H R I h => ?_⟩
  refine Call_ (ld_blt I hg hm boot_enumerate (PyProof.Rows.callWith_type1 (thn (ha.run pos pins s σ H _ I h) fun us s1 ⟨vs, H1, I1, r1, q1⟩ => ?_) hs rfl))
  obtain ⟨a, xs, ex, q1⟩ := q1
  subst ex
  cases r1 with
  | cons r rr =>
    cases rr
    cases r
    have fp : ∀ b, b ∈ [s1.heap.objs.size + 1, s1.heap.objs.size] → s1.heap.objs.size ≤ b := fun b hb => by
      have e' : b = s1.heap.objs.size + 1 ∨ b = s1.heap.objs.size := by simpa using hb
      rcases e' with z | z
      · rw [z]; exact Nat.le_add_right _ _
      · rw [z]; exact Nat.le_refl _
    rcases q1 with ⟨hq, q⟩ | ⟨hq, q⟩
    · obtain ⟨its, rv, p', hz⟩ := I1.list hq
      refine call_enumerate_list p'.isList fun h' he hit hsz hk => wpAny_pyIter_enum he ?_
      have I2 : Inv X pins σ H1 { s1 with heap := h' } := I1.kept (t' := s1.toks) hk
      exact ⟨s1.heap.objs.size + 1, [s1.heap.objs.size + 1, s1.heap.objs.size], _, _, H1, rfl, I2, turn_enum a (s1.heap.objs.size + 1) s1.heap.objs.size, ⟨⟨.none, he⟩, hit, Nat.succ_ne_self _⟩, fun b hb => I1.fpOk (fp b hb) (I1.hok.fresh (fp b hb)), q⟩
    · obtain ⟨its, rv, p', hz⟩ := I1.tuple hq
      have hlt : a < s1.heap.objs.size := by
        obtain ⟨o, ho, _⟩ := id p'
        exact Heap.lt_size ho
      refine enum_begins0 (begins_tuple a its.toArray) p' fun h' he hit hsz hk => wpAny_pyIter_enum he ?_
      have I2 : Inv X pins σ H1 { s1 with heap := h' } := I1.kept (t' := s1.toks) hk
      exact ⟨s1.heap.objs.size + 1, [s1.heap.objs.size + 1, s1.heap.objs.size], _, _, H1, rfl, I2, turn_enumT a (s1.heap.objs.size + 1) s1.heap.objs.size (Nat.ne_of_gt (Nat.lt_succ_of_lt hlt)) (Nat.ne_of_lt hlt), ⟨⟨.none, he⟩, ⟨_, hit, rfl, rfl⟩, Nat.succ_ne_self _⟩, fun b hb => I1.fpOk (fp b hb) (I1.hok.fresh (fp b hb)), q⟩
end L2
namespace L2
open PySem PySem.Spec PyProof.Rows
theorem for_iteT {K : PySem.W.Frag} {a : Addr} {xs : List V} {g : TG} {tb : TS} {D : Ends} {σ : St} {H : Hp} (Pv : Nat → St → Hp → Prop) (h0 : Pv 0 σ H) (hl : ∀ i σ H, i ≤ xs.length → Pv i σ H → SqT K H a xs)
    (hs : ∀ i x σ H T, xs[i]? = some x → Pv i σ H → H T = none → g (.ref T) σ (upd H T (.tup [.int (i : Nat), x])) fun σ2 H2 => tb { D with nx := Pv (i + 1), ct := Pv (i + 1), bk := D.nx } σ2 H2) (hd : ∀ σ H, Pv xs.length σ H → D.nx σ H) :
    ∃ W : Nat → Nat → St → Hp → Prop, (∃ m, W 0 m σ H) ∧ ∀ i m σ H, W i m σ H →
      ((IteT K a).stop i H ∧ D.nx σ H) ∨ ((IteT K a).go i H ∧ ∃ N : St → Hp → Prop, (∀ σ' H', N σ' H' → ∃ m', m' < m ∧ W (i + 1) m' σ' H') ∧ ∀ x H', (IteT K a).yld i H x H' → g x σ H' fun σ2 H2 => tb { D with nx := N, ct := N, bk := D.nx } σ2 H2) := by
  refine ⟨fun i m σ H => m = xs.length - i ∧ i ≤ xs.length ∧ Pv i σ H, ⟨xs.length, by simp, Nat.zero_le _, h0⟩, ?_⟩
  rintro i m σ H ⟨rfl, hi, p⟩
  have q := hl i σ H hi p
  by_cases hlt : i < xs.length
  · refine .inr ⟨⟨xs, xs[i], q, by simp [hlt]⟩, Pv (i + 1), fun σ' H' p' => ⟨xs.length - (i + 1), by omega, rfl, hlt, p'⟩, fun x H' y => ?_⟩
    obtain ⟨T, z, e, nT, eH, f⟩ := y
    subst e eH
    exact hs i z σ _ T (f xs q) p nT
  · have e : i = xs.length := by omega
    subst e
    exact .inl ⟨⟨xs, q, Nat.le_refl _⟩, hd σ H p⟩
end L2

namespace L2
open PySem PySem.Spec PyProof.Rows
/-! ### sources of draws: a list of three ints, the first one from 0 on -/
def Src (H : Hp) (p : Addr) : Prop := ∃ x y z : Int, 0 ≤ x ∧ H p = some (.lst [.int x, .int y, .int z])
theorem Src.put {H : Hp} {p : Addr} {x y z : Int} (h : 0 ≤ x) : Src (upd H p (.lst [.int x, .int y, .int z])) p := ⟨x, y, z, h, upd_same⟩
theorem Src.ne {H : Hp} {p q : Addr} (h : Src H p) (n : H q = none) : q ≠ p := fun e => by
  obtain ⟨x, y, z, _, hp⟩ := h
  rw [← e, n] at hp
  cases hp
theorem Src.at {H H' : Hp} {p : Addr} (h : Src H p) (e : H' p = H p) : Src H' p := by
  obtain ⟨x, y, z, x0, hp⟩ := h
  exact ⟨x, y, z, x0, e.trans hp⟩
theorem Src.upd {H : Hp} {p q : Addr} {o : HO} (h : Src H p) (n : q ≠ p) : Src (L2.upd H q o) p := h.at (upd_ne (Ne.symm n))
theorem Src.new {H : Hp} {p q : Addr} {o : HO} (h : Src H p) (n : H q = none) : Src (L2.upd H q o) p := h.upd (h.ne n)
theorem Src.same {H H' : Hp} {p : Addr} (h : Src H p) (e : Same H H') : Src H' p := by
  obtain ⟨x, y, z, x0, hp⟩ := h
  exact ⟨x, y, z, x0, e _ _ hp⟩
/-- what a draw leaves: all but the source stands, the source is one -/
def Dn (p : Addr) (H H' : Hp) : Prop := SB p H H' ∧ Src H' p
theorem Dn.put {p : Addr} {H : Hp} {x y z : Int} (h : 0 ≤ x) : Dn p H (L2.upd H p (.lst [.int x, .int y, .int z])) := ⟨SB.put, .put h⟩
theorem Dn.trans {p : Addr} {H H1 H2 : Hp} (a : Dn p H H1) (b : Dn p H1 H2) : Dn p H H2 := ⟨a.1.trans b.1, b.2⟩
theorem Dn.new {p q : Addr} {H H' : Hp} {o : HO} (a : Dn p H H') (n : H' q = none) : Dn p H (L2.upd H' q o) := ⟨a.1.trans (SB.new n), a.2.new n⟩
theorem Dn.same {p : Addr} {H H' H2 : Hp} (a : Dn p H H') (e : Same H' H2) : Dn p H H2 := ⟨a.1.trans (SB.of e), a.2.same e⟩
theorem Dn.refl {p : Addr} {H : Hp} (h : Src H p) : Dn p H H := ⟨SB.refl p H, h⟩
/-- an address that is new behind a draw was new before -/
theorem Dn.free {p q : Addr} {H H' : Hp} (a : Dn p H H') (n : H' q = none) : H q = none := a.1.free (a.2.ne n) n
theorem map_snoc (ms : List Int) (v : Int) : ms.map V.int ++ [V.int v] = (ms ++ [v]).map V.int := by simp
theorem rep_flat (b : Int) : ∀ n : Nat, (List.replicate n [V.int b]).flatten = (List.replicate n b).map V.int
  | 0 => rfl
  | n + 1 => by
    rw [List.replicate_succ, List.replicate_succ, List.flatten_cons, rep_flat b n]
    rfl
theorem lt64 {c : Int} {x : Int} (h0 : 0 ≤ x) (h1 : x < c) (hc : c ≤ 2 ^ 63) : -(2 ^ 64) < x ∧ x < 2 ^ 64 := by omega
theorem mb (x : Int) {c : Int} (h : 0 < c) : 0 ≤ x % c ∧ x % c < c := ⟨Int.emod_nonneg _ (by omega), Int.emod_lt_of_pos _ h⟩
theorem mbw (x : Int) {c : Int} (h : 0 < c) (hc : c ≤ 2 ^ 63) : -(2 ^ 64) < x % c ∧ x % c < 2 ^ 64 := lt64 (mb x h).1 (mb x h).2 hc
/-- a comprehension over range(n) each of whose items is an int, reckoned by draws -/
theorem lc_ints {te : TE} {σ : L2.St} {H1 : Hp} {D p : Addr} {n j : Nat} {vs : List Nat} {Qd : Hp → Prop} (hn : n ≤ 1000000) (hs : Src H1 p) (hD : H1 D = none)
    (hw : ∀ v, wipe ((wipe σ vs).set j v) vs = wipe σ vs)
    (he : ∀ (k : Nat) (H3 : Hp) (R : VK), k < n → Dn p H1 H3 → (∀ (v : Int) (H4 : Hp), Dn p H3 H4 → R (.int v) H4) → te ((wipe σ vs).set j (some (.int (0 + (k : Nat))))) H3 R)
    (hd : ∀ (ms : List Int) (H' : Hp), ms.length = n → Dn p H1 H' → H' D = some (.lst (ms.map V.int)) → Qd H') :
    ∃ W : Nat → Nat → Hp → Prop, (∃ m, W 0 m (L2.upd H1 D (.lst []))) ∧ ∀ i m H, W i m H →
      ((Itr 0 n).stop i H ∧ Qd H) ∨ ((Itr 0 n).go i H ∧ ∃ Nx : Hp → Prop, (∀ H', Nx H' → ∃ m', m' < m ∧ W (i + 1) m' H') ∧ ∀ x H', (Itr 0 n).yld i H x H' → gName j x (wipe σ vs) H' fun σ2 H2 => wipe σ2 vs = wipe σ vs ∧ tYes σ2 H2 fun b H3 =>
        if b = true then te σ2 H3 fun y H4 => ∃ acc, H4 D = some (.lst acc) ∧ acc.length < sizeLine ∧ Nx (L2.upd H4 D (.lst (acc ++ [y]))) else Nx H3) := by
  have nD : D ≠ p := hs.ne hD
  refine lc_range (lo := 0) (n := n) (fun i H => ∃ ms : List Int, ms.length = i ∧ Dn p H1 H ∧ H D = some (.lst (ms.map V.int))) ⟨[], rfl, (Dn.refl hs).new hD, upd_same⟩ ?_ ?_
  · rintro i H hi ⟨ms, hl, dr, hh⟩
    refine ⟨hw _, ?_⟩
    refine he i H _ hi dr fun v H4 d4 => ?_
    have h4 := d4.1 _ _ nD hh
    refine ⟨_, h4, ?_, ms ++ [v], by simp [hl], ?_, ?_⟩
    · rw [List.length_map, hl]
      exact Nat.lt_of_le_of_lt (Nat.le_trans (Nat.le_of_lt hi) hn) (by decide)
    · have dd := dr.trans d4
      refine ⟨fun b o nb e => ?_, dd.2.upd nD⟩
      rw [upd_ne (ne_of_none e hD)]
      exact dd.1 b o nb e
    · rw [map_snoc]
      exact upd_same
  · rintro H ⟨ms, hl, dr, hh⟩
    exact hd ms H hl dr hh
end L2
namespace L2
open PySem PySem.Spec PyProof.Rows
theorem canLay_ints : ∀ ns : List Int, PyData.canLayAll0 (ns.map PyData.int) = true
  | [] => rfl
  | n :: r => by
    show (PyData.canLay0 (.int n) && PyData.canLayAll0 (r.map PyData.int)) = true
    rw [canLay_ints r]
    rfl
theorem depth_ints : ∀ ns : List Int, PyData.depthAll (ns.map PyData.int) = 0
  | [] => rfl
  | n :: r => by
    show max (PyData.depth (.int n)) (PyData.depthAll (r.map PyData.int)) = 0
    rw [depth_ints r]
    rfl
theorem shaped_ints (ns : List Int) : SeqAt.shaped (.list (ns.map PyData.int)) = true := by
  unfold SeqAt.shaped
  rw [Bool.and_eq_true]
  refine ⟨canLay_ints ns, decide_eq_true ?_⟩
  show PyData.depthAll (ns.map PyData.int) + 1 ≤ 64
  rw [depth_ints]
  decide
theorem eqv_ints (ns : List Int) : PyData.eqv (.list (ns.map PyData.int)) (.list (ns.map PyData.int)) = true := SeqAt.eqv_refl _ (SeqAt.canLay_of_shaped (shaped_ints ns))
theorem dpAll_ints {K : PySem.W.Frag} {H : Hp} : ∀ ns : List Int, DpAll K H (ns.map V.int) (ns.map PyData.int)
  | [] => .nil
  | n :: r => .cons (.int n) (dpAll_ints r)
theorem dp_ints {K : PySem.W.Frag} {H : Hp} {p : Addr} {ns : List Int} (h : SqL K H p (ns.map V.int)) : Dp K H (.ref p) (.list (ns.map PyData.int)) := .lst h (dpAll_ints ns)
theorem cut_mem {xs : List V} {lo hi : Option Int} {x : V} (h : x ∈ cutV xs lo hi) : x ∈ xs := List.mem_of_mem_drop (List.mem_of_mem_take h)
end L2

namespace L2
open PySem PySem.Spec PyProof.Rows
/-! ### stable orders: the items of 0 .. n - 1, by a number each, then by themselves -/
def Lx (f : Nat → Int) (i j : Nat) : Prop := f i < f j ∨ (f i = f j ∧ i < j)
theorem Lx.irr {f : Nat → Int} {i : Nat} : ¬ Lx f i i := fun h => by unfold Lx at h; omega
theorem Lx.asymm {f : Nat → Int} {i j : Nat} (h : Lx f i j) : ¬ Lx f j i := fun h' => by unfold Lx at h h'; omega
theorem Lx.trans {f : Nat → Int} {i j k : Nat} (h : Lx f i j) (h' : Lx f j k) : Lx f i k := by unfold Lx at *; omega
theorem Lx.tri (f : Nat → Int) (i j : Nat) : Lx f i j ∨ i = j ∨ Lx f j i := by unfold Lx; omega
structure Stab (f : Nat → Int) (n : Nat) (os : List Nat) : Prop where
  perm : os.Perm (List.range n)
  sort : os.Pairwise (Lx f)
/-- two rows of the same items that are sorted strictly are one -/
theorem sorted_uniq {α : Type} {R : α → α → Prop} (as : ∀ a b, R a b → ¬ R b a) : ∀ {xs ys : List α}, xs.Perm ys → xs.Pairwise R → ys.Pairwise R → xs = ys
  | [], ys, p, _, _ => (List.Perm.nil_eq p)
  | x :: xs, [], p, _, _ => absurd p.length_eq (by simp)
  | x :: xs, y :: ys, p, hx, hy => by
    have e : x = y := by
      have m1 : x ∈ y :: ys := p.mem_iff.mp (List.mem_cons_self ..)
      have m2 : y ∈ x :: xs := p.mem_iff.mpr (List.mem_cons_self ..)
      rcases List.mem_cons.mp m1 with e | m1
      · exact e
      · rcases List.mem_cons.mp m2 with e | m2
        · exact e.symm
        · exact absurd ((List.pairwise_cons.mp hx).1 y m2) (as _ _ ((List.pairwise_cons.mp hy).1 x m1))
    subst e
    rw [sorted_uniq as p.cons_inv (List.pairwise_cons.mp hx).2 (List.pairwise_cons.mp hy).2]
theorem Stab.uniq {f : Nat → Int} {n : Nat} {as bs : List Nat} (a : Stab f n as) (b : Stab f n bs) : as = bs := sorted_uniq (fun _ _ => Lx.asymm) (a.perm.trans b.perm.symm) a.sort b.sort
theorem Stab.len {f : Nat → Int} {n : Nat} {os : List Nat} (a : Stab f n os) : os.length = n := by
  rw [a.perm.length_eq, List.length_range]
theorem Stab.nodup {f : Nat → Int} {n : Nat} {os : List Nat} (a : Stab f n os) : os.Nodup := a.perm.nodup_iff.mpr List.nodup_range
theorem Stab.lt {f : Nat → Int} {n : Nat} {os : List Nat} (a : Stab f n os) {i : Nat} (h : i ∈ os) : i < n := List.mem_range.mp (a.perm.mem_iff.mp h)
/-- the order hangs on how the numbers stand to one another alone -/
theorem Stab.like {f g : Nat → Int} {n : Nat} {os : List Nat} (a : Stab f n os) (h : ∀ i j, i < n → j < n → (f i < f j ↔ g i < g j)) : Stab g n os := by
  refine ⟨a.perm, ?_⟩
  refine List.Pairwise.imp_of_mem ?_ a.sort
  intro i j hi hj l
  have h1 := h i j (a.lt hi) (a.lt hj)
  have h2 := h j i (a.lt hj) (a.lt hi)
  unfold Lx at *
  omega
/-- what an item counts: its key, with reverse its negative -/
def keyf (ks : List Int) (rev : Bool) (i : Nat) : Int := if rev then -(ks.getD i 0) else ks.getD i 0
/-- the row of items as values -/
abbrev nV (os : List Nat) : List V := os.map fun (i : Nat) => V.int (i : Int)
/-- pairs of the keys' numbers and the items, sorted, give the order -/
theorem stab_of_pairs {f : Nat → Int} {n : Nat} {ps : List (Int × Int)} (p : ps.Perm ((List.range n).map fun (i : Nat) => (f i, (i : Int)))) (s : ps.Pairwise fun x y => ¬ (y.1 < x.1 ∨ (y.1 = x.1 ∧ y.2 < x.2))) :
    ∃ os, Stab f n os ∧ ps = os.map fun (i : Nat) => (f i, (i : Int)) := by
  have hm : ∀ q ∈ ps, q = (f q.2.toNat, (q.2.toNat : Int)) := fun q hq => by
    obtain ⟨i, _, e⟩ := List.mem_map.mp (p.mem_iff.mp hq)
    subst e
    simp
  have e1 : ps = (ps.map fun q => q.2.toNat).map fun (i : Nat) => (f i, (i : Int)) := by
    rw [List.map_map]
    calc ps = ps.map id := (List.map_id ps).symm
      _ = _ := List.map_congr_left fun q hq => hm q hq
  have pm : (ps.map fun q => q.2.toNat).Perm (List.range n) := by
    have q := p.map fun q => q.2.toNat
    rw [List.map_map] at q
    have e : (List.range n).map ((fun q : Int × Int => q.2.toNat) ∘ fun (i : Nat) => (f i, (i : Int))) = List.range n := by
      calc _ = (List.range n).map id := List.map_congr_left fun i _ => by simp
        _ = _ := List.map_id _
    rw [e] at q
    exact q
  refine ⟨ps.map fun q => q.2.toNat, ⟨pm, ?_⟩, e1⟩
  have nd : (ps.map fun q => q.2.toNat).Nodup := pm.nodup_iff.mpr List.nodup_range
  have s2 : (ps.map fun q => q.2.toNat).Pairwise fun i j => ¬ (f j < f i ∨ (f j = f i ∧ j < i)) := by
    rw [e1, List.pairwise_map] at s
    refine s.imp ?_
    intro i j h
    omega
  exact (List.pairwise_and_iff.mpr ⟨s2, nd⟩).imp fun {i j} h => by
    obtain ⟨h1, h2⟩ := h
    unfold Lx
    omega
end L2
namespace L2
open PySem PySem.Spec PyProof.Rows
theorem pe_callN0 {X : Cx} {CX : CXT} {k : Nat} {f : Addr} {fd : FuncData} {ps ks : List Str} {sp : Sp} {E : XK} {x : Str} {p pos : Pos} {kws : List Keyword} {tk : TA} {g : List Value → List Value → List Value} {gV : List V → List V → List V}
    (F : FnOk X.prog X.w X.K X.mg X.base CX k f fd ps sp) (hr : Room k X.A) (hg : Gl X x) (hm : X.mg x = some (.ref f)) (hk : PySem.W.keepIn X.K (.ref f) = true) (hb : KBn X.K fd ps 0 ks g gV) (hx : Passes CX X E)
    (hkw : PK X kws tk) (hall : (backToKw pos (keywordEach kws X.env)).all (·.1.isSome) = true := by rfl) (hks : (backToKw pos (keywordEach kws X.env)).filterMap (·.1) = ks := by rfl)
    (hdb : (x == ("__debug__" : Str)) = false := by decide)
    (hpl : ((backTo pos (starEach [] X.env)).any (·.1) || (backToKw pos (keywordEach kws X.env)).any (·.1.isNone)) = false := by rfl) :
    PE X (.Call (.Name x p) [] kws pos) (fun σ H Q => tk σ H fun zs H2 => zs.length = ks.length ∧ sp (gV [] zs) H2 Q E) := by
  refine ⟨fun pins s σ H Q I h => ?_⟩
  refine wpAny_Call_Name_kw (ld_glob I hg hm ?_ hdb)
  refine PySem.W.callWith_KW0 (h₀ := X.base) I.ok.mod.kin hk hall ?_ hpl
  refine thn (hkw.run pos pins s σ H _ I h) fun ws s2 ⟨zs, H2, I2, rz, l2, q2⟩ => ⟨I2.kIn, ?_⟩
  rw [hks]
  exact run_fnN F hr hb hx I2 .nil rz rfl l2 q2
theorem lc_iteL {K : PySem.W.Frag} {a : Addr} {xs : List V} {g : TG} {tt : TT} {te : TE} {vs : List Nat} {σ : L2.St} {H1 : Hp} {D : Addr} {Qd : Hp → Prop} (Pv : Nat → Hp → Prop) (h0 : Pv 0 (upd H1 D (.lst []))) (hl : ∀ i H, i ≤ xs.length → Pv i H → SqL K H a xs)
    (hs : ∀ i x H T, xs[i]? = some x → Pv i H → H T = none → g (.ref T) (wipe σ vs) (upd H T (.tup [.int (i : Nat), x])) fun σ2 H2 => wipe σ2 vs = wipe σ vs ∧ tt σ2 H2 fun b H3 =>
      if b = true then te σ2 H3 fun y H4 => ∃ acc, H4 D = some (.lst acc) ∧ acc.length < sizeLine ∧ Pv (i + 1) (upd H4 D (.lst (acc ++ [y]))) else Pv (i + 1) H3) (hd : ∀ H, Pv xs.length H → Qd H) :
    ∃ W : Nat → Nat → Hp → Prop, (∃ m, W 0 m (upd H1 D (.lst []))) ∧ ∀ i m H, W i m H →
      ((Ite K a).stop i H ∧ Qd H) ∨ ((Ite K a).go i H ∧ ∃ Nx : Hp → Prop, (∀ H', Nx H' → ∃ m', m' < m ∧ W (i + 1) m' H') ∧ ∀ x H', (Ite K a).yld i H x H' → g x (wipe σ vs) H' fun σ2 H2 => wipe σ2 vs = wipe σ vs ∧ tt σ2 H2 fun b H3 =>
        if b = true then te σ2 H3 fun y H4 => ∃ acc, H4 D = some (.lst acc) ∧ acc.length < sizeLine ∧ Nx (upd H4 D (.lst (acc ++ [y]))) else Nx H3) := by
  refine ⟨fun i m H => m = xs.length - i ∧ i ≤ xs.length ∧ Pv i H, ⟨xs.length, by simp, Nat.zero_le _, h0⟩, ?_⟩
  rintro i m H ⟨rfl, hi, p⟩
  have q := hl i H hi p
  by_cases hlt : i < xs.length
  · refine .inr ⟨⟨xs, xs[i], q, by simp [hlt]⟩, Pv (i + 1), fun H' p' => ⟨xs.length - (i + 1), by omega, rfl, hlt, p'⟩, fun x H' y => ?_⟩
    obtain ⟨T, z, e, nT, eH, f⟩ := y
    subst e eH
    exact hs i z _ T (f xs q) p nT
  · have e : i = xs.length := by omega
    subst e
    exact .inl ⟨⟨xs, q, Nat.le_refl _⟩, hd H p⟩
theorem lc_iteT {K : PySem.W.Frag} {a : Addr} {xs : List V} {g : TG} {tt : TT} {te : TE} {vs : List Nat} {σ : L2.St} {H1 : Hp} {D : Addr} {Qd : Hp → Prop} (Pv : Nat → Hp → Prop) (h0 : Pv 0 (upd H1 D (.lst []))) (hl : ∀ i H, i ≤ xs.length → Pv i H → SqT K H a xs)
    (hs : ∀ i x H T, xs[i]? = some x → Pv i H → H T = none → g (.ref T) (wipe σ vs) (upd H T (.tup [.int (i : Nat), x])) fun σ2 H2 => wipe σ2 vs = wipe σ vs ∧ tt σ2 H2 fun b H3 =>
      if b = true then te σ2 H3 fun y H4 => ∃ acc, H4 D = some (.lst acc) ∧ acc.length < sizeLine ∧ Pv (i + 1) (upd H4 D (.lst (acc ++ [y]))) else Pv (i + 1) H3) (hd : ∀ H, Pv xs.length H → Qd H) :
    ∃ W : Nat → Nat → Hp → Prop, (∃ m, W 0 m (upd H1 D (.lst []))) ∧ ∀ i m H, W i m H →
      ((IteT K a).stop i H ∧ Qd H) ∨ ((IteT K a).go i H ∧ ∃ Nx : Hp → Prop, (∀ H', Nx H' → ∃ m', m' < m ∧ W (i + 1) m' H') ∧ ∀ x H', (IteT K a).yld i H x H' → g x (wipe σ vs) H' fun σ2 H2 => wipe σ2 vs = wipe σ vs ∧ tt σ2 H2 fun b H3 =>
        if b = true then te σ2 H3 fun y H4 => ∃ acc, H4 D = some (.lst acc) ∧ acc.length < sizeLine ∧ Nx (upd H4 D (.lst (acc ++ [y]))) else Nx H3) := by
  refine ⟨fun i m H => m = xs.length - i ∧ i ≤ xs.length ∧ Pv i H, ⟨xs.length, by simp, Nat.zero_le _, h0⟩, ?_⟩
  rintro i m H ⟨rfl, hi, p⟩
  have q := hl i H hi p
  by_cases hlt : i < xs.length
  · refine .inr ⟨⟨xs, xs[i], q, by simp [hlt]⟩, Pv (i + 1), fun H' p' => ⟨xs.length - (i + 1), by omega, rfl, hlt, p'⟩, fun x H' y => ?_⟩
    obtain ⟨T, z, e, nT, eH, f⟩ := y
    subst e eH
    exact hs i z _ T (f xs q) p nT
  · have e : i = xs.length := by omega
    subst e
    exact .inl ⟨⟨xs, q, Nat.le_refl _⟩, hd H p⟩
/-- rows of ints compared -/
theorem eqvAll_ints : ∀ xs ys : List Int, PyData.eqvAll (xs.map PyData.int) (ys.map PyData.int) = decide (xs = ys)
  | [], [] => rfl
  | [], _ :: _ => rfl
  | _ :: _, [] => rfl
  | x :: xs, y :: ys => by
    show (PyData.eqv (.int x) (.int y) && PyData.eqvAll (xs.map PyData.int) (ys.map PyData.int)) = _
    rw [eqvAll_ints xs ys]
    show (x == y && decide (xs = ys)) = _
    by_cases h1 : x = y
    · subst h1
      by_cases h2 : xs = ys
      · subst h2
        simp
      · simp [h2]
    · simp [h1]
theorem eqv_lists (xs ys : List Int) : PyData.eqv (.list (xs.map PyData.int)) (.list (ys.map PyData.int)) = decide (xs = ys) := eqvAll_ints xs ys
theorem nV_map (os : List Nat) : nV os = (os.map fun (i : Nat) => (i : Int)).map V.int := by
  unfold nV
  rw [List.map_map]
  rfl
theorem cast_inj {xs ys : List Nat} : (xs.map fun (i : Nat) => (i : Int)) = (ys.map fun (i : Nat) => (i : Int)) ↔ xs = ys := by
  constructor
  · intro h
    have h2 := congrArg (List.map Int.toNat) h
    rw [List.map_map, List.map_map] at h2
    have e : ∀ l : List Nat, l.map (Int.toNat ∘ fun (i : Nat) => (i : Int)) = l := fun l => by
      calc _ = l.map id := List.map_congr_left fun i _ => by simp
        _ = l := List.map_id l
    rw [e, e] at h2
    exact h2
  · intro h
    rw [h]
end L2
namespace L2
open PySem PySem.Spec PyProof.Rows
theorem cut_take (xs : List V) (k : Nat) : cutV xs none (some (k : Int)) = xs.take k := by
  unfold cutV
  rw [HT.sIx_none, HT.sIx_nat, List.drop_zero, Nat.sub_zero]
  by_cases h : k ≤ xs.length
  · rw [Nat.min_eq_left h]
  · rw [Nat.min_eq_right (by omega), List.take_of_length_le (Nat.le_refl _), List.take_of_length_le (by omega)]
theorem cut_drop (xs : List V) (k : Nat) : cutV xs (some (k : Int)) none = xs.drop k := by
  unfold cutV
  rw [HT.sIx_none, HT.sIx_nat]
  by_cases h : k ≤ xs.length
  · rw [Nat.min_eq_left h]
    exact List.take_of_length_le (by rw [List.length_drop]; exact Nat.le_refl _)
  · rw [Nat.min_eq_right (by omega), List.drop_of_length_le (Nat.le_refl _), List.drop_of_length_le (by omega), List.take_nil]
/-- an item is put in where all ahead are ahead of it and all behind behind it -/
theorem put_stab {f : Nat → Int} {i pl : Nat} {os : List Nat} (s : Stab f i os) (h1 : ∀ x ∈ os.take pl, Lx f x i) (h2 : ∀ x ∈ os.drop pl, Lx f i x) : Stab f (i + 1) (os.take pl ++ [i] ++ os.drop pl) := by
  have e : os.take pl ++ os.drop pl = os := List.take_append_drop pl os
  constructor
  · have p1 : (os.take pl ++ [i] ++ os.drop pl).Perm ((os.take pl ++ os.drop pl) ++ [i]) := by
      rw [List.append_assoc, List.append_assoc]
      exact List.Perm.append_left _ List.perm_append_comm
    rw [e] at p1
    refine p1.trans ?_
    rw [List.range_succ]
    exact s.perm.append_right [i]
  · have so := s.sort
    rw [← e, List.pairwise_append] at so
    rw [List.append_assoc, List.pairwise_append]
    refine ⟨so.1, List.pairwise_cons.mpr ⟨h2, so.2.1⟩, fun x hx y hy => ?_⟩
    rcases List.mem_cons.mp hy with rfl | hy
    · exact h1 x hx
    · exact so.2.2 x hx y hy
end L2

namespace L2
open PySem PySem.Spec PyProof.Rows
/-! ### o[lo:hi] = another list -/
def gSlice (to : TE) (tl th : TO) : TG := fun v σ H Q => to σ H fun o H1 => tl σ H1 fun lo H2 => th σ H2 fun hi H3 =>
  ∃ (l b : Addr) (xs ys : List V) (a c : Int), o = .ref l ∧ v = .ref b ∧ lo = some a ∧ hi = some c ∧ H3 l = some (.lst xs) ∧ H3 b = some (.lst ys) ∧ l ≠ b ∧ 0 ≤ a ∧ a ≤ c ∧ c ≤ xs.length ∧ xs.length + ys.length ≤ sizeLine ∧
    Q σ (upd H3 l (.lst (xs.take a.toNat ++ ys ++ xs.drop c.toNat)))
theorem part_int {u : Value} {i : Int} (h : IsPart u (some i)) : RelV (.int i) u := by
  cases h
  exact ⟨_, rfl⟩
theorem pg_slice {X : Cx} {o : Expr} {lo hi : Option Expr} {to : TE} {tl th : TO} {p2 pos : Pos} (ho : PE X o to) (hl : PO X lo tl) (hu : PO X hi th)
    (ha : ∀ v, assign (.Subscript o (.Slice lo hi none p2) pos) X.env v = (do
      let ov ← holding [v] (eval o X.env)
      let iv ← holding [v, ov] (eval (.Slice lo hi none p2) X.env)
      standAt pos
      holding [v, ov, iv] (setItem ov iv v)
      release [iv, v, ov] []) := by intro _; rfl) : PG X (.Subscript o (.Slice lo hi none p2) pos) (gSlice to tl th) := by
  refine ⟨fun pins s σ H v u Q I r h => ?_⟩
  rw [ha]
  refine wpAny_bind (wpAny_holding (thn (ho.run pins s σ H _ I h) fun ov s1 ⟨x, H1, I1, r1, q1⟩ => ?_))
  refine wpAny_bind (wpAny_holding (wpAny_Slice (thn (hl.run pins s1 σ H1 _ I1 q1) fun vl s2 ⟨l, H2, I2, pl, q2⟩ => thn (hu.run pins s2 σ H2 _ I2 q2) fun vu s3 ⟨w', H3, I3, pu, q3⟩ => ?_)))
  rw [evalPart_none]
  refine wpAny_pure ?_
  have I4 : Inv X pins σ H3 { s3 with heap := s3.heap.push { cls := .type "slice", data := .fields #[vl, vu, .none] } } := I3.kept (t' := s3.toks) fun b ob q => Heap.get?_push_of_some _ q
  obtain ⟨li, b, xs, ys, a, c, rfl, rfl, rfl, rfl, hX, hB, ne, h0, hac, hc, hz, q⟩ := q3
  cases r1
  cases r
  refine wpAny_bind (wpAny_standAt (wpAny_bind (wpAny_holding ?_)))
  refine set_slice I4 hX hB ne (Heap.IsSliceOf.new ..) (part_int pl) (part_int pu) h0 hac hc hz fun s5 I5 => ?_
  exact wpAny_release ⟨σ, _, I5, q⟩
end L2
namespace L2
open PySem PySem.Spec PyProof.Rows
/-! ### how a run is found: the state, step by step -/
structure RF where
  row : List Nat
  pl : Nat
  eq : Nat
  st : Nat
  wt : Option (Nat × Nat)
  ln : Option Nat
namespace RF
def turned (row : List Nat) (lo hi : Nat) : List Nat := row.take lo ++ ((row.drop lo).take (hi - lo)).reverse ++ row.drop hi
def turn (f : RF) (lo : Nat) : RF := { f with row := turned f.row lo f.pl }
def finish (s : Nat) (f : RF) : RF := { f with ln := some (f.pl - s), wt := none }
def turnEq (f : RF) : RF := if 0 < f.eq then { f.turn (f.pl - f.eq - 1) with eq := 0 } else f
def askUp (s e : Nat) (f : RF) : RF := if f.pl < e then { f with wt := some (f.row.getD f.pl 0, f.row.getD (f.pl - 1) 0) } else finish s f
def rise (s e : Nat) (f : RF) : RF := askUp s e { (turnEq f).turn s with st := 5 }
def ask (s e : Nat) (f : RF) : RF := if f.pl < e then { f with wt := some (f.row.getD f.pl 0, f.row.getD (f.pl - 1) 0) } else if f.st = 3 then rise s e f else finish s f
def goOn (s e : Nat) (f : RF) : RF := ask s e { f with pl := f.pl + 1 }
def fall (s e : Nat) (f : RF) : RF := goOn s e { f with st := 3 }
def take1 (s e : Nat) (b : Bool) (f : RF) : RF := if b = false then goOn s e f else if f.pl = s + 1 then fall s e f else { f with st := 2, wt := some (f.row.getD s 0, f.row.getD (f.pl - 1) 0) }
def take2 (s e : Nat) (b : Bool) (f : RF) : RF := if b = true then finish s f else fall s e (f.turn s)
def take3 (s e : Nat) (b : Bool) (f : RF) : RF := if b = true then goOn s e (turnEq f) else { f with st := 4, wt := some (f.row.getD (f.pl - 1) 0, f.row.getD f.pl 0) }
def take4 (s e : Nat) (b : Bool) (f : RF) : RF := if b = true then rise s e f else goOn s e { f with eq := f.eq + 1, st := 3 }
def take5 (s e : Nat) (b : Bool) (f : RF) : RF := if b = true then finish s f else goOn s e f
def take (s e : Nat) (b : Bool) (f : RF) : RF := if f.st = 1 then take1 s e b f else if f.st = 2 then take2 s e b f else if f.st = 3 then take3 s e b f else if f.st = 4 then take4 s e b f else take5 s e b f
def init (row : List Nat) (s e : Nat) : RF := ask s e { row := row, pl := s + 1, eq := 0, st := 1, wt := none, ln := none }
/-- what holds between the steps -/
structure WF (s e : Nat) (f : RF) : Prop where
  sp : s < f.pl
  pe : f.pl ≤ e
  er : e ≤ f.row.length
  eq : f.eq + s < f.pl
  rl : f.row.length ≤ 2000
theorem turned_len {row : List Nat} {lo hi : Nat} (h : lo ≤ hi) (h2 : hi ≤ row.length) : (turned row lo hi).length = row.length := by
  unfold turned
  rw [List.length_append, List.length_append, List.length_take, List.length_reverse, List.length_take, List.length_drop, List.length_drop]
  omega
variable {s e : Nat} {f : RF}
theorem WF.turn (w : WF s e f) {lo : Nat} (h : lo ≤ f.pl) : WF s e (f.turn lo) := by
  obtain ⟨a, b, c, d, g⟩ := w
  have l : (f.turn lo).row.length = f.row.length := turned_len h (by omega)
  exact ⟨a, b, by rw [l]; exact c, d, by rw [l]; exact g⟩
theorem WF.turnEq (w : WF s e f) : WF s e f.turnEq := by
  unfold RF.turnEq
  split
  · have w2 := w.turn (lo := f.pl - f.eq - 1) (by omega)
    exact ⟨w2.sp, w2.pe, w2.er, by show 0 + s < f.pl; have := w.sp; omega, w2.rl⟩
  · exact w
theorem turnEq_pl (f : RF) : f.turnEq.pl = f.pl := by
  unfold RF.turnEq
  split <;> rfl
theorem turnEq_st (f : RF) : f.turnEq.st = f.st := by
  unfold RF.turnEq
  split <;> rfl
end RF
def lenV : Option Nat → V
  | none => .non
  | some n => .int (n : Int)
def flds (r : Addr) (s e : Nat) (f : RF) (wv : V) : List (Str × V) :=
  [("row", .ref r), ("start", .int (s : Int)), ("end", .int (e : Int)), ("place", .int (f.pl : Int)), ("equal", .int (f.eq : Int)), ("step", .int (f.st : Int)), ("waiting", wv), ("length", lenV f.ln)]
def WaitAt (H : Hp) (wv : V) : Option (Nat × Nat) → Prop
  | none => wv = .non
  | some (i, j) => ∃ t, wv = .ref t ∧ H t = some (.tup [.int (i : Int), .int (j : Int)])
theorem WaitAt.keep {H H' : Hp} {wv : V} {o : Option (Nat × Nat)} (h : WaitAt H wv o) (k : ∀ t i j, H t = some (.tup [.int i, .int j]) → H' t = some (.tup [.int i, .int j])) : WaitAt H' wv o := by
  cases o with
  | none => exact h
  | some p =>
    obtain ⟨t, e, ht⟩ := h
    exact ⟨t, e, k _ _ _ ht⟩
theorem WaitAt.upd {H : Hp} {wv : V} {o : Option (Nat × Nat)} {x : Addr} {u v : HO} (h : WaitAt H wv o) (hx : H x = some u) (hn : ∀ i j, u ≠ .tup [.int i, .int j]) : WaitAt (L2.upd H x v) wv o :=
  h.keep fun t i j ht => by
    rw [upd_ne (ne_of ht hx (fun e => hn i j e.symm))]
    exact ht
/-- the finder at x, its row at r -/
def FAt (C : Addr) (H : Hp) (x r : Addr) (s e : Nat) (f : RF) : Prop := x ≠ r ∧ ∃ dx wv, H x = some (.ins C dx (flds r s e f wv)) ∧ WaitAt H wv f.wt ∧ H r = some (.lst (nV f.row))
/-- all but x and r stands -/
def Fr2 (x r : Addr) (H H' : Hp) : Prop := ∀ b o, b ≠ x → b ≠ r → H b = some o → H' b = some o
theorem Fr2.refl (x r : Addr) (H : Hp) : Fr2 x r H H := fun _ _ _ _ h => h
theorem Fr2.trans {x r : Addr} {H H1 H2 : Hp} (a : Fr2 x r H H1) (b : Fr2 x r H1 H2) : Fr2 x r H H2 := fun c o n m h => b c o n m (a c o n m h)
theorem Fr2.of {x r : Addr} {H H' : Hp} (a : Same H H') : Fr2 x r H H' := fun c o _ _ h => a c o h
theorem Fr2.putx {x r : Addr} {H : Hp} {u : HO} : Fr2 x r H (L2.upd H x u) := fun c o n _ h => by rw [upd_ne n]; exact h
theorem Fr2.putr {x r : Addr} {H : Hp} {u : HO} : Fr2 x r H (L2.upd H r u) := fun c o _ m h => by rw [upd_ne m]; exact h
theorem FAt.same {C : Addr} {H H' : Hp} {x r : Addr} {s e : Nat} {f : RF} (h : FAt C H x r s e f) (k : Same H H') : FAt C H' x r s e f := by
  obtain ⟨n, dx, wv, hx, hw, hr⟩ := h
  exact ⟨n, dx, wv, k _ _ hx, hw.keep (fun _ _ _ => k _ _), k _ _ hr⟩
end L2

namespace L2
open PySem PySem.Spec PyProof.Rows
theorem cut_mid (xs : List V) (a b : Nat) (h : a ≤ b) (hb : b ≤ xs.length) : cutV xs (some (a : Int)) (some (b : Int)) = (xs.drop a).take (b - a) := by
  unfold cutV
  rw [HT.sIx_nat, HT.sIx_nat, Nat.min_eq_left hb, Nat.min_eq_left (Nat.le_trans h hb)]
theorem nV_turned (row : List Nat) (lo hi : Nat) : (nV row).take lo ++ (((nV row).drop lo).take (hi - lo)).reverse ++ (nV row).drop hi = nV (RF.turned row lo hi) := by
  unfold RF.turned
  simp only [List.map_append, List.map_take, List.map_drop, List.map_reverse]
theorem nV_get {row : List Nat} {i : Nat} (h : i < row.length) : atI (nV row) (i : Int) = some (.int ((row.getD i 0 : Nat) : Int)) := by
  refine atI_nat ?_
  rw [List.getElem?_map, List.getElem?_eq_getElem h]
  simp [List.getD_eq_getElem?_getD, List.getElem?_eq_getElem h]
theorem FAt.put {C x r : Addr} {H : Hp} {s e : Nat} {f f' : RF} {dx : Addr} {wv wv' : V} (h : FAt C H x r s e f) (hx : H x = some (.ins C dx (flds r s e f wv))) (er : f'.row = f.row) (hw : WaitAt H wv' f'.wt) {w : List (Str × V)} (ew : w = flds r s e f' wv') :
    FAt C (upd H x (.ins C dx w)) x r s e f' := by
  obtain ⟨n, _, _, _, _, hr⟩ := h
  subst ew
  refine ⟨n, dx, wv', upd_same, hw.upd hx (fun i j e => by cases e), ?_⟩
  rw [upd_ne n.symm, er]
  exact hr
/-- an attribute is set -/
theorem FAt.set {C x r : Addr} {H : Hp} {s e : Nat} {f : RF} {dx : Addr} {wv : V} (h : FAt C H x r s e f) (hx : H x = some (.ins C dx (flds r s e f wv))) (f' : RF) (wv' : V) (er : f'.row = f.row) (hw : WaitAt H wv' f'.wt) {w : List (Str × V)} (ew : w = flds r s e f' wv') :
    FAt C (upd H x (.ins C dx w)) x r s e f' ∧ upd H x (.ins C dx w) x = some (.ins C dx (flds r s e f' wv')) ∧ Fr2 x r H (upd H x (.ins C dx w)) := by
  subst ew
  exact ⟨h.put hx er hw rfl, upd_same, Fr2.putx⟩
theorem FAt.wait {C x r : Addr} {H : Hp} {s e : Nat} {f : RF} {dx : Addr} {wv : V} (h : FAt C H x r s e f) (hx : H x = some (.ins C dx (flds r s e f wv))) : WaitAt H wv f.wt := by
  obtain ⟨_, dx2, wv2, hx2, hw, _⟩ := h
  rw [hx] at hx2
  have e1 : flds r s e f wv = flds r s e f wv2 := (HO.ins.inj (Option.some.inj hx2)).2.2
  have e3 : some wv = some wv2 := congrArg (fun l : List (Str × V) => l.lookup ("waiting" : Str)) e1
  rw [Option.some.inj e3]
  exact hw
theorem FAt.putRow {C x r : Addr} {H : Hp} {s e : Nat} {f : RF} (h : FAt C H x r s e f) {row : List Nat} {w : List V} (ew : w = nV row) :
    FAt C (upd H r (.lst w)) x r s e { f with row := row } := by
  obtain ⟨n, dx, wv, hx, hw, hr⟩ := h
  subst ew
  refine ⟨n, dx, wv, ?_, hw.upd hr (fun i j e => by cases e), upd_same⟩
  rw [upd_ne n]
  exact hx
def spF0 (C : Addr) (pre : Nat → Nat → RF → Prop) (fn : Nat → Nat → RF → RF) : Sp := fun vs H Q _ => ∃ (x r : Addr) (s e : Nat) (f : RF), vs = [.ref x] ∧ FAt C H x r s e f ∧ RF.WF s e f ∧ pre s e f ∧ ∀ H', FAt C H' x r s e (fn s e f) → Fr2 x r H H' → Q .non H'
def spG (C : Addr) (fn : Nat → Nat → RF → RF) : Sp := fun vs H Q _ => ∃ (x r : Addr) (s e : Nat) (f : RF), vs = [.ref x] ∧ FAt C H x r s e f ∧ RF.WF s e { f with pl := f.pl + 1 } ∧ ∀ H', FAt C H' x r s e (fn s e f) → Fr2 x r H H' → Q .non H'
def spInit (C : Addr) : Sp := fun vs H Q _ => ∃ (x dx r : Addr) (s e : Nat) (row : List Nat), vs = [.ref x, .ref r, .int (s : Int), .int (e : Int)] ∧ H x = some (.ins C dx []) ∧ H r = some (.lst (nV row)) ∧ x ≠ r ∧ s < e ∧ e ≤ row.length ∧ row.length ≤ 2000 ∧ ∀ H', FAt C H' x r s e (RF.init row s e) → Fr2 x r H H' → Q .non H'
def spF1 (C : Addr) (pre : Nat → Nat → RF → Prop) (fn : Nat → Nat → Bool → RF → RF) : Sp := fun vs H Q _ => ∃ (x r : Addr) (s e : Nat) (f : RF) (b : Bool), vs = [.ref x, .bl b] ∧ FAt C H x r s e f ∧ RF.WF s e f ∧ pre s e f ∧ ∀ H', FAt C H' x r s e (fn s e b f) → Fr2 x r H H' → Q .non H'
def spTurn (C : Addr) : Sp := fun vs H Q _ => ∃ (x r : Addr) (s e lo : Nat) (f : RF), vs = [.ref x, .int (lo : Int)] ∧ FAt C H x r s e f ∧ RF.WF s e f ∧ lo ≤ f.pl ∧ ∀ H', FAt C H' x r s e (f.turn lo) → Fr2 x r H H' → Q .non H'
theorem dnF {n m : Nat} (h : n ≠ m) : V.bl (decide (V.int (n : Int) = V.int (m : Int))) = .bl false := by
  refine congrArg V.bl (decide_eq_false fun e => h ?_)
  have := V.int.inj e
  omega
theorem dnT {n m : Nat} (h : n = m) : V.bl (decide (V.int (n : Int) = V.int (m : Int))) = .bl true := congrArg V.bl (decide_eq_true (by rw [h]))
def noP (_ _ : Nat) (_ : RF) : Prop := True
namespace RF
variable {s e : Nat} {f : RF}
theorem WF.rowSame (w : WF s e f) {f' : RF} (h1 : f'.row = f.row) (h2 : f'.pl = f.pl) (h3 : f'.eq = f.eq) : WF s e f' := by
  obtain ⟨a, b, c, d, g⟩ := w
  exact ⟨by rw [h2]; exact a, by rw [h2]; exact b, by rw [h1]; exact c, by rw [h2, h3]; exact d, by rw [h1]; exact g⟩
theorem WF.finish (w : WF s e f) : WF s e (f.finish s) := w.rowSame rfl rfl rfl
theorem WF.askUp (w : WF s e f) : WF s e (f.askUp s e) := by
  unfold RF.askUp
  split
  · exact w.rowSame rfl rfl rfl
  · exact w.finish
theorem WF.pre5 (w : WF s e f) : WF s e { ((RF.turnEq f).turn s : RF) with st := 5 } := by
  have w1 := w.turnEq
  exact (w1.turn (Nat.le_of_lt w1.sp)).rowSame rfl rfl rfl
theorem WF.rise (w : WF s e f) : WF s e (f.rise s e) := w.pre5.askUp
theorem WF.ask (w : WF s e f) : WF s e (f.ask s e) := by
  unfold RF.ask
  split
  · exact w.rowSame rfl rfl rfl
  · split
    · exact w.rise
    · exact w.finish
theorem WF.next (w : WF s e f) (h : f.pl < e) : WF s e { f with pl := f.pl + 1 } := by
  obtain ⟨a, b, c, d, g⟩ := w
  exact ⟨by show s < f.pl + 1; omega, h, c, by show f.eq + s < f.pl + 1; omega, g⟩
theorem WF.goOn (w : WF s e f) (h : f.pl < e) : WF s e (f.goOn s e) := (w.next h).ask
theorem WF.st (w : WF s e f) (k : Nat) : WF s e { f with st := k } := w.rowSame rfl rfl rfl
theorem WF.fall (w : WF s e f) (h : f.pl < e) : WF s e (f.fall s e) := (w.st 3).goOn h
theorem WF.eq1 (w : WF s e f) (h : f.pl < e) : WF s e { f with eq := f.eq + 1, pl := f.pl + 1, st := 3 } := by
  obtain ⟨a, b, c, d, g⟩ := w
  exact ⟨by show s < f.pl + 1; omega, h, c, by show f.eq + 1 + s < f.pl + 1; omega, g⟩
theorem WF.take (w : WF s e f) (h : f.pl < e) (b : Bool) : WF s e (f.take s e b) := by
  unfold RF.take
  split
  · unfold RF.take1
    split
    · exact w.goOn h
    · split
      · exact w.fall h
      · exact w.rowSame rfl rfl rfl
  · split
    · unfold RF.take2
      split
      · exact w.finish
      · exact (w.turn (Nat.le_of_lt w.sp)).fall h
    · split
      · unfold RF.take3
        split
        · exact w.turnEq.goOn (by rw [turnEq_pl]; exact h)
        · exact w.rowSame rfl rfl rfl
      · split
        · unfold RF.take4
          split
          · exact w.rise
          · exact (w.eq1 h).ask
        · unfold RF.take5
          split
          · exact w.finish
          · exact w.goOn h
/-- what waits is asked ahead of the end -/
def Ahead (e : Nat) (f : RF) : Prop := f.wt ≠ none → f.pl < e
theorem ahead_fin : Ahead e (f.finish s) := fun h => absurd rfl h
theorem ahead_askUp : Ahead e (f.askUp s e) := by
  unfold RF.askUp
  split
  · rename_i h
    exact fun _ => h
  · exact ahead_fin
theorem ahead_ask : Ahead e (f.ask s e) := by
  unfold RF.ask
  split
  · rename_i h
    exact fun _ => h
  · split
    · exact ahead_askUp
    · exact ahead_fin
theorem ahead_take (h : f.pl < e) (b : Bool) : Ahead e (f.take s e b) := by
  unfold RF.take
  split
  · unfold RF.take1
    split
    · exact ahead_ask
    · split
      · exact ahead_ask
      · exact fun _ => h
  · split
    · unfold RF.take2
      split
      · exact ahead_fin
      · exact ahead_ask
    · split
      · unfold RF.take3
        split
        · exact ahead_ask
        · exact fun _ => h
      · split
        · unfold RF.take4
          split
          · exact ahead_askUp
          · exact ahead_ask
        · unfold RF.take5
          split
          · exact ahead_fin
          · exact ahead_ask
end RF
end L2

namespace L2
open PySem PySem.Spec PyProof.Rows
namespace RF
variable {s e : Nat} {f : RF}
/-! rows stay rows of the same items -/
theorem turned_perm {row : List Nat} {lo hi : Nat} (h : lo ≤ hi) : (turned row lo hi).Perm row := by
  unfold turned
  have e1 : row = row.take lo ++ (row.drop lo).take (hi - lo) ++ row.drop hi := by
    have a1 : row.drop hi = (row.drop lo).drop (hi - lo) := by
      rw [List.drop_drop]
      congr 1
      omega
    rw [a1, List.append_assoc, List.take_append_drop, List.take_append_drop]
  have e2 : (row.take lo ++ ((row.drop lo).take (hi - lo)).reverse ++ row.drop hi).Perm (row.take lo ++ (row.drop lo).take (hi - lo) ++ row.drop hi) :=
    List.Perm.append_right _ (List.Perm.append_left _ (List.reverse_perm _))
  exact e2.trans (by rw [← e1])
theorem turn_perm (lo : Nat) (h : lo ≤ f.pl) : (f.turn lo).row.Perm f.row := turned_perm h
theorem turnEq_perm : f.turnEq.row.Perm f.row := by
  unfold RF.turnEq
  split
  · exact turned_perm (by omega)
  · exact List.Perm.refl _
theorem askUp_row : (f.askUp s e).row = f.row := by
  unfold RF.askUp
  split <;> rfl
theorem rise_perm (w : WF s e f) : (f.rise s e).row.Perm f.row := by
  unfold RF.rise
  rw [askUp_row]
  have w1 := w.turnEq
  exact (turn_perm s (Nat.le_of_lt w1.sp)).trans turnEq_perm
theorem ask_perm (w : WF s e f) : (f.ask s e).row.Perm f.row := by
  unfold RF.ask
  split
  · exact List.Perm.refl _
  · split
    · exact rise_perm w
    · exact List.Perm.refl _
theorem take_perm (w : WF s e f) (h : f.pl < e) (b : Bool) : (f.take s e b).row.Perm f.row := by
  unfold RF.take
  split
  · unfold RF.take1
    split
    · exact ask_perm (w.next h)
    · split
      · exact ask_perm ((w.st 3).next h)
      · exact List.Perm.refl _
  · split
    · unfold RF.take2
      split
      · exact List.Perm.refl _
      · exact (ask_perm (((w.turn (Nat.le_of_lt w.sp)).st 3).next h)).trans (turn_perm s (Nat.le_of_lt w.sp))
    · split
      · unfold RF.take3
        split
        · exact (ask_perm (w.turnEq.next (by rw [turnEq_pl]; exact h))).trans turnEq_perm
        · exact List.Perm.refl _
      · split
        · unfold RF.take4
          split
          · exact rise_perm w
          · exact ask_perm (w.eq1 h)
        · unfold RF.take5
          split
          · exact List.Perm.refl _
          · exact ask_perm (w.next h)
/-! a measure: how many questions may still come -/
def stw (k : Nat) : Nat := if k = 1 then 1 else if k = 3 then 2 else if k = 4 then 1 else 0
theorem stw_le (k : Nat) : stw k ≤ 2 := by
  unfold stw
  split
  · omega
  · split
    · omega
    · split <;> omega
def mu (e : Nat) (f : RF) : Nat := if f.wt = none then 0 else 1 + 3 * (e - f.pl) + stw f.st
theorem mu_le (e : Nat) (f : RF) : mu e f ≤ 1 + 3 * (e - f.pl) + stw f.st := by
  unfold mu
  split <;> omega
theorem mu_fin : mu e (f.finish s) = 0 := rfl
theorem mu_askUp : mu e (f.askUp s e) ≤ 1 + 3 * (e - f.pl) + stw f.st := by
  unfold RF.askUp
  split
  · exact mu_le e _
  · rw [mu_fin]
    omega
theorem rise_pl : (f.turnEq.turn s).pl = f.pl := turnEq_pl f
theorem mu_rise : mu e (f.rise s e) ≤ 1 + 3 * (e - f.pl) := by
  unfold RF.rise
  refine Nat.le_trans mu_askUp ?_
  show 1 + 3 * (e - (f.turnEq.turn s).pl) + 0 ≤ _
  rw [rise_pl]
  omega
theorem mu_ask : mu e (f.ask s e) ≤ 1 + 3 * (e - f.pl) + stw f.st := by
  unfold RF.ask
  split
  · exact mu_le e _
  · split
    · have := mu_rise (s := s) (e := e) (f := f)
      omega
    · rw [mu_fin]
      omega
theorem mu_goOn : mu e (f.goOn s e) ≤ 1 + 3 * (e - (f.pl + 1)) + stw f.st := mu_ask
theorem mu_fall : mu e (f.fall s e) ≤ 1 + 3 * (e - (f.pl + 1)) + 2 := mu_ask
theorem mu_take (hw : f.wt ≠ none) (h : f.pl < e) (b : Bool) : mu e (f.take s e b) < mu e f := by
  have h0 : mu e f = 1 + 3 * (e - f.pl) + stw f.st := by
    unfold mu
    rw [if_neg hw]
  rw [h0]
  unfold RF.take
  split
  · rename_i h1
    rw [show stw f.st = 1 by rw [h1]; rfl]
    unfold RF.take1
    split
    · have := mu_goOn (s := s) (e := e) (f := f)
      rw [show stw f.st = 1 by rw [h1]; rfl] at this
      omega
    · split
      · have := mu_fall (s := s) (e := e) (f := f)
        omega
      · have := mu_le e { f with st := 2, wt := some (f.row.getD s 0, f.row.getD (f.pl - 1) 0) }
        have e2 : stw ({ f with st := 2, wt := some (f.row.getD s 0, f.row.getD (f.pl - 1) 0) } : RF).st = 0 := rfl
        rw [e2] at this
        have e3 : ({ f with st := 2, wt := some (f.row.getD s 0, f.row.getD (f.pl - 1) 0) } : RF).pl = f.pl := rfl
        rw [e3] at this
        omega
  · split
    · rename_i h1
      unfold RF.take2
      split
      · rw [mu_fin]
        omega
      · have := mu_fall (s := s) (e := e) (f := f.turn s)
        have e3 : (f.turn s).pl = f.pl := rfl
        rw [e3] at this
        omega
    · split
      · rename_i h1
        rw [show stw f.st = 2 by rw [h1]; rfl]
        unfold RF.take3
        split
        · have := mu_goOn (s := s) (e := e) (f := f.turnEq)
          rw [turnEq_pl, turnEq_st, show stw f.st = 2 by rw [h1]; rfl] at this
          omega
        · have := mu_le e { f with st := 4, wt := some (f.row.getD (f.pl - 1) 0, f.row.getD f.pl 0) }
          have e2 : stw ({ f with st := 4, wt := some (f.row.getD (f.pl - 1) 0, f.row.getD f.pl 0) } : RF).st = 1 := rfl
          rw [e2] at this
          have e3 : ({ f with st := 4, wt := some (f.row.getD (f.pl - 1) 0, f.row.getD f.pl 0) } : RF).pl = f.pl := rfl
          rw [e3] at this
          omega
      · split
        · rename_i h1
          rw [show stw f.st = 1 by rw [h1]; rfl]
          unfold RF.take4
          split
          · have := mu_rise (s := s) (e := e) (f := f)
            omega
          · have := mu_goOn (s := s) (e := e) (f := { f with eq := f.eq + 1, st := 3 })
            have e2 : stw ({ f with eq := f.eq + 1, st := 3 } : RF).st = 2 := rfl
            rw [e2] at this
            have e3 : ({ f with eq := f.eq + 1, st := 3 } : RF).pl = f.pl := rfl
            rw [e3] at this
            omega
        · unfold RF.take5
          split
          · rw [mu_fin]
            omega
          · have := mu_goOn (s := s) (e := e) (f := f)
            omega
/-! what waits are two items of the row -/
def Two (f : RF) : Prop := ∀ q, f.wt = some q → ∃ k l, q = (f.row.getD k 0, f.row.getD l 0) ∧ k < f.row.length ∧ l < f.row.length ∧ k ≠ l
theorem two_none (h : f.wt = none) : Two f := fun q e => by rw [h] at e; cases e
theorem two_mk {f : RF} {k l : Nat} (h : f.wt = some (f.row.getD k 0, f.row.getD l 0)) (h1 : k < f.row.length) (h2 : l < f.row.length) (h3 : k ≠ l) : Two f := fun q e => by
  rw [h] at e
  exact ⟨k, l, (Option.some.inj e).symm, h1, h2, h3⟩
theorem two_up {f' : RF} (a : 0 < f'.pl) (c : e ≤ f'.row.length) : Two (f'.askUp s e) := by
  unfold RF.askUp
  split
  · rename_i h
    exact two_mk (k := f'.pl) (l := f'.pl - 1) rfl (by show f'.pl < f'.row.length; omega) (by show f'.pl - 1 < f'.row.length; omega) (by omega)
  · exact two_none rfl
theorem two_rise (w : WF s e f) : Two (f.rise s e) := by
  have w2 := w.pre5
  exact two_up (Nat.lt_of_le_of_lt (Nat.zero_le _) w2.sp) w2.er
theorem two_ask (w : WF s e f) : Two (f.ask s e) := by
  have := w.sp; have := w.er
  unfold RF.ask
  split
  · rename_i h
    exact two_mk (k := f.pl) (l := f.pl - 1) rfl (by show f.pl < f.row.length; omega) (by show f.pl - 1 < f.row.length; omega) (by omega)
  · split
    · exact two_rise w
    · exact two_none rfl
theorem two_take (w : WF s e f) (h : f.pl < e) (b : Bool) : Two (f.take s e b) := by
  have b1 := w.sp; have b2 := w.er
  unfold RF.take
  split
  · unfold RF.take1
    split
    · exact two_ask (w.next h)
    · split
      · exact two_ask ((w.st 3).next h)
      · exact two_mk (k := s) (l := f.pl - 1) rfl (by show s < f.row.length; omega) (by show f.pl - 1 < f.row.length; omega) (by omega)
  · split
    · unfold RF.take2
      split
      · exact two_none rfl
      · exact two_ask (((w.turn (Nat.le_of_lt w.sp)).st 3).next h)
    · split
      · unfold RF.take3
        split
        · exact two_ask (w.turnEq.next (by rw [turnEq_pl]; exact h))
        · exact two_mk (k := f.pl - 1) (l := f.pl) rfl (by show f.pl - 1 < f.row.length; omega) (by show f.pl < f.row.length; omega) (by omega)
      · split
        · unfold RF.take4
          split
          · exact two_rise w
          · exact two_ask (w.eq1 h)
        · unfold RF.take5
          split
          · exact two_none rfl
          · exact two_ask (w.next h)
/-! the length is there when nothing waits -/
def Len (s : Nat) (f : RF) : Prop := (f.wt = none → f.ln = some (f.pl - s)) ∧ (f.wt ≠ none → f.ln = none)
theorem len_fin : Len s (f.finish s) := ⟨fun _ => rfl, fun h => absurd rfl h⟩
theorem len_some {f : RF} {q : Nat × Nat} (h : f.wt = some q) (h2 : f.ln = none) : Len s f := ⟨fun e => (by rw [h] at e; cases e), fun _ => h2⟩
theorem turnEq_ln (f : RF) : f.turnEq.ln = f.ln := by
  unfold RF.turnEq
  split <;> rfl
theorem len_up {f' : RF} (h : f'.ln = none) : Len s (f'.askUp s e) := by
  unfold RF.askUp
  split
  · exact len_some rfl h
  · exact len_fin
theorem len_rise (h : f.ln = none) : Len s (f.rise s e) := len_up (by show f.turnEq.ln = none; rw [turnEq_ln]; exact h)
theorem len_ask {f : RF} (h : f.ln = none) : Len s (f.ask s e) := by
  unfold RF.ask
  split
  · exact len_some rfl h
  · split
    · exact len_rise h
    · exact len_fin
theorem len_take (h : f.ln = none) (b : Bool) : Len s (f.take s e b) := by
  unfold RF.take
  split
  · unfold RF.take1
    split
    · exact len_ask h
    · split
      · exact len_ask h
      · exact len_some rfl h
  · split
    · unfold RF.take2
      split
      · exact len_fin
      · exact len_ask h
    · split
      · unfold RF.take3
        split
        · exact len_ask (by show f.turnEq.ln = none; rw [turnEq_ln]; exact h)
        · exact len_some rfl h
      · split
        · unfold RF.take4
          split
          · exact len_rise h
          · exact len_ask h
        · unfold RF.take5
          split
          · exact len_fin
          · exact len_ask h
/-! all that holds while a run is found -/
structure Good (s e : Nat) (row0 : List Nat) (f : RF) : Prop where
  wf : WF s e f
  ah : Ahead e f
  pm : f.row.Perm row0
  tw : Two f
  le : Len s f
/-- an item of a row of all n -/
theorem item_lt {row row0 : List Nat} {n k : Nat} (h : row.Perm row0) (h0 : row0.Perm (List.range n)) (hk : k < row.length) : row.getD k 0 < n := by
  refine List.mem_range.mp ((h.trans h0).mem_iff.mp ?_)
  rw [List.getD_eq_getElem?_getD, List.getElem?_eq_getElem hk]
  exact List.getElem_mem hk
theorem Good.items {row0 : List Nat} {n : Nat} (g : Good s e row0 f) (h0 : row0.Perm (List.range n)) {q : Nat × Nat} (h : f.wt = some q) : q.1 < n ∧ q.2 < n ∧ q.1 ≠ q.2 := by
  obtain ⟨k, l, rfl, h1, h2, h3⟩ := g.tw q h
  refine ⟨item_lt g.pm h0 h1, item_lt g.pm h0 h2, fun e => h3 ?_⟩
  have nd : f.row.Nodup := (g.pm.trans h0).nodup_iff.mpr List.nodup_range
  have e2 : f.row.getD k 0 = f.row.getD l 0 := e
  rw [List.getD_eq_getElem?_getD, List.getD_eq_getElem?_getD, List.getElem?_eq_getElem h1, List.getElem?_eq_getElem h2] at e2
  exact (List.getElem_inj nd).mp e2
theorem Good.take {row0 : List Nat} (g : Good s e row0 f) (h : f.wt ≠ none) (b : Bool) : Good s e row0 (f.take s e b) :=
  ⟨g.wf.take (g.ah h) b, ahead_take (g.ah h) b, (take_perm g.wf (g.ah h) b).trans g.pm, two_take g.wf (g.ah h) b, len_take (g.le.2 h) b⟩
theorem Good.init {row : List Nat} (h1 : s < e) (h2 : e ≤ row.length) (h3 : row.length ≤ 2000) : Good s e row (RF.init row s e) := by
  have w : WF s e { row := row, pl := s + 1, eq := 0, st := 1, wt := none, ln := none } := ⟨by show s < s + 1; omega, by show s + 1 ≤ e; omega, h2, by show 0 + s < s + 1; omega, h3⟩
  exact ⟨w.ask, ahead_ask, ask_perm w, two_ask w, len_ask rfl⟩
/-- one question more, answered as ls says -/
def stp (ls : Nat × Nat → Bool) (s e : Nat) (f : RF) : RF := match f.wt with
  | none => f
  | some q => f.take s e (ls q)
def stps (ls : Nat × Nat → Bool) (s e : Nat) (f : RF) : Nat → RF
  | 0 => f
  | n + 1 => stp ls s e (stps ls s e f n)
theorem Good.stp {row0 : List Nat} (ls : Nat × Nat → Bool) (g : Good s e row0 f) : Good s e row0 (f.stp ls s e) := by
  unfold RF.stp
  split
  · exact g
  · rename_i q h
    exact g.take (by rw [h]; exact Option.some_ne_none _) _
theorem Good.stps {row0 : List Nat} (ls : Nat × Nat → Bool) (g : Good s e row0 f) : ∀ n, Good s e row0 (f.stps ls s e n)
  | 0 => g
  | n + 1 => (Good.stps ls g n).stp ls
theorem stps_next {ls : Nat × Nat → Bool} {n : Nat} {q : Nat × Nat} (h : (f.stps ls s e n).wt = some q) : f.stps ls s e (n + 1) = (f.stps ls s e n).take s e (ls q) := by
  show RF.stp ls s e (f.stps ls s e n) = _
  unfold RF.stp
  rw [h]
theorem stps_end {ls : Nat × Nat → Bool} {n : Nat} (h : (f.stps ls s e n).wt = none) : f.stps ls s e (n + 1) = f.stps ls s e n := by
  show RF.stp ls s e (f.stps ls s e n) = _
  unfold RF.stp
  rw [h]
theorem stps_stay {ls : Nat × Nat → Bool} {n : Nat} (h : (f.stps ls s e n).wt = none) : ∀ k, f.stps ls s e (n + k) = f.stps ls s e n
  | 0 => rfl
  | k + 1 => by
    have ih := stps_stay h k
    show RF.stps ls s e f ((n + k) + 1) = _
    rw [stps_end (by rw [ih]; exact h), ih]
/-- the first n questions -/
def asks (ls : Nat × Nat → Bool) (s e : Nat) (f : RF) (n : Nat) : List (Nat × Nat) := (List.range n).map fun i => ((f.stps ls s e i).wt).getD (0, 0)
theorem asks_len (ls : Nat × Nat → Bool) (n : Nat) : (f.asks ls s e n).length = n := by
  unfold asks
  rw [List.length_map, List.length_range]
theorem asks_next {ls : Nat × Nat → Bool} {n : Nat} {q : Nat × Nat} (h : (f.stps ls s e n).wt = some q) : f.asks ls s e (n + 1) = f.asks ls s e n ++ [q] := by
  unfold asks
  rw [List.range_succ, List.map_append, List.map_singleton, h]
  rfl
theorem asks_at {ls : Nat × Nat → Bool} {n i : Nat} (h : i < n) : (f.asks ls s e n)[i]? = some (((f.stps ls s e i).wt).getD (0, 0)) := by
  unfold asks
  rw [List.getElem?_map, List.getElem?_range h]
  rfl
end RF
/-- by the keys -/
def less (ns : List Int) (q : Nat × Nat) : Bool := decide (ns.getD q.1 0 < ns.getD q.2 0)
/-- questions, tuples of two items each, in a list -/
def PairAt (H : Hp) (v : V) (q : Nat × Nat) : Prop := ∃ t, v = .ref t ∧ H t = some (.tup [.int (q.1 : Int), .int (q.2 : Int)])
def QAt (H : Hp) (l : Addr) (qs : List (Nat × Nat)) : Prop := ∃ ts : List V, H l = some (.lst ts) ∧ ts.length = qs.length ∧ ∀ (i : Nat) (v : V) (q : Nat × Nat), ts[i]? = some v → qs[i]? = some q → PairAt H v q
theorem PairAt.keep {H H' : Hp} {v : V} {q : Nat × Nat} (h : PairAt H v q) (k : ∀ t i j, H t = some (.tup [.int i, .int j]) → H' t = some (.tup [.int i, .int j])) : PairAt H' v q := by
  obtain ⟨t, e, g⟩ := h
  exact ⟨t, e, k _ _ _ g⟩
theorem QAt.keep {H H' : Hp} {l : Addr} {qs : List (Nat × Nat)} (h : QAt H l qs) (kl : ∀ x, H l = some x → H' l = some x) (k : ∀ t i j, H t = some (.tup [.int i, .int j]) → H' t = some (.tup [.int i, .int j])) : QAt H' l qs := by
  obtain ⟨ts, g, n, a⟩ := h
  exact ⟨ts, kl _ g, n, fun i v q h1 h2 => (a i v q h1 h2).keep k⟩
theorem QAt.same {H H' : Hp} {l : Addr} {qs : List (Nat × Nat)} (h : QAt H l qs) (k : Same H H') : QAt H' l qs := h.keep (fun _ => k _ _) (fun _ _ _ => k _ _)
theorem QAt.nil {H : Hp} {l : Addr} (h : H l = some (.lst [])) : QAt H l [] := ⟨[], h, rfl, fun i v q h1 => by simp at h1⟩
theorem QAt.push {H : Hp} {l : Addr} {qs : List (Nat × Nat)} {ts : List V} (h : H l = some (.lst ts)) (hq : QAt H l qs) {v : V} {q : Nat × Nat} (hv : PairAt H v q) : QAt (upd H l (.lst (ts ++ [v]))) l (qs ++ [q]) := by
  obtain ⟨ts', g, n, a⟩ := hq
  rw [h] at g
  cases g
  have k : ∀ t i j, H t = some (.tup [.int i, .int j]) → upd H l (.lst (ts ++ [v])) t = some (.tup [.int i, .int j]) := fun t i j ht => by
    rw [upd_ne (ne_of ht h (fun e => by cases e))]
    exact ht
  refine ⟨ts ++ [v], upd_same, by simp [n], fun i v' q' h1 h2 => ?_⟩
  by_cases hi : i < ts.length
  · rw [List.getElem?_append_left hi] at h1
    rw [List.getElem?_append_left (by omega)] at h2
    exact (a i v' q' h1 h2).keep k
  · rw [List.getElem?_append_right (by omega)] at h1
    rw [List.getElem?_append_right (by omega)] at h2
    have e0 : i - ts.length = 0 := by
      cases e1 : i - ts.length with
      | zero => rfl
      | succ m =>
        rw [e1] at h1
        simp at h1
    have e0' : i - qs.length = 0 := by omega
    rw [e0] at h1
    rw [e0'] at h2
    cases h1
    cases h2
    exact hv.keep k
end L2

namespace L2
open PySem PySem.Spec PyProof.Rows
/-! ### the law's own walk -/
structure WS where
  row : List Nat
  pl : Nat
  eq : Nat
  st : Nat
namespace WS
def fallRow (w : WS) : List Nat := RF.turned (if 0 < w.eq then RF.turned w.row (w.pl - w.eq - 1) w.pl else w.row) 0 w.pl
def fall (w : WS) : WS := { w with row := fallRow w }
def ans (b : Bool) (w : WS) : WS :=
  if w.st = 1 ∧ b = true then { w with st := if 1 < w.pl then 2 else 3, pl := w.pl + (if w.pl = 1 then 1 else 0) }
  else if w.st = 2 ∧ b = true then { w with st := 0 }
  else if w.st = 2 then { w with row := RF.turned w.row 0 w.pl, st := 3, pl := w.pl + 1 }
  else if w.st = 3 ∧ b = true then { w with row := if 0 < w.eq then RF.turned w.row (w.pl - w.eq - 1) w.pl else w.row, eq := 0, pl := w.pl + 1 }
  else if w.st = 3 then { w with st := 4 }
  else if w.st = 4 ∧ b = true then { w with row := fallRow w, st := 5 }
  else if w.st = 4 then { w with st := 3, eq := w.eq + 1, pl := w.pl + 1 }
  else if b = true then { w with st := 0 }
  else { w with pl := w.pl + 1 }
def lk (size : Nat) (w : WS) : Option (Nat × Nat) :=
  if w.st = 2 then some (w.row.getD 0 0, w.row.getD (w.pl - 1) 0)
  else if w.st = 4 then some (w.row.getD (w.pl - 1) 0, w.row.getD w.pl 0)
  else if w.pl < size then some (w.row.getD w.pl 0, w.row.getD (w.pl - 1) 0) else none
/-- the walk's state behind a look that finds no question -/
def past (size : Nat) (w : WS) : WS := if w.st = 3 then { w with row := fallRow w, st := 5 } else { w with st := 0 }
/-- how the walk stands to the finder: 3 a question waits, 2 and 1 and 0 the end is told in so many turns -/
def At (size : Nat) (w : WS) (f : RF) : Nat → Prop
  | 3 => ∃ q, f.wt = some q ∧ w.row = f.row ∧ w.pl = f.pl ∧ w.st = f.st ∧ 1 ≤ w.st ∧ w.st ≤ 5 ∧ (w.st ≠ 5 → w.eq = f.eq) ∧ lk size w = some q
  | 2 => f.wt = none ∧ w.st = 3 ∧ size ≤ w.pl ∧ w.pl = f.pl ∧ fallRow w = f.row
  | 1 => f.wt = none ∧ (w.st = 1 ∨ w.st = 5) ∧ size ≤ w.pl ∧ w.pl = f.pl ∧ w.row = f.row
  | 0 => f.wt = none ∧ w.st = 0 ∧ w.pl = f.pl ∧ w.row = f.row
  | _ => False
theorem at_ask {size : Nat} {w : WS} {f : RF} (h1 : w.row = f.row) (h2 : w.pl = f.pl) (h3 : w.st = f.st) (h4 : w.st = 1 ∨ w.st = 3 ∨ w.st = 5) (h5 : w.st ≠ 5 → w.eq = f.eq) : ∃ t, t ≤ 3 ∧ At size w (f.ask 0 size) t := by
  unfold RF.ask
  by_cases hp : f.pl < size
  · rw [if_pos hp]
    refine ⟨3, Nat.le_refl _, _, rfl, h1, h2, h3, by omega, by omega, h5, ?_⟩
    unfold lk
    rw [if_neg (by omega), if_neg (by omega), if_pos (by omega), h1, h2]
  · rw [if_neg hp]
    by_cases h : f.st = 3
    · rw [if_pos h]
      have e1 : f.rise 0 size = RF.finish 0 { (f.turnEq.turn 0 : RF) with st := 5 } := by
        unfold RF.rise RF.askUp
        rw [if_neg (by show ¬ f.turnEq.pl < size; rw [RF.turnEq_pl]; exact hp)]
      rw [e1]
      refine ⟨2, by omega, rfl, by omega, by omega, ?_, ?_⟩
      · show w.pl = f.turnEq.pl
        rw [RF.turnEq_pl, h2]
      · show fallRow w = RF.turned f.turnEq.row 0 f.turnEq.pl
        rw [RF.turnEq_pl]
        unfold fallRow RF.turnEq
        rw [h1, h2, h5 (by omega)]
        by_cases h0 : 0 < f.eq
        · rw [if_pos h0, if_pos h0]
          rfl
        · rw [if_neg h0, if_neg h0]
    · rw [if_neg h]
      exact ⟨1, by omega, rfl, by omega, by omega, h2, h1⟩
theorem at_ans {size : Nat} {w : WS} {f : RF} (hf : 0 < f.pl) (h : At size w f 3) (b : Bool) : ∃ t, t ≤ 3 ∧ At size (w.ans b) (f.take 0 size b) t := by
  obtain ⟨q, hq, h1, h2, h3, h4, h5, h6, h7⟩ := h
  unfold ans RF.take
  by_cases s1 : w.st = 1
  · rw [if_pos (show f.st = 1 by omega)]
    unfold RF.take1
    cases b with
    | false =>
      rw [if_neg (by simp), if_neg (by simp), if_neg (by omega), if_neg (by simp), if_neg (by omega), if_neg (by simp), if_neg (by omega), if_neg (by simp), if_pos rfl]
      exact at_ask (w := { w with pl := w.pl + 1 }) (f := { f with pl := f.pl + 1 }) h1 (by show w.pl + 1 = f.pl + 1; omega) h3 (.inl s1) h6
    | true =>
      rw [if_pos ⟨s1, rfl⟩, if_neg (show ¬ (true = false) by decide)]
      by_cases hp : f.pl = 0 + 1
      · rw [if_pos hp, if_neg (show ¬ 1 < w.pl by omega), if_pos (show w.pl = 1 by omega)]
        exact at_ask (w := { w with st := 3, pl := w.pl + 1 }) (f := { f with st := 3, pl := f.pl + 1 }) h1 (by show w.pl + 1 = f.pl + 1; omega) rfl (.inr (.inl rfl)) (fun _ => h6 (by omega))
      · rw [if_neg hp, if_pos (show 1 < w.pl by omega), if_neg (show ¬ w.pl = 1 by omega)]
        refine ⟨3, Nat.le_refl _, _, rfl, h1, h2, rfl, by show 1 ≤ 2; omega, by show 2 ≤ 5; omega, fun _ => h6 (by omega), ?_⟩
        unfold lk
        rw [if_pos rfl, h1, Nat.add_zero, h2]
  rw [if_neg (fun e => s1 e.1), if_neg (show ¬ f.st = 1 by omega)]
  by_cases s2 : w.st = 2
  · rw [if_pos (show f.st = 2 by omega)]
    unfold RF.take2
    cases b with
    | true =>
      rw [if_pos ⟨s2, rfl⟩, if_pos rfl]
      exact ⟨0, by omega, rfl, rfl, h2, h1⟩
    | false =>
      rw [if_neg (by simp), if_pos s2, if_neg (by simp)]
      exact at_ask (w := { w with row := RF.turned w.row 0 w.pl, st := 3, pl := w.pl + 1 }) (f := { (f.turn 0 : RF) with st := 3, pl := (f.turn 0).pl + 1 }) (by show RF.turned w.row 0 w.pl = RF.turned f.row 0 f.pl; rw [h1, h2]) (by show w.pl + 1 = f.pl + 1; omega) rfl (.inr (.inl rfl)) (fun _ => h6 (by omega))
  rw [if_neg (fun e => s2 e.1), if_neg s2, if_neg (show ¬ f.st = 2 by omega)]
  by_cases s3 : w.st = 3
  · rw [if_pos (show f.st = 3 by omega)]
    unfold RF.take3
    cases b with
    | true =>
      rw [if_pos ⟨s3, rfl⟩, if_pos rfl]
      refine at_ask (w := { w with row := if 0 < w.eq then RF.turned w.row (w.pl - w.eq - 1) w.pl else w.row, eq := 0, pl := w.pl + 1 }) (f := { (f.turnEq : RF) with pl := f.turnEq.pl + 1 }) ?_ (by show w.pl + 1 = f.turnEq.pl + 1; rw [RF.turnEq_pl, h2]) (by show w.st = f.turnEq.st; rw [RF.turnEq_st, h3]) (.inr (.inl s3)) (fun _ => ?_)
      · show (if 0 < w.eq then RF.turned w.row (w.pl - w.eq - 1) w.pl else w.row) = f.turnEq.row
        unfold RF.turnEq
        rw [h1, h2, h6 (by omega)]
        by_cases h0 : 0 < f.eq
        · rw [if_pos h0, if_pos h0]
          rfl
        · rw [if_neg h0, if_neg h0]
      · show 0 = f.turnEq.eq
        unfold RF.turnEq
        by_cases h0 : 0 < f.eq
        · rw [if_pos h0]
        · rw [if_neg h0]
          omega
    | false =>
      rw [if_neg (by simp), if_pos s3, if_neg (by simp)]
      refine ⟨3, Nat.le_refl _, _, rfl, h1, h2, rfl, by show 1 ≤ 4; omega, by show 4 ≤ 5; omega, fun _ => h6 (by omega), ?_⟩
      unfold lk
      rw [if_neg (by show ¬ 4 = 2; decide), if_pos rfl, h1, h2]
  rw [if_neg (fun e => s3 e.1), if_neg s3, if_neg (show ¬ f.st = 3 by omega)]
  by_cases s4 : w.st = 4
  · rw [if_pos (show f.st = 4 by omega)]
    unfold RF.take4
    cases b with
    | true =>
      rw [if_pos ⟨s4, rfl⟩, if_pos rfl]
      have e1 : f.rise 0 size = RF.ask 0 size { (f.turnEq.turn 0 : RF) with st := 5 } := by
        unfold RF.rise RF.askUp RF.ask
        rw [if_neg (show ¬ ({ (f.turnEq.turn 0 : RF) with st := 5 } : RF).st = 3 by show ¬ 5 = 3; decide)]
      rw [e1]
      refine at_ask (w := { w with row := fallRow w, st := 5 }) (f := { (f.turnEq.turn 0 : RF) with st := 5 }) ?_ (by show w.pl = f.turnEq.pl; rw [RF.turnEq_pl, h2]) rfl (.inr (.inr rfl)) (fun e => absurd rfl e)
      show fallRow w = RF.turned f.turnEq.row 0 f.turnEq.pl
      rw [RF.turnEq_pl]
      unfold fallRow RF.turnEq
      rw [h1, h2, h6 (by omega)]
      by_cases h0 : 0 < f.eq
      · rw [if_pos h0, if_pos h0]
        rfl
      · rw [if_neg h0, if_neg h0]
    | false =>
      rw [if_neg (by simp), if_pos s4, if_neg (by simp)]
      exact at_ask (w := { w with st := 3, eq := w.eq + 1, pl := w.pl + 1 }) (f := { f with eq := f.eq + 1, st := 3, pl := f.pl + 1 }) h1 (by show w.pl + 1 = f.pl + 1; omega) rfl (.inr (.inl rfl)) (fun _ => by show w.eq + 1 = f.eq + 1; rw [h6 (by omega)])
  rw [if_neg (fun e => s4 e.1), if_neg s4, if_neg (show ¬ f.st = 4 by omega)]
  unfold RF.take5
  cases b with
  | true =>
    rw [if_pos rfl, if_pos rfl]
    exact ⟨0, by omega, rfl, rfl, h2, h1⟩
  | false =>
    rw [if_neg (by simp), if_neg (by simp)]
    exact at_ask (w := { w with pl := w.pl + 1 }) (f := { f with pl := f.pl + 1 }) h1 (by show w.pl + 1 = f.pl + 1; omega) h3 (.inr (.inr (by show w.st = 5; omega))) h6
/-- what the walk keeps between its steps -/
structure Ok (w : WS) : Prop where
  p1 : 0 < w.pl
  pl : w.pl ≤ w.row.length
  eq : w.eq < w.pl
  rl : w.row.length ≤ 2000
theorem fallRow_len {w : WS} (o : Ok w) : (fallRow w).length = w.row.length := by
  have := o.pl; have := o.eq
  unfold fallRow
  by_cases h0 : 0 < w.eq
  · rw [if_pos h0]
    have l1 : (RF.turned w.row (w.pl - w.eq - 1) w.pl).length = w.row.length := RF.turned_len (by omega) o.pl
    rw [RF.turned_len (Nat.zero_le _) (by omega), l1]
  · rw [if_neg h0]
    exact RF.turned_len (Nat.zero_le _) o.pl
theorem Ok.past {w : WS} (o : Ok w) (size : Nat) : Ok (past size w) ∧ (WS.past size w).row.length = w.row.length := by
  obtain ⟨a, b, c, d⟩ := id o
  unfold WS.past
  split
  · have l := fallRow_len o
    exact ⟨⟨a, by show w.pl ≤ (fallRow w).length; omega, c, by show (fallRow w).length ≤ 2000; omega⟩, l⟩
  · exact ⟨⟨a, b, c, d⟩, rfl⟩
theorem Ok.ans {w : WS} (o : Ok w) (h : w.pl < w.row.length) (b : Bool) : Ok (w.ans b) ∧ (w.ans b).row.length = w.row.length := by
  obtain ⟨p1, p2, p3, p4⟩ := id o
  have lf := fallRow_len o
  have l0 : (RF.turned w.row 0 w.pl).length = w.row.length := RF.turned_len (Nat.zero_le _) p2
  have l1 : (if 0 < w.eq then RF.turned w.row (w.pl - w.eq - 1) w.pl else w.row).length = w.row.length := by
    split
    · exact RF.turned_len (by omega) p2
    · rfl
  unfold WS.ans
  split
  · refine ⟨⟨?_, ?_, ?_, p4⟩, rfl⟩
    · show 0 < w.pl + _
      omega
    · show w.pl + (if w.pl = 1 then 1 else 0) ≤ w.row.length
      split <;> omega
    · show w.eq < w.pl + _
      omega
  split
  · exact ⟨⟨p1, p2, p3, p4⟩, rfl⟩
  split
  · exact ⟨⟨by show 0 < w.pl + 1; omega, by show w.pl + 1 ≤ (RF.turned w.row 0 w.pl).length; omega, by show w.eq < w.pl + 1; omega, by show (RF.turned w.row 0 w.pl).length ≤ 2000; omega⟩, l0⟩
  split
  · exact ⟨⟨by show 0 < w.pl + 1; omega, by show w.pl + 1 ≤ (if 0 < w.eq then RF.turned w.row (w.pl - w.eq - 1) w.pl else w.row).length; omega, by show 0 < w.pl + 1; omega, by show (if 0 < w.eq then RF.turned w.row (w.pl - w.eq - 1) w.pl else w.row).length ≤ 2000; omega⟩, l1⟩
  split
  · exact ⟨⟨p1, p2, p3, p4⟩, rfl⟩
  split
  · exact ⟨⟨p1, by show w.pl ≤ (fallRow w).length; omega, p3, by show (fallRow w).length ≤ 2000; omega⟩, lf⟩
  split
  · exact ⟨⟨by show 0 < w.pl + 1; omega, by show w.pl + 1 ≤ w.row.length; omega, by show w.eq + 1 < w.pl + 1; omega, p4⟩, rfl⟩
  split
  · exact ⟨⟨p1, p2, p3, p4⟩, rfl⟩
  · exact ⟨⟨by show 0 < w.pl + 1; omega, by show w.pl + 1 ≤ w.row.length; omega, by show w.eq < w.pl + 1; omega, p4⟩, rfl⟩
end WS
namespace RF
/-- told the answers bs one after another -/
def fed (size : Nat) (bs : List Bool) : Nat → RF
  | 0 => RF.init (List.range size) 0 size
  | k + 1 => match (fed size bs k).wt with
    | none => fed size bs k
    | some _ => (fed size bs k).take 0 size (bs.getD k false)
theorem fed_next {size : Nat} {bs : List Bool} {k : Nat} {q : Nat × Nat} (h : (fed size bs k).wt = some q) : fed size bs (k + 1) = (fed size bs k).take 0 size (bs.getD k false) := by
  show (match (fed size bs k).wt with
    | none => fed size bs k
    | some _ => (fed size bs k).take 0 size (bs.getD k false)) = _
  rw [h]
theorem fed_end {size : Nat} {bs : List Bool} {k : Nat} (h : (fed size bs k).wt = none) : fed size bs (k + 1) = fed size bs k := by
  show (match (fed size bs k).wt with
    | none => fed size bs k
    | some _ => (fed size bs k).take 0 size (bs.getD k false)) = _
  rw [h]
theorem fed_stay {size : Nat} {bs : List Bool} {n : Nat} (h : (fed size bs n).wt = none) : ∀ k, fed size bs (n + k) = fed size bs n
  | 0 => rfl
  | k + 1 => by
    have ih := fed_stay h k
    show fed size bs ((n + k) + 1) = _
    rw [fed_end (by rw [ih]; exact h), ih]
theorem fed_good {size : Nat} (h1 : 0 < size) (h2 : size ≤ 2000) (bs : List Bool) : ∀ k, Good 0 size (List.range size) (fed size bs k)
  | 0 => Good.init h1 (by rw [List.length_range]; exact Nat.le_refl _) (by rw [List.length_range]; exact h2)
  | k + 1 => by
    have ih := fed_good h1 h2 bs k
    cases h : (fed size bs k).wt with
    | none => rw [fed_end h]; exact ih
    | some q => rw [fed_next h]; exact ih.take (by rw [h]; exact Option.some_ne_none _) _
def askB (size : Nat) (bs : List Bool) (n : Nat) : List (Nat × Nat) := (List.range n).map fun i => ((fed size bs i).wt).getD (0, 0)
theorem askB_len (size : Nat) (bs : List Bool) (n : Nat) : (askB size bs n).length = n := by
  unfold askB
  rw [List.length_map, List.length_range]
theorem askB_next {size : Nat} {bs : List Bool} {n : Nat} {q : Nat × Nat} (h : (fed size bs n).wt = some q) : askB size bs (n + 1) = askB size bs n ++ [q] := by
  unfold askB
  rw [List.range_succ, List.map_append, List.map_singleton, h]
  rfl
end RF
theorem QAt.ne {H : Hp} {l r : Addr} {qs : List (Nat × Nat)} {row : List Nat} (h : QAt H l qs) (hr : H r = some (.lst (nV row))) (n : row ≠ []) : r ≠ l := by
  intro e
  obtain ⟨ts, h1, h2, h3⟩ := h
  rw [← e, hr] at h1
  cases row with
  | nil => exact n rfl
  | cons x rest =>
    have e2 : ts = nV (x :: rest) := (HO.lst.inj (Option.some.inj h1)).symm
    cases qs with
    | nil => rw [e2] at h2; cases h2
    | cons q qs =>
      obtain ⟨t, e3, _⟩ := h3 0 (.int (x : Int)) q (by rw [e2]; rfl) rfl
      cases e3
end L2

namespace L2
open PySem PySem.Spec PyProof.Rows
namespace RF
/-! ### a run at s is a run at 0, moved by s -/
def shRow (s : Nat) (row : List Nat) : List Nat := List.range s ++ row.map (fun i => s + i)
def sh (s : Nat) (g : RF) : RF := { row := shRow s g.row, pl := s + g.pl, eq := g.eq, st := g.st, wt := g.wt.map (fun q => (s + q.1, s + q.2)), ln := g.ln }
variable {s size : Nat} {g : RF}
theorem shRow_len (s : Nat) (row : List Nat) : (shRow s row).length = s + row.length := by
  unfold shRow
  rw [List.length_append, List.length_range, List.length_map]
theorem shRow_range (s n : Nat) : shRow s (List.range n) = List.range (s + n) := by
  unfold shRow
  rw [List.range_add]
theorem turned_sh (s lo hi : Nat) (row : List Nat) : turned (shRow s row) (s + lo) (s + hi) = shRow s (turned row lo hi) := by
  unfold turned shRow
  have l : (List.range s).length = s := List.length_range
  have e1 : (List.range s ++ row.map (fun i => s + i)).take (s + lo) = List.range s ++ (row.take lo).map (fun i => s + i) := by
    rw [List.take_append, List.take_of_length_le (by omega), l, Nat.add_sub_cancel_left, List.map_take]
  have e2 : ∀ k, (List.range s ++ row.map (fun i => s + i)).drop (s + k) = (row.drop k).map (fun i => s + i) := fun k => by
    rw [List.drop_append, List.drop_of_length_le (by omega), l, Nat.add_sub_cancel_left, List.map_drop]
    rfl
  rw [e1, e2, e2, show s + hi - (s + lo) = hi - lo by omega]
  simp only [List.map_append, List.map_reverse, List.map_take, List.append_assoc]
theorem getD_sh {row : List Nat} {k : Nat} (h : k < row.length) : (shRow s row).getD (s + k) 0 = s + row.getD k 0 := by
  unfold shRow
  rw [List.getD_eq_getElem?_getD, List.getD_eq_getElem?_getD, List.getElem?_append_right (by rw [List.length_range]; omega), List.length_range, Nat.add_sub_cancel_left, List.getElem?_map, List.getElem?_eq_getElem h]
  rfl
theorem ext {f g : RF} (h1 : f.row = g.row) (h2 : f.pl = g.pl) (h3 : f.eq = g.eq) (h4 : f.st = g.st) (h5 : f.wt = g.wt) (h6 : f.ln = g.ln) : f = g := by
  cases f
  cases g
  cases h1
  cases h2
  cases h3
  cases h4
  cases h5
  cases h6
  rfl
theorem sh_turn (lo : Nat) : (sh s g).turn (s + lo) = sh s (g.turn lo) := ext (turned_sh s lo g.pl g.row) rfl rfl rfl rfl rfl
theorem sh_turnEq (w : WF 0 size g) : (sh s g).turnEq = sh s g.turnEq := by
  unfold RF.turnEq
  by_cases h : 0 < g.eq
  · have := w.eq
    rw [if_pos h, if_pos (show 0 < (sh s g).eq from h)]
    have e : (sh s g).pl - (sh s g).eq - 1 = s + (g.pl - g.eq - 1) := by show s + g.pl - g.eq - 1 = _; omega
    rw [e, sh_turn]
    rfl
  · rw [if_neg h, if_neg (show ¬ 0 < (sh s g).eq from h)]
theorem sh_fin : (sh s g).finish s = sh s (g.finish 0) := ext rfl rfl rfl rfl rfl (by show some (s + g.pl - s) = some (g.pl - 0); rw [Nat.add_sub_cancel_left]; rfl)
theorem sh_w {g' : RF} {k l : Nat} (h1 : k < g'.row.length) (h2 : l < g'.row.length) : ({ sh s g' with wt := some ((sh s g').row.getD (s + k) 0, (sh s g').row.getD (s + l) 0) } : RF) = sh s { g' with wt := some (g'.row.getD k 0, g'.row.getD l 0) } := by
  refine ext rfl rfl rfl rfl ?_ rfl
  show some ((shRow s g'.row).getD (s + k) 0, (shRow s g'.row).getD (s + l) 0) = some (s + g'.row.getD k 0, s + g'.row.getD l 0)
  rw [getD_sh h1, getD_sh h2]
theorem sh_up {g' : RF} (a : 0 < g'.pl) (c : size ≤ g'.row.length) : (sh s g').askUp s (s + size) = sh s (g'.askUp 0 size) := by
  unfold RF.askUp
  by_cases h : g'.pl < size
  · rw [if_pos h, if_pos (show (sh s g').pl < s + size by show s + g'.pl < s + size; omega)]
    have e : (sh s g').pl - 1 = s + (g'.pl - 1) := by show s + g'.pl - 1 = _; omega
    rw [e]
    exact sh_w (by omega) (by omega)
  · rw [if_neg h, if_neg (show ¬ (sh s g').pl < s + size by show ¬ s + g'.pl < s + size; omega)]
    exact sh_fin
theorem sh_rise (w : WF 0 size g) : (sh s g).rise s (s + size) = sh s (g.rise 0 size) := by
  unfold RF.rise
  have w2 := w.pre5
  have e : ({ ((sh s g).turnEq.turn s : RF) with st := 5 } : RF) = sh s { (g.turnEq.turn 0 : RF) with st := 5 } := by
    have e1 : (sh s g).turnEq.turn s = sh s (g.turnEq.turn 0) := by
      rw [sh_turnEq w]
      exact sh_turn 0
    rw [e1]
    rfl
  rw [e]
  exact sh_up (Nat.lt_of_le_of_lt (Nat.zero_le _) w2.sp) w2.er
theorem sh_ask (w : WF 0 size g) : (sh s g).ask s (s + size) = sh s (g.ask 0 size) := by
  have b1 := w.sp; have b2 := w.er
  unfold RF.ask
  by_cases h : g.pl < size
  · rw [if_pos h, if_pos (show (sh s g).pl < s + size by show s + g.pl < s + size; omega)]
    have e : (sh s g).pl - 1 = s + (g.pl - 1) := by show s + g.pl - 1 = _; omega
    rw [e]
    exact sh_w (by omega) (by omega)
  · rw [if_neg h, if_neg (show ¬ (sh s g).pl < s + size by show ¬ s + g.pl < s + size; omega)]
    by_cases h3 : g.st = 3
    · rw [if_pos h3, if_pos (show (sh s g).st = 3 from h3)]
      exact sh_rise w
    · rw [if_neg h3, if_neg (show ¬ (sh s g).st = 3 from h3)]
      exact sh_fin
theorem sh_goOn (w : WF 0 size { g with pl := g.pl + 1 }) : (sh s g).goOn s (s + size) = sh s (g.goOn 0 size) := by
  unfold RF.goOn
  rw [← sh_ask w]
  rfl
theorem sh_take (w : WF 0 size g) (h : g.pl < size) (b : Bool) : (sh s g).take s (s + size) b = sh s (g.take 0 size b) := by
  have b1 := w.sp; have b2 := w.er
  unfold RF.take
  show (if g.st = 1 then _ else if g.st = 2 then _ else if g.st = 3 then _ else if g.st = 4 then _ else _) = sh s (if g.st = 1 then _ else if g.st = 2 then _ else if g.st = 3 then _ else if g.st = 4 then _ else _)
  by_cases s1 : g.st = 1
  · rw [if_pos s1, if_pos s1]
    unfold RF.take1
    cases b with
    | false =>
      rw [if_pos rfl, if_pos rfl]
      exact sh_goOn (w.next h)
    | true =>
      rw [if_neg (show ¬ (true = false) by decide), if_neg (show ¬ (true = false) by decide)]
      by_cases hp : g.pl = 0 + 1
      · rw [if_pos hp, if_pos (show (sh s g).pl = s + 1 by show s + g.pl = s + 1; omega)]
        exact sh_goOn (g := { g with st := 3 }) ((w.st 3).next h)
      · rw [if_neg hp, if_neg (show ¬ (sh s g).pl = s + 1 by show ¬ s + g.pl = s + 1; omega)]
        have e : (sh s g).pl - 1 = s + (g.pl - 1) := by show s + g.pl - 1 = _; omega
        rw [e]
        exact sh_w (g' := { g with st := 2 }) (k := 0) (l := g.pl - 1) (by show 0 < g.row.length; omega) (by show g.pl - 1 < g.row.length; omega)
  rw [if_neg s1, if_neg s1]
  by_cases s2 : g.st = 2
  · rw [if_pos s2, if_pos s2]
    unfold RF.take2
    cases b with
    | true =>
      rw [if_pos rfl, if_pos rfl]
      exact sh_fin
    | false =>
      rw [if_neg (show ¬ (false = true) by decide), if_neg (show ¬ (false = true) by decide)]
      have e : (sh s g).turn s = sh s (g.turn 0) := sh_turn 0
      rw [e]
      exact sh_goOn (g := { (g.turn 0 : RF) with st := 3 }) (((w.turn (Nat.le_of_lt w.sp)).st 3).next h)
  rw [if_neg s2, if_neg s2]
  by_cases s3 : g.st = 3
  · rw [if_pos s3, if_pos s3]
    unfold RF.take3
    cases b with
    | true =>
      rw [if_pos rfl, if_pos rfl, sh_turnEq w]
      exact sh_goOn (w.turnEq.next (by rw [turnEq_pl]; exact h))
    | false =>
      rw [if_neg (show ¬ (false = true) by decide), if_neg (show ¬ (false = true) by decide)]
      have e : (sh s g).pl - 1 = s + (g.pl - 1) := by show s + g.pl - 1 = _; omega
      rw [e]
      exact sh_w (g' := { g with st := 4 }) (k := g.pl - 1) (l := g.pl) (by show g.pl - 1 < g.row.length; omega) (by show g.pl < g.row.length; omega)
  rw [if_neg s3, if_neg s3]
  by_cases s4 : g.st = 4
  · rw [if_pos s4, if_pos s4]
    unfold RF.take4
    cases b with
    | true =>
      rw [if_pos rfl, if_pos rfl]
      exact sh_rise w
    | false =>
      rw [if_neg (show ¬ (false = true) by decide), if_neg (show ¬ (false = true) by decide)]
      exact sh_goOn (g := { g with eq := g.eq + 1, st := 3 }) (w.eq1 h)
  rw [if_neg s4, if_neg s4]
  unfold RF.take5
  cases b with
  | true =>
    rw [if_pos rfl, if_pos rfl]
    exact sh_fin
  | false =>
    rw [if_neg (show ¬ (false = true) by decide), if_neg (show ¬ (false = true) by decide)]
    exact sh_goOn (w.next h)
theorem sh_init (h : 0 < size) (h2 : size ≤ 2000) : RF.init (List.range (s + size)) s (s + size) = sh s (RF.init (List.range size) 0 size) := by
  unfold RF.init
  have w : WF 0 size { row := List.range size, pl := 0 + 1, eq := 0, st := 1, wt := none, ln := none } := ⟨by show 0 < 0 + 1; omega, by show 0 + 1 ≤ size; omega, by show size ≤ (List.range size).length; rw [List.length_range]; exact Nat.le_refl _, by show 0 + 0 < 0 + 1; omega, by show (List.range size).length ≤ 2000; rw [List.length_range]; exact h2⟩
  rw [← sh_ask w]
  congr 1
  exact ext (shRow_range s size).symm rfl rfl rfl rfl rfl
/-! behind the place nothing has moved -/
def Tail (n : Nat) (f : RF) : Prop := ∀ k, f.pl ≤ k → f.row.drop k = (List.range n).drop k
theorem turned_tail {row : List Nat} {lo hi k : Nat} (h : lo ≤ hi) (h2 : hi ≤ row.length) (hk : hi ≤ k) : (turned row lo hi).drop k = row.drop k := by
  unfold turned
  have l : (row.take lo ++ ((row.drop lo).take (hi - lo)).reverse).length = hi := by
    rw [List.length_append, List.length_take, List.length_reverse, List.length_take, List.length_drop]
    omega
  rw [List.drop_append, List.drop_of_length_le (by omega), l, List.drop_drop, List.nil_append]
  congr 1
  omega
section
variable {n : Nat} {f : RF} {e : Nat}
theorem tail_turn {lo : Nat} (t : Tail n f) (h : lo ≤ f.pl) (h2 : f.pl ≤ f.row.length) : Tail n (f.turn lo) := fun k hk => (turned_tail h h2 hk).trans (t k hk)
theorem tail_turnEq (t : Tail n f) (h2 : f.pl ≤ f.row.length) : Tail n f.turnEq := by
  unfold RF.turnEq
  split
  · exact fun k hk => tail_turn t (by omega) h2 k hk
  · exact t
theorem tail_up (t : Tail n f) : Tail n (f.askUp s e) := by
  unfold RF.askUp
  split
  · exact t
  · exact t
theorem tail_rise (w : WF s e f) (t : Tail n f) : Tail n (f.rise s e) := by
  have w1 := w.turnEq
  have h2 : f.pl ≤ f.row.length := Nat.le_trans w.pe w.er
  have t1 : Tail n f.turnEq := tail_turnEq t h2
  exact tail_up (f := { (f.turnEq.turn s : RF) with st := 5 }) (tail_turn t1 (Nat.le_of_lt w1.sp) (Nat.le_trans w1.pe w1.er))
theorem tail_ask (w : WF s e f) (t : Tail n f) : Tail n (f.ask s e) := by
  unfold RF.ask
  split
  · exact t
  · split
    · exact tail_rise w t
    · exact t
theorem tail_next (t : Tail n f) : Tail n { f with pl := f.pl + 1 } := fun k hk => t k (Nat.le_of_succ_le hk)
theorem tail_take (w : WF s e f) (h : f.pl < e) (t : Tail n f) (b : Bool) : Tail n (f.take s e b) := by
  have h2 : f.pl ≤ f.row.length := Nat.le_trans w.pe w.er
  unfold RF.take
  split
  · unfold RF.take1
    split
    · exact tail_ask (w.next h) (tail_next t)
    · split
      · exact tail_ask ((w.st 3).next h) (tail_next t)
      · exact t
  · split
    · unfold RF.take2
      split
      · exact t
      · exact tail_ask (((w.turn (Nat.le_of_lt w.sp)).st 3).next h) (tail_next (tail_turn t (Nat.le_of_lt w.sp) h2))
    · split
      · unfold RF.take3
        split
        · exact tail_ask (w.turnEq.next (by rw [turnEq_pl]; exact h)) (tail_next (tail_turnEq t h2))
        · exact t
      · split
        · unfold RF.take4
          split
          · exact tail_rise w t
          · exact tail_ask (w.eq1 h) (tail_next t)
        · unfold RF.take5
          split
          · exact t
          · exact tail_ask (w.next h) (tail_next t)
end
theorem fed_tail {size : Nat} (h1 : 0 < size) (h2 : size ≤ 2000) (bs : List Bool) : ∀ k, Tail size (fed size bs k)
  | 0 => by
    have w : WF 0 size { row := List.range size, pl := 0 + 1, eq := 0, st := 1, wt := none, ln := none } := ⟨by show 0 < 0 + 1; omega, by show 0 + 1 ≤ size; omega, by show size ≤ (List.range size).length; rw [List.length_range]; exact Nat.le_refl _, by show 0 + 0 < 0 + 1; omega, by show (List.range size).length ≤ 2000; rw [List.length_range]; exact h2⟩
    exact tail_ask w (fun k _ => rfl)
  | k + 1 => by
    have ih := fed_tail h1 h2 bs k
    have g := fed_good h1 h2 bs k
    cases h : (fed size bs k).wt with
    | none => rw [fed_end h]; exact ih
    | some q => rw [fed_next h]; exact tail_take g.wf (g.ah (by rw [h]; exact Option.some_ne_none _)) ih _
theorem fed_congr {size : Nat} {bs cs : List Bool} : ∀ {k : Nat}, (∀ i, i < k → bs.getD i false = cs.getD i false) → fed size bs k = fed size cs k
  | 0, _ => rfl
  | k + 1, h => by
    have ih := fed_congr (size := size) (k := k) (fun i hi => h i (by omega))
    cases e : (fed size bs k).wt with
    | none => rw [fed_end e, fed_end (by rw [← ih]; exact e), ih]
    | some q => rw [fed_next e, fed_next (q := q) (by rw [← ih]; exact e), ih, h k (by omega)]
/-- the steps by the keys are the steps by their answers, moved -/
theorem stps_fed {ls : Nat × Nat → Bool} {s size N : Nat} (h1 : 0 < size) (h2 : size ≤ 2000) (hw : ∀ i, i < N → ((RF.init (List.range (s + size)) s (s + size)).stps ls s (s + size) i).wt ≠ none) :
    ∀ k, k ≤ N → (RF.init (List.range (s + size)) s (s + size)).stps ls s (s + size) k = sh s (fed size (((RF.init (List.range (s + size)) s (s + size)).asks ls s (s + size) N).map ls) k)
  | 0, _ => sh_init h1 h2
  | k + 1, hk => by
    have ih := stps_fed h1 h2 hw k (by omega)
    cases e : ((RF.init (List.range (s + size)) s (s + size)).stps ls s (s + size) k).wt with
    | none => exact absurd e (hw k (by omega))
    | some q =>
      rw [stps_next e]
      rw [ih] at e
      have e0 : ∃ q0, (fed size (((RF.init (List.range (s + size)) s (s + size)).asks ls s (s + size) N).map ls) k).wt = some q0 := by
        cases e1 : (fed size (((RF.init (List.range (s + size)) s (s + size)).asks ls s (s + size) N).map ls) k).wt with
        | none =>
          exfalso
          have e2 : (sh s (fed size (((RF.init (List.range (s + size)) s (s + size)).asks ls s (s + size) N).map ls) k)).wt = none := by
            show Option.map _ _ = none
            rw [e1]
            rfl
          rw [e2] at e
          cases e
        | some q0 => exact ⟨q0, rfl⟩
      obtain ⟨q0, e0⟩ := e0
      have g := fed_good h1 h2 (((RF.init (List.range (s + size)) s (s + size)).asks ls s (s + size) N).map ls) k
      rw [fed_next e0, ih, ← sh_take g.wf (g.ah (by rw [e0]; exact Option.some_ne_none _))]
      congr 1
      rw [List.getD_eq_getElem?_getD, List.getElem?_map, asks_at (by omega), ih, e]
      rfl
theorem range_drop (k n : Nat) (h : k ≤ n) : (List.range n).drop k = (List.range (n - k)).map (fun i => k + i) := by
  have e : List.range n = List.range k ++ (List.range (n - k)).map (fun i => k + i) := by
    rw [← List.range_add]
    congr 1
    omega
  rw [e, List.drop_append, List.drop_of_length_le (by rw [List.length_range]; exact Nat.le_refl _), List.length_range, Nat.sub_self]
  rfl
/-- the whole row, told by what lies ahead, the run and the rest -/
theorem row_split {s size : Nat} {g : RF} (w : WF 0 size g) (t : Tail size g) : (sh s g).row = List.range s ++ ((sh s g).row.drop s).take g.pl ++ (List.range (size - g.pl)).map (fun i => s + g.pl + i) := by
  have l : (List.range s).length = s := List.length_range
  have e1 : (sh s g).row.drop s = g.row.map (fun i => s + i) := by
    show (List.range s ++ g.row.map (fun i => s + i)).drop s = _
    rw [List.drop_append, List.drop_of_length_le (by omega), l, Nat.sub_self]
    rfl
  rw [e1, List.append_assoc]
  show List.range s ++ g.row.map (fun i => s + i) = _
  congr 1
  have e2 : g.row = g.row.take g.pl ++ (List.range (size - g.pl)).map (fun i => g.pl + i) := by
    rw [← range_drop _ _ w.pe, ← t _ (Nat.le_refl _), List.take_append_drop]
  rw [← List.map_take]
  conv => lhs; rw [e2]
  rw [List.map_append, List.map_map]
  congr 1
  exact List.map_congr_left fun i _ => by show s + (g.pl + i) = s + g.pl + i; omega
end RF
end L2

namespace L2
open PySem PySem.Spec PyProof.Rows
/-! ### for over a list or a tuple -/
section
variable {X : Cx} {tg : Expr} {pins : List (Addr × Obj)} {σ : L2.St} {H : Hp} {s : Shared} {a : Addr} {xs : List V} {R : It → Hp → Prop}
theorem lone_fresh (I : Inv X pins σ H s) : ∀ b ∈ [s.heap.objs.size], FpOk X pins H b := fun b hb => by
  rw [List.mem_singleton.mp hb]
  exact I.fpOk (Nat.le_refl _) (I.hok.fresh (Nat.le_refl _))
theorem walk_list (I : Inv X pins σ H s) (h : SqL X.K H a xs) (q : R (Itl X.K a) H) : wpAny (model X.prog X.w) X.A (pyIter (.ref a)) (PIE X pins σ tg R) X.xe s := by
  obtain ⟨items, _, isl, _⟩ := I.list h
  exact wpAny_pyIter_list isl.isList ⟨_, [_], _, _, H, rfl, I.kept (t' := s.toks) (fun _ _ e => Heap.get?_push_of_some _ e), turn_list a _, ⟨_, Heap.get?_push_size _ rfl, rfl, rfl⟩, lone_fresh I, q⟩
theorem walk_tup (I : Inv X pins σ H s) (h : SqT X.K H a xs) (q : R (Itt X.K a) H) : wpAny (model X.prog X.w) X.A (pyIter (.ref a)) (PIE X pins σ tg R) X.xe s := by
  obtain ⟨items, _, ist, _⟩ := I.tuple h
  have ist' : s.heap.IsTuple a items.toArray := ist
  exact wpAny_pyIter_tuple ist' ⟨_, [_], _, _, H, rfl, I.kept (t' := s.toks) (fun _ _ e => Heap.get?_push_of_some _ e), turn_tuple a _, ⟨_, Heap.get?_push_size _ rfl, rfl, rfl⟩, lone_fresh I, q⟩
def iLT (K : PySem.W.Frag) (tl : TE) : TI := fun σ H R => tl σ H fun x H1 => ∃ (a : Addr) (xs : List V), x = .ref a ∧ ((SqL K H1 a xs ∧ R (Itl K a) H1) ∨ (SqT K H1 a xs ∧ R (Itt K a) H1))
theorem pi_lt {l : Expr} {tl : TE} (hl : PE X l tl) : PI X tg l (iLT X.K tl) :=
  ⟨fun pins s σ H R I h => thn (hl.run pins s σ H _ I h) fun v s1 ⟨x, H1, I1, r1, a, xs, e, q⟩ => by
    subst e
    cases r1
    rcases q with ⟨hs, q⟩ | ⟨hs, q⟩
    · exact walk_list I1 hs q
    · exact walk_tup I1 hs q⟩
end
/-- for over the entries, whichever of the two it is -/
theorem for_lt {K : PySem.W.Frag} {a : Addr} {xs : List V} {g : TG} {tb : TS} {D : Ends} {σ : L2.St} {H : Hp} (Pv : Nat → L2.St → Hp → Prop) (h0 : Pv 0 σ H) (h : (∀ i σ' H', Pv i σ' H' → SqL K H' a xs) ∨ (∀ i σ' H', Pv i σ' H' → SqT K H' a xs))
    (hs : ∀ i x σ H, xs[i]? = some x → Pv i σ H → g x σ H fun σ2 H2 => tb { D with nx := Pv (i + 1), ct := Pv (i + 1), bk := D.nx } σ2 H2) (hd : ∀ σ H, Pv xs.length σ H → D.nx σ H) :
    (SqL K H a xs ∧ ∃ W : Nat → Nat → L2.St → Hp → Prop, (∃ m, W 0 m σ H) ∧ ∀ i m σ H, W i m σ H →
      ((Itl K a).stop i H ∧ D.nx σ H) ∨ ((Itl K a).go i H ∧ ∃ N : L2.St → Hp → Prop, (∀ σ' H', N σ' H' → ∃ m', m' < m ∧ W (i + 1) m' σ' H') ∧ ∀ x H', (Itl K a).yld i H x H' → g x σ H' fun σ2 H2 => tb { D with nx := N, ct := N, bk := D.nx } σ2 H2)) ∨
    (SqT K H a xs ∧ ∃ W : Nat → Nat → L2.St → Hp → Prop, (∃ m, W 0 m σ H) ∧ ∀ i m σ H, W i m σ H →
      ((Itt K a).stop i H ∧ D.nx σ H) ∨ ((Itt K a).go i H ∧ ∃ N : L2.St → Hp → Prop, (∀ σ' H', N σ' H' → ∃ m', m' < m ∧ W (i + 1) m' σ' H') ∧ ∀ x H', (Itt K a).yld i H x H' → g x σ H' fun σ2 H2 => tb { D with nx := N, ct := N, bk := D.nx } σ2 H2)) := by
  rcases h with h | h
  · exact .inl ⟨h _ _ _ h0, for_list Pv h0 (fun i σ' H' _ p => h i σ' H' p) hs hd⟩
  · exact .inr ⟨h _ _ _ h0, for_tup Pv h0 (fun i σ' H' _ p => h i σ' H' p) hs hd⟩
theorem rg_nat (n : Nat) : rgV 0 (n : Int) = nV (List.range n) := by
  unfold rgV
  rw [show ((n : Int) - 0).toNat = n by omega]
  exact List.map_congr_left fun i _ => congrArg V.int (by omega)
theorem rgOk_nat {n : Nat} (h : n ≤ 2000) : RgOk 0 (n : Int) := ⟨by omega, by omega, by omega, by omega, by omega⟩
end L2

namespace L2
open PySem PySem.Spec PyProof.Rows
namespace RF
/-- given the answers bs one after another, from any state on -/
def gv (s e : Nat) (f : RF) (bs : List Bool) : Nat → RF
  | 0 => f
  | k + 1 => match (gv s e f bs k).wt with
    | none => gv s e f bs k
    | some _ => (gv s e f bs k).take s e (bs.getD k false)
theorem gv_next {s e : Nat} {f : RF} {bs : List Bool} {k : Nat} {q : Nat × Nat} (h : (gv s e f bs k).wt = some q) : gv s e f bs (k + 1) = (gv s e f bs k).take s e (bs.getD k false) := by
  show (match (gv s e f bs k).wt with
    | none => gv s e f bs k
    | some _ => (gv s e f bs k).take s e (bs.getD k false)) = _
  rw [h]
theorem gv_end {s e : Nat} {f : RF} {bs : List Bool} {k : Nat} (h : (gv s e f bs k).wt = none) : gv s e f bs (k + 1) = gv s e f bs k := by
  show (match (gv s e f bs k).wt with
    | none => gv s e f bs k
    | some _ => (gv s e f bs k).take s e (bs.getD k false)) = _
  rw [h]
theorem gv_good {s e : Nat} {f : RF} {row : List Nat} (g : Good s e row f) (bs : List Bool) : ∀ k, Good s e row (gv s e f bs k)
  | 0 => g
  | k + 1 => by
    have ih := gv_good g bs k
    cases h : (gv s e f bs k).wt with
    | none => rw [gv_end h]; exact ih
    | some q => rw [gv_next h]; exact ih.take (by rw [h]; exact Option.some_ne_none _) _
def gvq (s e : Nat) (f : RF) (bs : List Bool) (n : Nat) : List (Nat × Nat) := (List.range n).map fun i => ((gv s e f bs i).wt).getD (0, 0)
theorem gvq_len (s e : Nat) (f : RF) (bs : List Bool) (n : Nat) : (gvq s e f bs n).length = n := by
  unfold gvq
  rw [List.length_map, List.length_range]
theorem gvq_next {s e : Nat} {f : RF} {bs : List Bool} {n : Nat} {q : Nat × Nat} (h : (gv s e f bs n).wt = some q) : gvq s e f bs (n + 1) = gvq s e f bs n ++ [q] := by
  unfold gvq
  rw [List.range_succ, List.map_append, List.map_singleton, h]
  rfl
theorem gv_fed (size : Nat) (bs : List Bool) : ∀ k, gv 0 size (RF.init (List.range size) 0 size) bs k = fed size bs k
  | 0 => rfl
  | k + 1 => by
    have ih := gv_fed size bs k
    cases h : (fed size bs k).wt with
    | none => rw [fed_end h, gv_end (by rw [ih]; exact h), ih]
    | some q => rw [fed_next h, gv_next (by rw [ih]; exact h), ih]
theorem gvq_ask (size : Nat) (bs : List Bool) (n : Nat) : gvq 0 size (RF.init (List.range size) 0 size) bs n = askB size bs n := by
  unfold gvq askB
  exact List.map_congr_left fun i _ => by rw [gv_fed]
theorem gv_stps {s e : Nat} {f : RF} {ls : Nat × Nat → Bool} {bs : List Bool} : ∀ {k : Nat}, (∀ i q, i < k → (f.stps ls s e i).wt = some q → bs.getD i false = ls q) → gv s e f bs k = f.stps ls s e k
  | 0, _ => rfl
  | k + 1, h => by
    have ih := gv_stps (k := k) fun i q hi hq => h i q (by omega) hq
    cases hw : (f.stps ls s e k).wt with
    | none => rw [stps_end hw, gv_end (by rw [ih]; exact hw), ih]
    | some q => rw [stps_next hw, gv_next (by rw [ih]; exact hw), ih, h k q (by omega) hw]
end RF
/-- answers: a list or a tuple of bools -/
def AnsAt (H : Hp) (p : Addr) (bs : List Bool) : Prop := H p = some (.lst (bs.map V.bl)) ∨ H p = some (.tup (bs.map V.bl))
theorem AnsAt.same {H H' : Hp} {p : Addr} {bs : List Bool} (e : Same H H') (h : AnsAt H p bs) : AnsAt H' p bs := h.imp (e _ _) (e _ _)
theorem ans_item {bs : List Bool} {i : Nat} {x : V} (h : (bs.map V.bl)[i]? = some x) : ∃ z, bs[i]? = some z ∧ x = .bl z := by
  rw [List.getElem?_map] at h
  cases e : bs[i]? with
  | none => rw [e] at h; cases h
  | some z => rw [e] at h; exact ⟨z, rfl, (Option.some.inj h).symm⟩
theorem AnsAt.free {H : Hp} {p z : Addr} {bs : List Bool} (h : AnsAt H p bs) (n : H z = none) : p ≠ z := fun e => by
  rw [← e] at n
  rcases h with h | h
  · rw [h] at n; cases n
  · rw [h] at n; cases n
end L2

namespace L2
open PySem PySem.Spec PyProof.Rows
namespace RF
/-! ### how many questions there may be: two less than twice the items -/
variable {e : Nat} {f : RF}
def ph (st pl n : Nat) : Nat := if st = 5 then n else if st = 4 then 2 * n else if st = 3 then 2 * n + 1 else if st = 2 then 2 * n else if pl = 1 then 2 * n else 2 * n + 1
def phi (e : Nat) (f : RF) : Nat := if f.wt = none then 0 else ph f.st f.pl (e - f.pl)
theorem phi_none (h : f.wt = none) : phi e f = 0 := if_pos h
theorem phi_some {q : Nat × Nat} (h : f.wt = some q) : phi e f = ph f.st f.pl (e - f.pl) := if_neg (by rw [h]; exact Option.some_ne_none _)
theorem phi_ask {f : RF} {b : Nat} (h : f.pl < e → ph f.st f.pl (e - f.pl) ≤ b) : phi e (f.ask 0 e) ≤ b := by
  unfold RF.ask
  split
  · rename_i hp
    rw [phi_some (q := (f.row.getD f.pl 0, f.row.getD (f.pl - 1) 0)) rfl]
    exact h hp
  · rename_i hp
    split
    · have : phi e (f.rise 0 e) = 0 := by
        unfold RF.rise RF.askUp
        rw [if_neg (by show ¬ f.turnEq.pl < e; rw [turnEq_pl]; exact hp)]
        exact phi_none rfl
      omega
    · rw [phi_none (f := f.finish 0) rfl]
      exact Nat.zero_le _
theorem phi_take {q : Nat × Nat} (hw : f.wt = some q) (h0 : 0 < f.pl) (h : f.pl < e) (hs : 1 ≤ f.st ∧ f.st ≤ 5) (b : Bool) : phi e (f.take 0 e b) < phi e f := by
  rw [phi_some hw]
  unfold RF.take
  by_cases s1 : f.st = 1
  · rw [if_pos s1]
    have hb : ph f.st f.pl (e - f.pl) = if f.pl = 1 then 2 * (e - f.pl) else 2 * (e - f.pl) + 1 := by rw [s1]; rfl
    unfold RF.take1
    split
    · have : phi e (f.goOn 0 e) ≤ 2 * (e - f.pl) - 1 := phi_ask fun hp => by
        have hp' : f.pl + 1 < e := hp
        show ph f.st (f.pl + 1) (e - (f.pl + 1)) ≤ _
        rw [s1]
        show (if f.pl + 1 = 1 then 2 * (e - (f.pl + 1)) else 2 * (e - (f.pl + 1)) + 1) ≤ _
        rw [if_neg (by omega)]
        omega
      rw [hb]
      split <;> omega
    · split
      · rename_i hp1
        have : phi e (f.fall 0 e) ≤ 2 * (e - f.pl) - 1 := phi_ask fun hp => by
          have hp' : f.pl + 1 < e := hp
          show 2 * (e - (f.pl + 1)) + 1 ≤ _
          omega
        rw [hb, if_pos (by omega)]
        omega
      · rename_i hp1
        rw [phi_some (f := { f with st := 2, wt := some (f.row.getD 0 0, f.row.getD (f.pl - 1) 0) }) rfl, hb, if_neg (by omega)]
        show 2 * (e - f.pl) < _
        omega
  rw [if_neg s1]
  by_cases s2 : f.st = 2
  · rw [if_pos s2]
    have hb : ph f.st f.pl (e - f.pl) = 2 * (e - f.pl) := by rw [s2]; rfl
    unfold RF.take2
    split
    · rw [phi_none (f := f.finish 0) rfl, hb]
      omega
    · have : phi e ((f.turn 0).fall 0 e) ≤ 2 * (e - f.pl) - 1 := phi_ask fun hp => by
        have hp' : f.pl + 1 < e := hp
        show 2 * (e - (f.pl + 1)) + 1 ≤ _
        omega
      rw [hb]
      omega
  rw [if_neg s2]
  by_cases s3 : f.st = 3
  · rw [if_pos s3]
    have hb : ph f.st f.pl (e - f.pl) = 2 * (e - f.pl) + 1 := by rw [s3]; rfl
    unfold RF.take3
    split
    · have : phi e (f.turnEq.goOn 0 e) ≤ 2 * (e - f.pl) - 1 := phi_ask fun hp => by
        have hp' : f.turnEq.pl + 1 < e := hp
        rw [turnEq_pl] at hp'
        show ph f.turnEq.st (f.turnEq.pl + 1) (e - (f.turnEq.pl + 1)) ≤ _
        rw [turnEq_st, turnEq_pl, s3]
        show 2 * (e - (f.pl + 1)) + 1 ≤ _
        omega
      rw [hb]
      omega
    · rw [phi_some (f := { f with st := 4, wt := some (f.row.getD (f.pl - 1) 0, f.row.getD f.pl 0) }) rfl, hb]
      show 2 * (e - f.pl) < _
      omega
  rw [if_neg s3]
  by_cases s4 : f.st = 4
  · rw [if_pos s4]
    have hb : ph f.st f.pl (e - f.pl) = 2 * (e - f.pl) := by rw [s4]; rfl
    unfold RF.take4
    split
    · have e1 : f.rise 0 e = RF.ask 0 e { (f.turnEq.turn 0 : RF) with st := 5 } := by
        unfold RF.rise RF.askUp RF.ask
        rw [if_neg (show ¬ ({ (f.turnEq.turn 0 : RF) with st := 5 } : RF).st = 3 by show ¬ 5 = 3; decide)]
      have : phi e (f.rise 0 e) ≤ e - f.pl := by
        rw [e1]
        exact phi_ask fun hp => by
          show e - f.turnEq.pl ≤ _
          rw [turnEq_pl]
          exact Nat.le_refl _
      rw [hb]
      omega
    · have : phi e (({ f with eq := f.eq + 1, st := 3 } : RF).goOn 0 e) ≤ 2 * (e - f.pl) - 1 := phi_ask fun hp => by
        have hp' : f.pl + 1 < e := hp
        show 2 * (e - (f.pl + 1)) + 1 ≤ _
        omega
      rw [hb]
      omega
  rw [if_neg s4]
  have s5 : f.st = 5 := by omega
  have hb : ph f.st f.pl (e - f.pl) = e - f.pl := by rw [s5]; rfl
  unfold RF.take5
  split
  · rw [phi_none (f := f.finish 0) rfl, hb]
    omega
  · have : phi e (f.goOn 0 e) ≤ e - f.pl - 1 := phi_ask fun hp => by
      have hp' : f.pl + 1 < e := hp
      show ph f.st (f.pl + 1) (e - (f.pl + 1)) ≤ _
      rw [s5]
      show e - (f.pl + 1) ≤ _
      omega
    rw [hb]
    omega
/-- the step is one of the five -/
def St5 (f : RF) : Prop := 1 ≤ f.st ∧ f.st ≤ 5
theorem st5_ask {f : RF} (h : St5 f) : St5 (f.ask 0 e) := by
  unfold RF.ask
  split
  · exact h
  · split
    · unfold RF.rise RF.askUp
      split
      · exact ⟨by show 1 ≤ 5; decide, by show 5 ≤ 5; decide⟩
      · exact ⟨by show 1 ≤ 5; decide, by show 5 ≤ 5; decide⟩
    · exact h
theorem st5_rise : St5 (f.rise 0 e) := by
  unfold RF.rise RF.askUp
  split
  · exact ⟨by show 1 ≤ 5; decide, by show 5 ≤ 5; decide⟩
  · exact ⟨by show 1 ≤ 5; decide, by show 5 ≤ 5; decide⟩
theorem st5_three {f : RF} (h : f.st = 3) : St5 f := ⟨by omega, by omega⟩
theorem st5_take (h : St5 f) (b : Bool) : St5 (f.take 0 e b) := by
  unfold RF.take
  split
  · unfold RF.take1
    split
    · exact st5_ask h
    · split
      · exact st5_ask (st5_three rfl)
      · exact ⟨by show 1 ≤ 2; decide, by show 2 ≤ 5; decide⟩
  · split
    · unfold RF.take2
      split
      · exact h
      · exact st5_ask (st5_three rfl)
    · split
      · rename_i h3
        unfold RF.take3
        split
        · exact st5_ask (st5_three (by show f.turnEq.st = 3; rw [turnEq_st]; exact h3))
        · exact ⟨by show 1 ≤ 4; decide, by show 4 ≤ 5; decide⟩
      · split
        · unfold RF.take4
          split
          · exact st5_rise
          · exact st5_ask (st5_three rfl)
        · unfold RF.take5
          split
          · exact h
          · exact st5_ask h
theorem fed_st5 {size : Nat} {bs : List Bool} : ∀ k, St5 (fed size bs k)
  | 0 => st5_ask ⟨by show 1 ≤ 1; decide, by show 1 ≤ 5; decide⟩
  | k + 1 => by
    have ih := fed_st5 (size := size) (bs := bs) k
    cases h : (fed size bs k).wt with
    | none => rw [fed_end h]; exact ih
    | some q => rw [fed_next h]; exact st5_take ih _
theorem phi_zero {size : Nat} {bs : List Bool} (h : 0 < size) : phi size (fed size bs 0) ≤ 2 * (size - 1) := phi_ask fun hp => by
  show (if 0 + 1 = 1 then 2 * (size - (0 + 1)) else 2 * (size - (0 + 1)) + 1) ≤ _
  rw [if_pos rfl]
  omega
theorem fed_phi {size : Nat} (h1 : 0 < size) (h2 : size ≤ 2000) (bs : List Bool) : ∀ k, (∀ i, i < k → (fed size bs i).wt ≠ none) → k + phi size (fed size bs k) ≤ 2 * (size - 1)
  | 0, _ => by
    have := phi_zero (bs := bs) h1
    omega
  | k + 1, h => by
    have ih := fed_phi h1 h2 bs k (fun i hi => h i (by omega))
    have g := fed_good h1 h2 bs k
    cases e0 : (fed size bs k).wt with
    | none => exact absurd e0 (h k (by omega))
    | some q =>
      have := phi_take e0 g.wf.sp (g.ah (by rw [e0]; exact Option.some_ne_none _)) (fed_st5 k) (bs.getD k false)
      rw [← fed_next e0] at this
      omega
/-- at most two questions less than twice the items -/
theorem fed_few {size : Nat} (h1 : 0 < size) (h2 : size ≤ 2000) (bs : List Bool) {k : Nat} (h : ∀ i, i < k → (fed size bs i).wt ≠ none) : k ≤ 2 * (size - 1) := by
  have := fed_phi h1 h2 bs k h
  omega
/-- a run of two items, where there are two -/
def Long (e : Nat) (f : RF) : Prop := 2 ≤ f.pl ∨ (f.pl = 1 ∧ f.st = 1 ∧ f.wt ≠ none) ∨ e ≤ 1
theorem ask_pl {f : RF} : (f.ask 0 e).pl = f.pl := by
  unfold RF.ask
  split
  · rfl
  · split
    · unfold RF.rise RF.askUp
      split
      · exact turnEq_pl f
      · exact turnEq_pl f
    · rfl
theorem go_pl {f : RF} : f.pl ≤ (f.goOn 0 e).pl := by
  have e1 : (f.goOn 0 e).pl = f.pl + 1 := ask_pl
  omega
theorem fall_pl {f : RF} : f.pl ≤ (f.fall 0 e).pl := by
  have e1 : (f.fall 0 e).pl = f.pl + 1 := ask_pl
  omega
theorem take_pl (b : Bool) : f.pl ≤ (f.take 0 e b).pl := by
  unfold RF.take
  split
  · unfold RF.take1
    split
    · exact go_pl
    · split
      · exact fall_pl
      · exact Nat.le_refl _
  · split
    · unfold RF.take2
      split
      · exact Nat.le_refl _
      · exact fall_pl (f := f.turn 0)
    · split
      · unfold RF.take3
        split
        · refine Nat.le_trans (Nat.le_succ _) (Nat.le_of_eq ?_)
          have e1 : (f.turnEq.goOn 0 e).pl = f.turnEq.pl + 1 := ask_pl
          rw [e1, turnEq_pl]
        · exact Nat.le_refl _
      · split
        · unfold RF.take4
          split
          · have e1 : (f.rise 0 e).pl = f.pl := by
              unfold RF.rise RF.askUp
              split
              · exact turnEq_pl f
              · exact turnEq_pl f
            exact Nat.le_of_eq e1.symm
          · exact go_pl (f := { f with eq := f.eq + 1, st := 3 })
        · unfold RF.take5
          split
          · exact Nat.le_refl _
          · exact go_pl
theorem fed_long {size : Nat} {bs : List Bool} : ∀ k, Long size (fed size bs k)
  | 0 => by
    by_cases h : size ≤ 1
    · exact .inr (.inr h)
    · refine .inr (.inl ⟨ask_pl, ?_, ?_⟩)
      · show (RF.ask 0 size _).st = 1
        unfold RF.ask
        rw [if_pos (by show 0 + 1 < size; omega)]
      · show (RF.ask 0 size _).wt ≠ none
        unfold RF.ask
        rw [if_pos (by show 0 + 1 < size; omega)]
        exact Option.some_ne_none _
  | k + 1 => by
    have ih := fed_long (size := size) (bs := bs) k
    cases h : (fed size bs k).wt with
    | none => rw [fed_end h]; exact ih
    | some q =>
      rw [fed_next h]
      rcases ih with ih | ⟨i1, i2, _⟩ | ih
      · exact .inl (Nat.le_trans ih (take_pl _))
      · refine .inl ?_
        unfold RF.take
        rw [if_pos i2]
        unfold RF.take1
        rw [if_pos (show (fed size bs k).pl = 0 + 1 by omega)]
        split
        · have e1 : ((fed size bs k).goOn 0 size).pl = (fed size bs k).pl + 1 := ask_pl
          omega
        · have e1 : ((fed size bs k).fall 0 size).pl = (fed size bs k).pl + 1 := ask_pl
          omega
      · exact .inr (.inr ih)
theorem fed_two {size : Nat} (h1 : 0 < size) (h2 : size ≤ 2000) {bs : List Bool} {k : Nat} (h : (fed size bs k).wt = none) : min 2 size ≤ (fed size bs k).pl := by
  have g := (fed_good h1 h2 bs k).wf.sp
  rcases fed_long (size := size) (bs := bs) k with l | ⟨_, _, l⟩ | l
  · omega
  · exact absurd h l
  · omega
end RF
end L2

namespace L2
open PySem PySem.Spec PyProof.Rows
/-! ### what told_run tells, as data -/
def pD (q : Nat × Nat) : PyData := .tuple [.int (q.1 : Int), .int (q.2 : Int)]
def lnD : Option Nat → PyData
  | none => .none
  | some n => .int (n : Int)
def toldD (ln : Option Nat) (row : List Nat) (qs : List (Nat × Nat)) : PyData := .tuple [lnD ln, .list ((row.map fun (i : Nat) => (i : Int)).map PyData.int), .list (qs.map pD)]
theorem canLay_pairs : ∀ qs : List (Nat × Nat), PyData.canLayAll0 (qs.map pD) = true
  | [] => rfl
  | q :: r => by
    show (PyData.canLay0 (pD q) && PyData.canLayAll0 (r.map pD)) = true
    rw [canLay_pairs r]
    rfl
theorem depth_pairs : ∀ qs : List (Nat × Nat), PyData.depthAll (qs.map pD) ≤ 1
  | [] => Nat.zero_le _
  | q :: r => by
    show max (PyData.depth (pD q)) (PyData.depthAll (r.map pD)) ≤ 1
    have h1 : PyData.depth (pD q) = 1 := rfl
    have h2 := depth_pairs r
    omega
theorem shaped_told (ln : Option Nat) (row : List Nat) (qs : List (Nat × Nat)) : SeqAt.shaped (toldD ln row qs) = true := by
  unfold SeqAt.shaped
  rw [Bool.and_eq_true]
  constructor
  · show (PyData.canLay0 (lnD ln) && (PyData.canLayAll0 ((row.map fun (i : Nat) => (i : Int)).map PyData.int) && (PyData.canLayAll0 (qs.map pD) && true))) = true
    rw [canLay_ints, canLay_pairs]
    cases ln <;> rfl
  · refine decide_eq_true ?_
    show max (PyData.depth (lnD ln)) (max (PyData.depthAll ((row.map fun (i : Nat) => (i : Int)).map PyData.int) + 1) (max (PyData.depthAll (qs.map pD) + 1) 0)) + 1 ≤ 64
    have h1 : PyData.depth (lnD ln) = 0 := by cases ln <;> rfl
    have h2 := depth_pairs qs
    rw [depth_ints, h1]
    omega
theorem eqv_told (ln : Option Nat) (row : List Nat) (qs : List (Nat × Nat)) : PyData.eqv (toldD ln row qs) (toldD ln row qs) = true := SeqAt.eqv_refl _ (SeqAt.canLay_of_shaped (shaped_told ln row qs))
theorem dpAll_pairs {K : PySem.W.Frag} {H : Hp} : ∀ {ts : List V} {qs : List (Nat × Nat)}, ts.length = qs.length → (∀ (i : Nat) (v : V) (q : Nat × Nat), ts[i]? = some v → qs[i]? = some q → PairAt H v q) → DpAll K H ts (qs.map pD)
  | [], [], _, _ => .nil
  | v :: ts, q :: qs, hl, h => by
    obtain ⟨t, e, ht⟩ := h 0 v q rfl rfl
    subst e
    refine .cons (.tup (L2.st_of ht) (.cons (.int _) (.cons (.int _) .nil))) (dpAll_pairs (by simpa using hl) fun i v' q' h1 h2 => h (i + 1) v' q' h1 h2)
theorem dp_told {K : PySem.W.Frag} {H : Hp} {t r l : Addr} {ln : Option Nat} {row : List Nat} {qs : List (Nat × Nat)} (ht : H t = some (.tup [lenV ln, .ref r, .ref l])) (hr : H r = some (.lst (nV row))) (hq : QAt H l qs) : Dp K H (.ref t) (toldD ln row qs) := by
  obtain ⟨ts, h1, h2, h3⟩ := hq
  refine .tup (L2.st_of ht) (.cons ?_ (.cons ?_ (.cons (.lst (L2.sq_of h1) (dpAll_pairs h2 h3)) .nil)))
  · cases ln with
    | none => exact .non
    | some n => exact .int _
  · exact dp_ints (by rw [← nV_map]; exact L2.sq_of hr)
/-- a sorted row of the same ints is one -/
theorem sorted_one : ∀ {a b : List Int}, a.Perm b → a.Pairwise (· ≤ ·) → b.Pairwise (· ≤ ·) → a = b
  | [], b, p, _, _ => (List.nil_perm.mp p).symm
  | x :: a, b, p, ha, hb => by
    cases b with
    | nil => exact absurd p.length_eq (by simp)
    | cons y b =>
      have ha' := List.pairwise_cons.mp ha
      have hb' := List.pairwise_cons.mp hb
      have e : x = y := by
        have h1 : x ∈ y :: b := p.mem_iff.mp List.mem_cons_self
        have h2 : y ∈ x :: a := p.mem_iff.mpr List.mem_cons_self
        rcases List.mem_cons.mp h1 with h1 | h1
        · exact h1
        · rcases List.mem_cons.mp h2 with h2 | h2
          · exact h2.symm
          · have := hb'.1 x h1
            have := ha'.1 y h2
            omega
      subst e
      rw [sorted_one (List.perm_cons x |>.mp p) ha'.2 hb'.2]
theorem range_sorted (n : Nat) : ((List.range n).map fun (i : Nat) => (i : Int)).Pairwise (· ≤ ·) := by
  rw [List.pairwise_map]
  exact List.Pairwise.imp (fun h => by omega) (List.pairwise_lt_range (n := n))
end L2

/-! sum of a list or a tuple of ints -/
namespace L2
open PySem PySem.Spec PyProof.Rows
theorem preSum_getD (ns : List Int) : ∀ k, k ≤ ns.length → preSum (fun i => ns.getD i 0) k = (ns.take k).sum
  | 0, _ => rfl
  | k + 1, h => by
    have ih := preSum_getD ns k (by omega)
    rw [List.take_add_one, List.getElem?_eq_getElem (by omega), List.sum_append, ← ih]
    simp [preSum, List.getD_eq_getElem?_getD, List.getElem?_eq_getElem (show k < ns.length by omega)]
def rSumLT (K : PySem.W.Frag) : List V → Hp → VK → Prop := fun vs H Q => ∃ (a : Addr) (ns : List Int), vs = [V.ref a] ∧ (SqL K H a (ns.map V.int) ∨ SqT K H a (ns.map V.int)) ∧ Q (.int ns.sum) H
theorem cr_sumLT {X : Cx} (hc : X.calm = true) : CallR X (.builtin "sum") (rSumLT X.K) := by
  intro pins s σ H vs us Q I r h
  obtain ⟨a, ns, rfl, hs | hs, q⟩ := h
  · exact cr_sum hc pins s σ H _ us Q I r ⟨a, ns, rfl, hs, q⟩
  · obtain ⟨its, rv, pt, hz⟩ := I.tuple hs
    have hi : IntsAre its.toArray.toList ns := ints_of_vals rv
    have ist : s.heap.IsTuple a its.toArray := pt
    have ln : its.toArray.size = ns.length := by rw [← Array.length_toList]; exact IntsAre.length hi
    have ha : a < s.heap.objs.size := by
      obtain ⟨o, ho, _⟩ := id ist
      exact Heap.lt_size ho
    rw [Vals.ref1 r]
    refine call_sum_walkG (wpAny_pyIter_tuple ist ⟨_, _, _, _, _, _, fun i => ns.getD i 0, rfl, Walks.tuple (A := X.A.in1) (I.ok.hd hc) _ a (Nat.ne_of_lt ha) its.toArray, ⟨⟨_, Heap.get?_push_size _ rfl, rfl, rfl⟩, ist.push _⟩, ?_, ?_, ?_⟩)
    · intro b hb
      rw [Heap.size_push]
      rcases List.mem_cons.mp hb with e | hb
      · rw [e]
        exact Nat.lt_succ_self _
      · rw [List.mem_singleton.mp hb]
        exact Nat.lt_succ_of_lt ha
    · intro i v hv
      exact PyProof.Rows.IntsAre.int_at hi i v (by rw [Array.getElem?_toList]; exact hv)
    · intro h2 tk t2 hk
      have e : preSum (fun i => ns.getD i 0) its.toArray.size = ns.sum := by
        rw [ln, preSum_getD ns _ (Nat.le_refl _), List.take_length]
      rw [e]
      refine ⟨.int _, H, I.kept (t' := tk) fun b o ho => hk b o ?_ (Heap.get?_push_of_some _ ho), ⟨_, rfl⟩, q⟩
      intro z
      have := Heap.lt_size ho
      rw [List.mem_singleton.mp z] at this
      exact Nat.lt_irrefl _ this
end L2

/-! a comprehension over zip of two lists that are equally long -/
namespace L2
open PySem PySem.Spec PyProof.Rows
theorem lc_zip2 {K : PySem.W.Frag} {a b : Addr} {xs ys : List V} {g : TG} {tt : TT} {te : TE} {vs : List Nat} {σ : L2.St} {H1 : Hp} {D : Addr} {Qd : Hp → Prop} (le : xs.length = ys.length) (Pv : Nat → Hp → Prop) (h0 : Pv 0 (upd H1 D (.lst []))) (hl : ∀ i H, Pv i H → SqL K H a xs ∧ SqL K H b ys)
    (hs : ∀ i x y H T, xs[i]? = some x → ys[i]? = some y → Pv i H → H T = none → g (.ref T) (wipe σ vs) (upd H T (.tup [x, y])) fun σ2 H2 => wipe σ2 vs = wipe σ vs ∧ tt σ2 H2 fun c H3 =>
      if c = true then te σ2 H3 fun y H4 => ∃ acc, H4 D = some (.lst acc) ∧ acc.length < sizeLine ∧ Pv (i + 1) (upd H4 D (.lst (acc ++ [y]))) else Pv (i + 1) H3) (hd : ∀ H, Pv xs.length H → Qd H) :
    ∃ W : Nat → Nat → Hp → Prop, (∃ m, W 0 m (upd H1 D (.lst []))) ∧ ∀ i m H, W i m H →
      ((Itz K a b).stop i H ∧ Qd H) ∨ ((Itz K a b).go i H ∧ ∃ Nx : Hp → Prop, (∀ H', Nx H' → ∃ m', m' < m ∧ W (i + 1) m' H') ∧ ∀ x H', (Itz K a b).yld i H x H' → g x (wipe σ vs) H' fun σ2 H2 => wipe σ2 vs = wipe σ vs ∧ tt σ2 H2 fun c H3 =>
        if c = true then te σ2 H3 fun y H4 => ∃ acc, H4 D = some (.lst acc) ∧ acc.length < sizeLine ∧ Nx (upd H4 D (.lst (acc ++ [y]))) else Nx H3) := by
  refine ⟨fun i m H => m = xs.length - i ∧ i ≤ xs.length ∧ Pv i H, ⟨xs.length, by simp, Nat.zero_le _, h0⟩, ?_⟩
  rintro i m H ⟨rfl, hi, p⟩
  obtain ⟨qa, qb⟩ := hl i H p
  by_cases hlt : i < xs.length
  · refine .inr ⟨⟨xs, ys, xs[i], ys[i], qa, qb, by simp [hlt], by simp [← le, hlt]⟩, Pv (i + 1), fun H' p' => ⟨xs.length - (i + 1), by omega, rfl, hlt, p'⟩, fun x H' y => ?_⟩
    obtain ⟨T, u, v, e, nT, eH, f, f2⟩ := y
    subst e eH
    exact hs i u v _ T (f xs qa) (f2 ys qb) p nT
  · have e : i = xs.length := by omega
    subst e
    exact .inl ⟨⟨xs, ys, qa, qb, .inl (Nat.le_refl _)⟩, hd H p⟩
end L2

/-! sorted(xs, key=lambda x: g[x]), g a list of ints that is captured -/
namespace L2
open PySem PySem.Spec PyProof.Rows PySem.W LamX
section
variable {prog : Program} {w : World} {A : Around} {s : Shared}
/-- the lambda called with an index: it gives the item, and the heap only grows -/
theorem lam_key {qual : Str} {params : Arguments} {scope : Scope} {cl : List (Str × Addr)} {pm ctv : Value} {f c' c p : Addr} {g x : Str} {xp gp pos : Pos} {its : List Value} {i : Nat} {n : Int} {t t2 : Tok}
    (hroom : A.depth < recursionLimit) (lim : s.heap.NoLimit)
    (of1 : s.heap.get? f = some (kla_obj "<lambda>" qual params (.Subscript (.Name g gp) (.Name x xp) pos) scope cl pm c' ctv)) (hcd : s.heap.CodeRec (.ref c') qual)
    (hbind : ∀ v : Value, bindArgs (kla_fn "<lambda>" qual params (.Subscript (.Name g gp) (.Name x xp) pos) scope cl pm (.ref c') ctv) ⟨[v], []⟩ = pure [(x, v)])
    (hk : scope.kind = .function) (hco : scope.isCoroutine = false) (hgen : scope.isGenerator = false) (hcell : ∀ y ∈ scope.names, y.2 ≠ .cell) (hx : scope.names.lookup x = some .local) (hg : scope.names.lookup g = some .free)
    (hc : cl.lookup g = some c) (hcc : s.heap.IsCell c (some (.ref p))) (hl : s.heap.IsList p its.toArray) (hi : its[i]? = some (.int n t2))
    (hsz : its.length ≤ sizeLine)
    (d1 : (x == ("__debug__" : Str)) = false) (d2 : (g == ("__debug__" : Str)) = false) (d3 : (g == ("__classdict__" : Str)) = false) :
    wpAny (model prog w) A (call (.ref f) [.int (i : Int) t]) (KeyPure (.int n) s) (fun _ _ => False) s := by
  refine wpAny_call ?_
  refine kla_callFunE hroom of1 rfl hco hgen rfl hcd ?_
  rw [hbind]
  refine wpAny_pure (wpAny_newFunctionEnv hcell (fun y hy => by rw [List.mem_singleton.mp hy]; exact hx) (fun h₁ hns hsb => ⟨lim.fresh _ hsb, ?_⟩) hk)
  show codeAny _ _ (.expr _ (envX qual scope s.heap.objs.size f (.ref c') cl)) _ _
  have kp : ∀ b o, s.heap.get? b = some o → h₁.get? b = some o := fun b o e => hsb.extBut b o (Nat.ne_of_lt (Heap.lt_size e)) (Heap.get?_push_of_some _ e)
  have hcc1 : h₁.IsCell c (some (.ref p)) := by
    obtain ⟨o, ho, hd⟩ := hcc
    exact ⟨o, kp _ _ ho, hd⟩
  have hl1 : h₁.IsList p its.toArray := by
    obtain ⟨o, ho, hd⟩ := hl
    exact ⟨o, kp _ _ ho, hd⟩
  refine kla_codeExpr ?_
  refine PySem.wpAny_Subscript_Name (T := "list") slot_list_getitem.lookup ?_
  refine wpAny_Name (wpAny_loadName_free (c := c) (v := .ref p) hk hg hc hcc1 ?_ d3) d2
  refine wpAny_Name (wpAny_loadName_local (m := fun y => ([(x, Value.int (i : Int) t)]).reverse.lookup y) hk hx hns (v := .int (i : Int) t) ?_ ?_) d1
  · show List.lookup x [(x, _)] = _
    simp [List.lookup]
  have li : i < its.length := (List.getElem?_eq_some_iff.mp hi).1
  have h63 := line63
  refine ⟨hl1.typeIs, getItem_listL hl1 (by omega) (by omega) (by rw [Int.toNat_natCast]; exact hi) ⟨h₁, _, rfl, kp, Reads.int _ _⟩⟩
end
theorem key_each : ∀ {us : List Value} {ns : List Int}, IntsAre us ns → EachIs (fun v a => ∃ t, v = Value.int a t) us ns
  | _, _, .nil => .nil
  | _, _, .cons n t h => .cons ⟨t, rfl⟩ (key_each h)
theorem key_ints : ∀ {us : List Value} {ns : List Int}, EachIs (fun v a => ∃ t, v = Value.int a t) us ns → IntsAre us ns
  | _, _, .nil => .nil
  | _, _, .cons ⟨t, e⟩ h => by
    subst e
    exact .cons _ t (key_ints h)
theorem SqL.extN {K : PySem.W.Frag} {H H' : Hp} {a : Addr} {xs : List V} (e : ExtN H H') (h : SqL K H a xs) : SqL K H' a xs := by
  rcases h with (h | ⟨o, h⟩) | h
  · exact .inl (.inl (e _ _ h fun ps z => by cases z))
  · exact .inl (.inr ⟨o, e _ _ h fun ps z => by cases z⟩)
  · exact .inr h
def gSortKL (K : PySem.W.Frag) (T : List (Addr × Str)) (j : Nat) (σ : L2.St) (Q : VK) : VK := fun v H1 => Tabs T H1 ∧ ∃ (l p : Addr) (ns ms : List Int), v = .ref l ∧ σ[j]? = some (some (.ref p)) ∧ SqL K H1 l (ns.map V.int) ∧ SqL K H1 p (ms.map V.int) ∧ (∀ n ∈ ns, 0 ≤ n ∧ n < (ms.length : Int)) ∧
  ∀ (H2 : Hp) (r : Addr), ExtN H1 H2 → Tabs T H2 → H2 r = none → Q (.ref r) (upd H2 r (.lst ((ns.mergeSort fun a b => decide (ms.getD a.toNat 0 ≤ ms.getD b.toNat 0)).map V.int)))
def tSortKL (K : PySem.W.Frag) (T : List (Addr × Str)) (j : Nat) (te : TE) : TE := fun σ H Q => te σ H (gSortKL K T j σ Q)
section
variable {X : Cx}
theorem pe_sortedKL {T : List (Addr × Str)} {j : Nat} {te : TE} {e : Expr} {g x : Str} {params : Arguments} {scope : Scope} {c P : Addr} {sp pos lpos kpos gp xp bp : Pos} (hr : Room 2 X.A)
    (hg : Gl X "sorted") (hm : X.mg "sorted" = none) (hpa : PA X [e] (tCons te tNil))
    (TB : TabB X.base X.mg c P) (hcode : X.env.code = .ref c) (hmT : (P, X.env.qual ++ "<lambda>") ∈ T) (hu : ∀ p ∈ T, p.1 = P → p.2 = X.env.qual ++ "<lambda>")
    (hfree : ∀ y ∈ scope.names, y.2 = .free → X.env.scope.names.lookup y.1 = some .cell ∨ X.env.scope.names.lookup y.1 = some .free) (hdef : defaultsOf params X.env = ([], []))
    (hk : scope.kind = .function) (hco : scope.isCoroutine = false) (hgen : scope.isGenerator = false) (hcell : ∀ y ∈ scope.names, y.2 ≠ .cell) (hx : scope.names.lookup x = some .local) (hgf : scope.names.lookup g = some .free)
    (hgN : X.N[j]? = some g) (hgc : X.env.scope.names.lookup g = some .cell)
    (hbind : ∀ (q : Str) (cl : List (Str × Addr)) (pm cv ctv v : Value), bindArgs (kla_fn "<lambda>" q params (.Subscript (.Name g gp) (.Name x xp) bp) scope cl pm cv ctv) ⟨[v], []⟩ = pure [(x, v)])
    (hst : backTo pos (starEach [e] X.env) = (false, eval e X.env) :: backTo pos (starEach [] X.env) := by rfl) (hpl : (backTo pos (starEach [e] X.env)).any (·.1) = false := by rfl)
    (d1 : (x == ("__debug__" : Str)) = false := by decide) (d2 : (g == ("__debug__" : Str)) = false := by decide) (d3 : (g == ("__classdict__" : Str)) = false := by decide) :
    PE X (.Call (.Name "sorted" sp) [e] [⟨some (Str.ofString "key"), .Lambda params (.Subscript (.Name g gp) (.Name x xp) bp) scope lpos, kpos⟩] pos) (tSortKL X.K T j te) := by
  refine ⟨fun pins s σ H Q I h => ?_⟩
  refine wpAny_Call_Name_kw (ld_blt I hg hm (show bootBuiltins "sorted" = some (.builtin "sorted") by decide +kernel) ?_)
  refine PyProof.Rows.callWith_kw (thn (hpa.run pos pins s σ H (fun vs H1 => match vs with | [v] => gSortKL X.K T j σ Q v H1 | _ => False) I ?_) fun us s1 ⟨vs, H1, I1, r1, q1⟩ => ?_) hst hpl
  · exact h
  match vs, q1, r1 with
  | [v], q1, r1 =>
  obtain ⟨hT, l, p, ns, ms, rfl, hj, hl, hp, hb, q⟩ := (show gSortKL X.K T j σ Q v H1 from q1)
  obtain rfl := Vals.ref1 r1
  have hfC : ∀ y ∈ scope.names, y.2 = .free → ∃ c, X.env.cells.lookup y.1 = some c := fun y hy e => (hfree y hy e).elim (fun z => I1.ok.has _ (.inl z)) fun z => I1.ok.has _ (.inr z)
  refine wpAny_evalAll_cons (wpAny_bind (lam_make2 I1 TB hcode hmT hu hT hdef hfC fun f c' pm' ctv H2 s2 I2 eN T2 hf hfn hfr hco' => wpAny_bind (wpAny_standAt (wpAny_pure ?_))))
  refine wpAny_evalAll_nil ?_
  show wpAny _ _ (call (.builtin "sorted") [.ref l] [(Str.ofString "key", .ref f)]) _ _ _
  obtain ⟨its, rv, hpl2, hz⟩ := I2.list (hl.extN eN)
  obtain ⟨mts, mv, hml, hmz⟩ := I2.list (hp.extN eN)
  have hz : ns.length ≤ sizeLine := by rw [List.length_map] at hz; exact hz
  have hei := key_each rv.ints
  refine sorted_key_data (b := false) (fun a : Int => .int (ms.getD a.toNat 0)) hpl2.isList hei (AllAlike.of fun _ _ => by simp [alike]) (Sortable.others fun _ => ⟨(fun z => by cases z), (fun _ z => by cases z)⟩) hz (fun a _ => ?_) (ksk_s1 _ _) (fun _ => ksk_l1 _ _) (fun _ => ksk_t1 _ _) (fun v a hva ha h tk kp => ?_) fun out c2 h' tk kp fresh hD lout eo => ?_
  · have := hr.un
    show X.A.units + 2 + 0 < cLine
    omega
  · obtain ⟨t, rfl⟩ := hva
    obtain ⟨b0, b1⟩ := hb a ha
    obtain ⟨i, rfl⟩ : ∃ i : Nat, a = (i : Int) := ⟨a.toNat, (Int.toNat_of_nonneg b0).symm⟩
    have hi : i < ms.length := by omega
    obtain ⟨m, hn, hlk⟩ := I2.loc
    obtain ⟨u, ru, lk⟩ := hlk j g (.ref p) hgN hj (.inr (.inl hgc))
    obtain rfl : u = Value.ref p := ru
    have hgc2 : X.env.kindOf g = some .cell := hgc
    obtain ⟨c0, hc0, hcc⟩ : ∃ c0, X.env.cells.lookup g = some c0 ∧ s2.heap.IsCell c0 (some (.ref p)) := by
      rcases lk with ⟨z, _⟩ | ⟨_, c0, a1, a2⟩
      · rw [hgc2] at z
        cases z
      · exact ⟨c0, a1, a2⟩
    have hcl : (cloFrom X.env.cells scope.names []).lookup g = some c0 := NdefX.clo_has hfC (PySem.mem_of_lookup hgf) hc0
    have hmi : (ms.map V.int)[i]? = some (V.int (ms.getD i 0)) := by
      rw [List.getElem?_map, List.getElem?_eq_getElem hi]
      simp [List.getD_eq_getElem?_getD, List.getElem?_eq_getElem hi]
    obtain ⟨wv, ew, t2, rfl⟩ := mv.get hmi
    obtain ⟨⟨oc, vs', tq, k1, k2, k3⟩, _, _⟩ := I2.hok c' _ hco'
    rw [Int.toNat_natCast]
    refine lam_key (c := c0) (p := p) (its := mts) (t2 := t2) hr.in1.in1.depth ?_ (kp _ _ hf) ⟨c', oc, vs', tq, rfl, kp _ _ k1, k2, k3⟩ (fun v => hbind _ _ _ _ _ v) hk hco hgen hcell hx hgf hcl ?_ ?_ ew ?_ d1 d2 d3
    · exact I2.nolimit.keeps kp
    · obtain ⟨o, ho, hd⟩ := hcc
      exact ⟨o, kp _ _ ho, hd⟩
    · obtain ⟨o, ho, hd⟩ := hml.isList
      exact ⟨o, kp _ _ ho, hd⟩
    · rw [← mv.length]
      exact hmz
  · rw [dataLe_int] at eo
    have hlen : ((ns.mergeSort fun a b => decide (ms.getD a.toNat 0 ≤ ms.getD b.toNat 0)).map V.int).length ≤ sizeLine := by
      rw [List.length_map, List.length_mergeSort]
      exact hz
    exact ⟨.ref _, _, I2.laid (o := .lst ((ns.mergeSort fun a b => decide (ms.getD a.toNat 0 ≤ ms.getD b.toNat 0)).map V.int)) (t' := tk) kp (Nat.le_succ _) ⟨hlen, out, c2, vals_of_ints (key_ints eo), hD⟩, rfl, q _ _ eN T2 (I2.hok.fresh (Nat.le_succ _))⟩
/-- the names of the lambda and of the def that makes it -/
def keyScB (sc scope : Scope) (x g : Str) : Bool :=
  decide (scope.kind = .function) && !scope.isCoroutine && !scope.isGenerator && scope.names.all (fun y => !decide (y.2 = .cell)) && decide (scope.names.lookup x = some .local) && decide (scope.names.lookup g = some .free) && decide (sc.names.lookup g = some .cell) &&
    scope.names.all fun y => !decide (y.2 = .free) || decide (sc.names.lookup y.1 = some .cell) || decide (sc.names.lookup y.1 = some .free)
/-- .. with one table -/
theorem pe_sortedK1 {j : Nat} {te : TE} {e : Expr} {g x q : Str} {params : Arguments} {scope : Scope} {c P : Addr} {sp pos lpos kpos gp xp bp : Pos} (hr : Room 2 X.A)
    (hg : Gl X "sorted") (hm : X.mg "sorted" = none) (hpa : PA X [e] (tCons te tNil)) (TB : TabB X.base X.mg c P) (hcode : X.env.code = .ref c) (hq : X.env.qual ++ "<lambda>" = q) (hsc : keyScB X.env.scope scope x g = true) (hdef : defaultsOf params X.env = ([], []))
    (hgN : X.N[j]? = some g)
    (hbind : ∀ (q : Str) (cl : List (Str × Addr)) (pm cv ctv v : Value), bindArgs (kla_fn "<lambda>" q params (.Subscript (.Name g gp) (.Name x xp) bp) scope cl pm cv ctv) ⟨[v], []⟩ = pure [(x, v)])
    (hst : backTo pos (starEach [e] X.env) = (false, eval e X.env) :: backTo pos (starEach [] X.env) := by rfl) (hpl : (backTo pos (starEach [e] X.env)).any (·.1) = false := by rfl)
    (d1 : (x == ("__debug__" : Str)) = false := by decide) (d2 : (g == ("__debug__" : Str)) = false := by decide) (d3 : (g == ("__classdict__" : Str)) = false := by decide) :
    PE X (.Call (.Name "sorted" sp) [e] [⟨some (Str.ofString "key"), .Lambda params (.Subscript (.Name g gp) (.Name x xp) bp) scope lpos, kpos⟩] pos) (tSortKL X.K [(P, q)] j te) := by
  unfold keyScB at hsc
  simp only [Bool.and_eq_true, Bool.or_eq_true, Bool.not_eq_true', decide_eq_true_eq, decide_eq_false_iff_not, List.all_eq_true] at hsc
  obtain ⟨⟨⟨⟨⟨⟨⟨h1, h2⟩, h3⟩, h4⟩, h5⟩, h6⟩, h7⟩, h8⟩ := hsc
  exact pe_sortedKL hr hg hm hpa TB hcode (List.mem_singleton.mpr (by rw [hq])) (fun p hp _ => by rw [List.mem_singleton.mp hp, hq]) (fun y hy e => (h8 y hy).elim (fun z => z.elim (fun z => absurd e z) .inl) .inr) hdef h1 h2 h3 h4 h5 h6 hgN h7 hbind hst hpl d1 d2 d3
end
section
variable {P : Program} {w : World} {K : PySem.W.Frag} {mg : Str → Option Value} {base : Heap}
/-- a def whose code object is known -/
theorem Fun.okC {x qual : Str} {st : Stmt} {f c : Addr} {fd : FuncData} {N ps : List Str} {k : Nat} {sp : Sp} (F : Fun K x qual st f fd) (hc : fd.code = .ref c) (S : FnScope N ps (defScope st)) (len : ∀ vs H Q E, sp vs H Q E → vs.length = ps.length)
    (hbody : ∀ (A : Around) (outer : List Env) (s : Shared) (H : Hp) (vs : List V) (Q : VK) (E : XK), Room k (A.deeper (envOfC qual (defScope st) s.heap.objs.size f (.ref c))) → sp vs H Q E →
      ∃ t, PSs (cxOf CX0 P w K mg base N qual (defScope st) f (.ref c) A outer s H E).nox (defBody st) t ∧ t { nx := fun _ H' => Q .non H', rt := Q } (start N vs) H) : FnOk P w K mg base CX0 (k + 1) f fd ps sp := by
  obtain ⟨oc, od, kV, doc, pm, an, cdv, ct, osl, rfl, lk, hcd⟩ := F.ex
  have e : cdv = .ref c := hc
  subst e
  refine fn_of lk hcd S len fun A outer s H vs Q E hr hsp => ?_
  obtain ⟨t, h, q⟩ := hbody A outer s H vs Q E hr hsp
  exact ⟨t, h.nox, q⟩
end
end L2

/-! a lambda of one parameter that is handed to a def with other things -/
namespace L2
open PySem PySem.Spec PyProof.Rows PySem.W LamX
/-- one parameter, no other name of its own: captured ones and globals -/
structure LamS1 (sc scope : Scope) (x : Str) : Prop where
  kind : scope.kind = .function
  co : scope.isCoroutine = false
  gen : scope.isGenerator = false
  own : ∀ y ∈ scope.names, y.2 ≠ .cell
  loc : ∀ y ∈ scope.names, y.2 = .local → y.1 = x
  hx : scope.names.lookup x = some .local
  free : ∀ y ∈ scope.names, y.2 = .free → sc.names.lookup y.1 = some .cell ∨ sc.names.lookup y.1 = some .free
def lamS1B (sc scope : Scope) (x : Str) : Bool :=
  decide (scope.kind = .function) && !scope.isCoroutine && !scope.isGenerator && decide (scope.names.lookup x = some .local) && scope.names.all fun y => !decide (y.2 = .cell) && (!decide (y.2 = .local) || decide (y.1 = x)) && (!decide (y.2 = .free) || decide (sc.names.lookup y.1 = some .cell) || decide (sc.names.lookup y.1 = some .free))
theorem lamS1_by {sc scope : Scope} {x : Str} (h : lamS1B sc scope x = true) : LamS1 sc scope x := by
  unfold lamS1B at h
  simp only [Bool.and_eq_true, Bool.or_eq_true, Bool.not_eq_true', decide_eq_true_eq, decide_eq_false_iff_not, List.all_eq_true] at h
  obtain ⟨⟨⟨⟨h1, h2⟩, h3⟩, h5⟩, h4⟩ := h
  refine ⟨h1, h2, h3, fun y hy => (h4 y hy).1.1, fun y hy e => ?_, h5, fun y hy e => ?_⟩
  · rcases (h4 y hy).1.2 with z | z
    · exact absurd e z
    · exact z
  · rcases (h4 y hy).2 with (z | z) | z
    · exact absurd e z
    · exact .inl z
    · exact .inr z
theorem LamS1.has {X : Cx} {scope : Scope} {x : Str} (L : LamS1 X.env.scope scope x) (ok : X.Ok) : ∀ y ∈ scope.names, y.2 = .free → ∃ c, X.env.cells.lookup y.1 = some c := fun y hy e => by
  rcases L.free y hy e with k | k
  · exact ok.has _ (.inl k)
  · exact ok.has _ (.inr k)
/-- the context of the lambda's body: the names of the def that made it, and the parameter behind them -/
def lamCx1 (X : Cx) (A : Around) (outer : List Env) (s : Shared) (H : Hp) (E : XK) (scope : Scope) (x : Str) (f c' : Addr) : Cx := { lamCx X A outer s H E scope f c' with N := X.N ++ [x] }
section
variable {X : Cx} {pins : List (Addr × Obj)} {σ : L2.St} {H HZ : Hp} {s s1 : Shared}
theorem lam_start1 {A : Around} {outer : List Env} {E : XK} {scope : Scope} {x : Str} {v : V} {u : Value} {f c' : Addr} {h₁ : Heap} {tk : Nat} (I : Inv X pins σ H s) (L : LamS1 X.env.scope scope x) (hxN : x ∉ X.N) (r : L2.RelV v u) (e0 : Env0 X.prog X.w X.K X.mg X.base A outer s1 HZ) (hd : A.handled = none)
    (un : Un (frs X.stack) [] H HZ s.heap s1.heap) (hns : h₁.Ns s1.heap.objs.size fun y => ([(x, u)] : List (Str × Value)).reverse.lookup y) (kp : ∀ b o, s1.heap.get? b = some o → h₁.get? b = some o) :
    Inv (lamCx1 X A outer s1 HZ E scope x f c') [] (σ ++ [some v]) HZ { s1 with heap := h₁, toks := tk } := by
  have hfree := L.has I.ok
  have cm : ∀ {y c}, (cloFrom X.env.cells scope.names []).lookup y = some c → X.env.cells.lookup y = some c := fun {y c} e => by
    rcases cloFrom_mem (PySem.mem_of_lookup e) with hm | ⟨h1, h2⟩
    · cases hm
    · obtain ⟨c1, hc⟩ := hfree _ h1 rfl
      have hc : X.env.cells.lookup y = some c1 := hc
      have e2 : c = c1 := by
        rw [h2, hc] <;> rfl
      rw [e2]
      exact hc
  have look : ∀ {y}, scope.names.lookup y = some .free → ∃ c, (cloFrom X.env.cells scope.names []).lookup y = some c := fun {y} hl => by
    have hy : (y, NameKind.free) ∈ scope.names := PySem.mem_of_lookup hl
    exact mem_lookup (cloFrom_has (cells := X.env.cells) (acc := []) hy)
  have cellK : ∀ {c : Addr} {v : Option Value}, H c = none → s.heap.IsCell c v → h₁.IsCell c v := fun {c v} n ⟨o, ho, hd⟩ => by
    obtain ⟨sl, q⟩ := un.any ho n (by simp)
    exact ⟨_, kp _ _ q, hd⟩
  have noA : ∀ b : Addr, b ∉ (lamCx1 X A outer s1 HZ E scope x f c').ex := fun b z => absurd (show b ∈ ([] : List Addr) from z) (by simp)
  have ln := I.len
  refine ⟨⟨e0.mod, L.kind, rfl, rfl, Nat.le_refl _, fun y z c e1 e2 => I.ok.inj y z c (cm e1) (cm e2), fun y hy => ?_, fun y c z _ => ?_, fun _ => hd, Around.frames_deeper e0.frames, .inr ⟨rfl, rfl⟩, fun b z => absurd z (noA b), e0.bs, e0.bsz, fun b _ _ => noA b,
      fun b z => absurd z (noA b), e0.funs, e0.frf⟩,
    rfl, e0.bare, Un.kept kp, ⟨_, hns, fun i y v' e1 e2 e3 => ?_⟩, fun y c e => ?_, e0.hok.fresh (Nat.le_refl _), fun y c e => ?_, fun q hq => absurd (show q ∈ ([] : List (Addr × Obj)) ++ [] from hq) (by simp), e0.hok.kept kp, ?_⟩
  · have hy : scope.names.lookup y = some .cell ∨ scope.names.lookup y = some .free := hy
    rcases hy with hy | hy
    · exact absurd rfl (L.own _ (PySem.mem_of_lookup hy))
    · exact look hy
  · have z : false = true := z
    cases z
  · have e1 : (X.N ++ [x])[i]? = some y := e1
    have e3 : Vis scope y := e3
    by_cases hi : i < X.N.length
    · rw [List.getElem?_append_left hi] at e1
      rw [List.getElem?_append_left (by omega)] at e2
      have nx : y ≠ x := fun z => hxN (z ▸ List.mem_of_getElem? e1)
      rcases e3 with k | k | k
      · exact absurd (L.loc _ (PySem.mem_of_lookup k) rfl) nx
      · exact absurd rfl (L.own _ (PySem.mem_of_lookup k))
      · obtain ⟨m, hn, hl⟩ := I.loc
        have hvis : Vis X.env.scope y := (L.free _ (PySem.mem_of_lookup k) rfl).elim (fun k => .inr (.inl k)) (fun k => .inr (.inr k))
        obtain ⟨w', r, q⟩ := hl i y v' e1 e2 hvis
        obtain ⟨c2, h2⟩ := look k
        refine ⟨w', r, .inr ⟨.inr k, c2, h2, ?_⟩⟩
        have c1 := cm h2
        rcases q with ⟨k', _⟩ | ⟨_, c3, e', z⟩
        · have k' : X.env.scope.names.lookup y = some .local := k'
          rcases L.free _ (PySem.mem_of_lookup k) rfl with k2 | k2 <;> rw [show X.env.scope.names.lookup y = _ from k2] at k' <;> cases k'
        · rw [c1] at e'
          cases e'
          exact cellK (I.freeC y _ c1) z
    · rw [List.getElem?_append_right (by omega)] at e1
      rw [List.getElem?_append_right (by omega)] at e2
      obtain hz : i - X.N.length = 0 := by
        cases h : i - X.N.length with
        | zero => rfl
        | succ j => rw [h] at e1; simp at e1
      rw [hz] at e1
      rw [ln, hz] at e2
      obtain rfl : x = y := Option.some.inj e1
      obtain rfl : v = v' := Option.some.inj (Option.some.inj e2)
      refine ⟨u, r, .inl ⟨L.hx, ?_⟩⟩
      show List.lookup x [(x, u)] = some u
      simp [List.lookup]
  · obtain ⟨w', z⟩ := I.cell y c (cm e)
    exact ⟨w', cellK (I.freeC y c (cm e)) z⟩
  · obtain ⟨v, o, ho, hd⟩ := I.cell y c (cm e)
    exact un.free c o ho (I.freeC y c (cm e)) (by simp)
  · show (σ ++ [some v]).length = (X.N ++ [x]).length
    rw [List.length_append, List.length_append, ln]
    rfl
/-- x(e), in the def that got the lambda: Z is that def's context, entered at s -/
theorem pe_act1 {CXg : CXT} {Eg : XK} {Ng : List Str} {qg : Str} {sg : Scope} {g f c' : Addr} {cdg pm ctv : Value} {params : Arguments} {body : Expr} {scope : Scope} {k i : Nat} {a x : Str} {pn : List (Addr × Obj)} {xe : Value → Shared → Prop} {W : WX} {E : XK} {tb te : TE} {e : Expr} {p1 p2 : Pos}
    (I : Inv X pins σ H s) (L : LamS1 X.env.scope scope x) (hxN : x ∉ X.N) (hf : s.heap.get? f = some (PySem.W.kla_obj "<lambda>" (X.env.qual ++ "<lambda>") params body scope (cloFrom X.env.cells scope.names []) pm c' ctv)) (hfn : H f = none) (hfr : f ∉ frs X.stack)
    (hbind : ∀ u : Value, bindArgs (PySem.W.kla_fn "<lambda>" (X.env.qual ++ "<lambda>") params body scope (cloFrom X.env.cells scope.names []) pm (.ref c') ctv) ⟨[u], []⟩ = pure [(x, u)])
    (tk : Takes ((cxOf CXg X.prog X.w X.K X.mg X.base Ng qg sg g cdg X.A X.stack s H Eg).tr pn xe) W) (hW : ∀ cls d σ' H', E cls d H' → W cls d σ' H') (hr : Room (k + 1) (X.A.deeper (envOfC qg sg s.heap.objs.size g cdg)))
    (hbody : ∀ (A : Around) (outer : List Env) (s : Shared) (H : Hp), Room k (A.deeper (lamEnv X scope s.heap.objs.size f c')) → PE (lamCx1 X A outer s H E scope x f c') body tb)
    (hN : Ng[i]? = some a) (hv : Vis sg a) (he : PE ((cxOf CXg X.prog X.w X.K X.mg X.base Ng qg sg g cdg X.A X.stack s H Eg).tr pn xe) e te) (hd : (a == ("__debug__" : Str)) = false := by decide) (hcd : (a == ("__classdict__" : Str)) = false := by decide)
    (hs : starEach [e] ((cxOf CXg X.prog X.w X.K X.mg X.base Ng qg sg g cdg X.A X.stack s H Eg).tr pn xe).env = (false, eval e ((cxOf CXg X.prog X.w X.K X.mg X.base Ng qg sg g cdg X.A X.stack s H Eg).tr pn xe).env) :: starEach [] ((cxOf CXg X.prog X.w X.K X.mg X.base Ng qg sg g cdg X.A X.stack s H Eg).tr pn xe).env := by rfl)
    (hpl : (backTo p2 (starEach [] ((cxOf CXg X.prog X.w X.K X.mg X.base Ng qg sg g cdg X.A X.stack s H Eg).tr pn xe).env)).any (·.1) = false := by rfl) :
    PE ((cxOf CXg X.prog X.w X.K X.mg X.base Ng qg sg g cdg X.A X.stack s H Eg).tr pn xe) (.Call (.Name a p1) [e] [] p2)
      (fun σZ HZ Q => σZ[i]? = some (some (.ref f)) ∧ te σZ HZ fun v H1 => H1 c' = some (CodeO c' (X.env.qual ++ "<lambda>")) ∧ tb (σ ++ [some v]) H1 Q) := by
  refine ⟨fun pinsZ sZ σZ HZ Q IZ h => ?_⟩
  obtain ⟨hsl, ht⟩ := h
  refine wpAny_Call_Name_kw (thn ((pe_var (pos := p1) (i := i) hN hv hd hcd).run pinsZ sZ σZ HZ (fun v H1 => v = .ref f ∧ H1 = HZ) IZ ⟨.ref f, hsl, rfl, rfl⟩) fun u s1 ⟨v, H1, I1, r1, q1⟩ => ?_)
  obtain ⟨ev, eH⟩ := q1
  subst ev
  rw [eH] at I1
  obtain rfl : u = Value.ref f := r1
  have of1 := fun (s2 : Shared) (H2 : Hp) (I2 : Inv ((cxOf CXg X.prog X.w X.K X.mg X.base Ng qg sg g cdg X.A X.stack s H Eg).tr pn xe) pinsZ σZ H2 s2) => I2.base.keep f _ hf hfn hfr (fun z => nomatch (show f ∈ ([] : List Addr) from z))
  refine PySem.W.callWith_F (first := []) ⟨_, _, _, _, of1 s1 HZ I1⟩ (thn ((pa_cons he pa_nil hs).run p2 pinsZ s1 σZ HZ (fun vs H2 => match vs with | [v] => H2 c' = some (CodeO c' (X.env.qual ++ "<lambda>")) ∧ tb (σ ++ [some v]) H2 Q | _ => False) I1 ?_) fun us s2 ⟨vs, H2, I2, r, q⟩ => ?_) hs hpl
  · exact ht
  match vs, q, r with
  | [v], q, r =>
  obtain ⟨u, rfl, rv⟩ : ∃ u, us = [u] ∧ L2.RelV v u := by
    cases r with
    | cons r1 r2 => cases r2; exact ⟨_, rfl, r1⟩
  have of2 := of1 s2 H2 I2
  refine ⟨⟨_, _, _, _, of2⟩, ?_⟩
  show wpAny _ _ (call (.ref f) [u]) _ _ _
  obtain ⟨hc, hb⟩ := q
  have un : Un (frs X.stack) [] H H2 s.heap s2.heap := I2.base
  obtain ⟨⟨oc, ws, t, hoc, hdc, hvc⟩, _, _⟩ := I2.hok c' _ hc
  have rc : codeAny (model X.prog X.w) (X.A.deeper (envOfC qg sg s.heap.objs.size g cdg)) (.call (.ref f) ⟨[u], []⟩) (CR (L2.CX X.prog X.w) (envOfC qg sg s.heap.objs.size g cdg :: X.stack) X.prog X.w H2 s2 Q E) s2 := by
    refine PySem.W.kla_callFunE hr.depth of2 rfl L.co L.gen rfl ⟨c', oc, ws, t, rfl, hoc, hdc, hvc⟩ ?_
    rw [hbind]
    refine wpAny_pure (wpAny_newFunctionEnv (fun y hy => L.own y hy) (fun y hy => by rw [List.mem_singleton.mp hy]; exact L.hx) (fun h₁ hns hsb => ⟨I2.nolimit.fresh _ hsb, ?_⟩) L.kind)
    show codeAny _ _ (.expr body (lamEnv X scope s2.heap.objs.size f c')) _ _
    have kp : ∀ b o, s2.heap.get? b = some o → h₁.get? b = some o := fun b o e => hsb.extBut b o (Nat.ne_of_lt (Heap.lt_size e)) (Heap.get?_push_of_some _ e)
    have J : Inv (lamCx1 X (X.A.deeper (envOfC qg sg s.heap.objs.size g cdg)) (envOfC qg sg s.heap.objs.size g cdg :: X.stack) s2 H2 E scope x f c') [] (σ ++ [some v]) H2 { s2 with heap := h₁, toks := s2.toks + ([(x, u)] : List (Str × Value)).length } :=
      lam_start1 I L hxN rv I2.env0 hr.hd un hns kp
    refine PySem.W.kla_codeExpr (wpAny_mono ((hbody _ _ s2 H2 (hr.deeper _)).run [] _ _ H2 Q J hb) (fun v s' hq => ?_) fun e s' hq => hq)
    obtain ⟨w', H', J', rv, q⟩ := hq
    exact ⟨w', H', J'.os, J'.bare, J'.base, J'.hok, rv, q⟩
  have hx : Passes (L2.CX X.prog X.w) ((cxOf CXg X.prog X.w X.K X.mg X.base Ng qg sg g cdg X.A X.stack s H Eg).tr pn xe) E := passes_call tk hW
  refine wpAny_call (codeAny_mono rc fun r s' hq => ?_)
  cases r with
  | error e => exact hx pinsZ σZ H2 s2 e s' I2 hq
  | ok fl =>
    cases fl with
    | ret u => exact I2.after hq
    | next => exact False.elim hq
    | brk => exact False.elim hq
    | cont => exact False.elim hq
end
/-- a def of three parameters that calls the third one -/
def GivesTo3 (P : Program) (w : World) (K : PySem.W.Frag) (mg : Str → Option Value) (base : Heap) (k : Nat) (Ng : List Str) (x : Str) (sg : Scope) (g : Addr) (bg : List Stmt) (a : Str) (TT : V → V → (V → Hp → VK → Prop) → Hp → VK → Prop) : Prop :=
  ∀ (q : Str) (cdg : Value) (A : Around) (outer : List Env) (f c' : Addr) (s : Shared) (H : Hp) (Q : VK) (v1 v2 : V) (tl : V → Hp → VK → Prop), Room k (A.deeper (envOfC x sg s.heap.objs.size g cdg)) →
    (∀ (e : Expr) (te : TE) (p1 p2 : Pos), PE (cxOf C8.CX0 P w K mg base Ng x sg g cdg A outer s H C8.E0).nox e te → (starEach [e] (cxOf C8.CX0 P w K mg base Ng x sg g cdg A outer s H C8.E0).nox.env = (false, eval e (cxOf C8.CX0 P w K mg base Ng x sg g cdg A outer s H C8.E0).nox.env) :: starEach [] (cxOf C8.CX0 P w K mg base Ng x sg g cdg A outer s H C8.E0).nox.env) →
      PE (cxOf C8.CX0 P w K mg base Ng x sg g cdg A outer s H C8.E0).nox (.Call (.Name a p1) [e] [] p2) (fun σZ HZ Q => σZ[2]? = some (some (.ref f)) ∧ te σZ HZ fun v H1 => H1 c' = some (CodeO c' q) ∧ tl v H1 Q)) →
    H c' = some (CodeO c' q) → TT v1 v2 tl H Q →
    ∃ t, PSs (cxOf C8.CX0 P w K mg base Ng x sg g cdg A outer s H C8.E0).nox bg t ∧ t { nx := fun _ H' => Q .non H', rt := Q } (L2.start Ng [v1, v2, .ref f]) H
def tLam3 (T : List (Addr × Str)) (TT : V → V → (V → Hp → VK → Prop) → Hp → VK → Prop) (t1 t2 t : TE) : TE := fun σ H Q => t1 σ H fun v1 H1 => t2 σ H1 fun v2 H2 => Tabs T H2 ∧ ∀ H3, ExtN H2 H3 → Tabs T H3 → TT v1 v2 (fun v H' Q' => t (σ ++ [some v]) H' Q') H3 Q
section
variable {X : Cx}
/-- x(e1, e2, lambda y: body) -/
theorem pe_lam3 {T : List (Addr × Str)} {TT : V → V → (V → Hp → VK → Prop) → Hp → VK → Prop} {x y a n1 n2 : Str} {st : Stmt} {g c P : Addr} {k : Nat} {fd : FuncData} {Ng : List Str} {e1 e2 : Expr} {t1 t2 : TE}
    {params : Arguments} {body : Expr} {scope : Scope} {t : TE} {p lpos pos : Pos} (F : Fun X.K x x st g fd) (hg : Gl X x) (hm : X.mg x = some (.ref g)) (hk : PySem.W.keepIn X.K (.ref g) = true)
    (hb : L2.Binds X.K fd [n1, n2, a] []) (Sg : FnScope Ng [n1, n2, a] (defScope st)) (hNg : Ng[2]? = some a) (hva : Vis (defScope st) a)
    (hG : GivesTo3 X.prog X.w X.K X.mg X.base (k + 1) Ng x (defScope st) g (defBody st) a TT) (h1 : PE X e1 t1) (h2 : PE X e2 t2)
    (TB : TabB X.base X.mg c P) (hcode : X.env.code = .ref c) (hmT : (P, X.env.qual ++ "<lambda>") ∈ T) (hu : ∀ p ∈ T, p.1 = P → p.2 = X.env.qual ++ "<lambda>") (hr : Room (k + 2) X.A) (L : LamS1 X.env.scope scope y) (hyN : y ∉ X.N) (hdef : defaultsOf params X.env = ([], []))
    (hbind : ∀ (q : Str) (cl : List (Str × Addr)) (pm cv ctv v : Value), bindArgs (PySem.W.kla_fn "<lambda>" q params body scope cl pm cv ctv) ⟨[v], []⟩ = pure [(y, v)])
    (hbody : ∀ (A : Around) (outer : List Env) (s : Shared) (H : Hp) (f c' : Addr), Room k (A.deeper (lamEnv X scope s.heap.objs.size f c')) → PE (lamCx1 X A outer s H (fun _ _ _ => False) scope y f c') body t)
    (hst : starEach (e1 :: [e2, .Lambda params body scope lpos]) X.env = (false, eval e1 X.env) :: starEach [e2, .Lambda params body scope lpos] X.env := by rfl) (hst2 : starEach (e2 :: [.Lambda params body scope lpos]) X.env = (false, eval e2 X.env) :: starEach [.Lambda params body scope lpos] X.env := by rfl)
    (hpl : (backTo pos (starEach [e2, .Lambda params body scope lpos] X.env)).any (·.1) = false := by rfl)
    (hdb : (x == ("__debug__" : Str)) = false := by decide) (hd : (a == ("__debug__" : Str)) = false := by decide) (hcd : (a == ("__classdict__" : Str)) = false := by decide) :
    PE X (.Call (.Name x p) [e1, e2, .Lambda params body scope lpos] [] pos) (tLam3 T TT t1 t2 t) := by
  refine ⟨fun pins s σ H Q I h => ?_⟩
  refine wpAny_Call_Name_kw (ld_glob I hg hm ?_ hdb)
  refine PySem.W.callWith_K (h₀ := X.base) I.ok.mod.kin hk ?_ hst hpl
  rw [hst]
  show wpAny _ _ (spliced ((false, eval e1 X.env) :: backTo pos (starEach [e2, .Lambda params body scope lpos] X.env))) _ _ s
  refine Calls.spliced_cons (thn (h1.run pins s σ H _ I h) fun u1 s1 ⟨v1, H1, I1, r1, q1⟩ => ?_)
  rw [hst2]
  show wpAny _ _ (spliced ((false, eval e2 X.env) :: backTo pos (starEach [.Lambda params body scope lpos] X.env))) _ _ s1
  refine Calls.spliced_cons (thn (h2.run pins s1 σ H1 _ I1 q1) fun u2 s2 ⟨v2, H2, I2, r2, q2⟩ => ?_)
  obtain ⟨hT, q2⟩ := q2
  show wpAny _ _ (spliced ((false, eval (.Lambda params body scope lpos) X.env) :: backTo pos (starEach [] X.env))) _ _ s2
  refine Calls.spliced_cons (lam_make2 I2 TB hcode hmT hu hT hdef (L.has I2.ok) fun f c' pm' ctv H3 s3 I3 eN T3 hf hfn hfr hco => ?_)
  refine Calls.spliced_nil ⟨I3.kIn, ?_⟩
  obtain ⟨oc, od, kV, doc, pm, an, cdv, ct, osl, rfl, lk, hcg⟩ := F.ex
  have rc : codeAny (model X.prog X.w) X.A (.call (.ref g) ⟨[u1, u2, .ref f], []⟩) (CR C8.CX0 X.stack X.prog X.w H3 s3 Q C8.E0) s3 := by
    refine run_ofS (N := Ng) (ps := [n1, n2, a]) (us := [u1, u2, .ref f]) (vs := [v1, v2, .ref f]) lk hcg Sg hr I3.env0 (hb s3 [u1, u2, .ref f] I3.kIn rfl) (.cons r1 (.cons r2 (.cons rfl .nil))) rfl fun hr' => ?_
    refine Exists.elim (hG _ cdv X.A X.stack f c' s3 H3 Q v1 v2 (fun v H' Q' => t (σ ++ [some v]) H' Q') hr' (fun e te p1 p2 he hs => ?_) hco (q2 H3 eN T3)) fun t' h' => ⟨t', h'.1.nox, h'.2⟩
    exact pe_act1 (i := 2) (pn := []) (xe := fun _ _ => False) (W := fun _ _ _ _ => False) (E := fun _ _ _ => False) I3 L hyN hf hfn hfr (fun u => hbind _ _ _ _ _ u) takes0 (fun _ _ _ _ z => z) hr' (fun A outer s H hr2 => hbody A outer s H f c' hr2) hNg hva he hd hcd hs rfl
  refine wpAny_call (codeAny_mono rc fun r s2 hq => ?_)
  cases r with
  | error e => exact (show False from hq).elim
  | ok fl =>
    cases fl with
    | ret u => exact I3.after hq
    | next => exact False.elim hq
    | brk => exact False.elim hq
    | cont => exact False.elim hq
end
/-- of several defs that the slot may hold -/
def tCallR (i : Nat) (S : Addr → Sp → Prop) (t : TA) : TE := fun σ H Q => ∃ f sp, σ[i]? = some (some (.ref f)) ∧ S f sp ∧ t σ H fun vs H1 => sp vs H1 Q (fun _ _ _ => False)
theorem pe_callR {X : Cx} {k i : Nat} {x : Str} {p pos : Pos} {e : Expr} {es : List Expr} {t : TA} {S : Addr → Sp → Prop} (A : ∀ f sp, S f sp → Held X.prog X.w X.K X.mg X.base k f sp) (hr : Room k X.A) (hN : X.N[i]? = some x) (hv : Vis X.env.scope x) (ha : PA X (e :: es) t)
    (hdb : (x == ("__debug__" : Str)) = false := by decide) (hcd : (x == ("__classdict__" : Str)) = false := by decide)
    (he : starEach (e :: es) X.env = (false, eval e X.env) :: starEach es X.env := by rfl) (hpl : (backTo pos (starEach es X.env)).any (·.1) = false := by rfl) : PE X (.Call (.Name x p) (e :: es) [] pos) (tCallR i S t) := by
  refine ⟨fun pins s σ H Q I h => ?_⟩
  obtain ⟨f, sp, hs, hS, ht⟩ := h
  obtain ⟨fd, ps, F, hk, hb⟩ := (A f sp hS).ex
  refine (pe_callL (i := i) (f := f) (sp := sp) (dvs := []) (E := fun _ _ _ => False) F hr hN hv hk hb .nil (fun _ _ _ _ _ _ _ z => z.elim) ha hdb hcd he hpl).run pins s σ H Q I ⟨hs, ?_⟩
  have e0 : (fun (vs : List V) (H1 : Hp) => sp (vs ++ []) H1 Q (fun _ _ _ => False)) = fun vs H1 => sp vs H1 Q (fun _ _ _ => False) := by
    funext vs H1
    rw [List.append_nil]
  show t σ H (fun vs H1 => sp (vs ++ []) H1 Q (fun _ _ _ => False))
  rw [e0]
  exact ht
/-- .. by keywords alone -/
structure HeldK (P : Program) (w : World) (K : PySem.W.Frag) (mg : Str → Option Value) (base : Heap) (k : Nat) (f : Addr) (sp : Sp) (ks : List Str) (gV : List V → List V → List V) : Prop where
  ex : ∃ (fd : FuncData) (ps : List Str) (g : List Value → List Value → List Value), FnOk P w K mg base (fun _ _ _ _ _ _ => False) k f fd ps sp ∧ PySem.W.keepIn K (.ref f) = true ∧ KBn K fd ps 0 ks g gV
theorem pe_callRK {X : Cx} {k i : Nat} {x : Str} {p pos : Pos} {kws : List Keyword} {ks : List Str} {tk : TA} {S : Addr → Sp → (List V → List V → List V) → Prop} (A : ∀ f sp gV, S f sp gV → HeldK X.prog X.w X.K X.mg X.base k f sp ks gV) (hr : Room k X.A) (hN : X.N[i]? = some x) (hv : Vis X.env.scope x)
    (hkw : PK X kws tk) (hall : (backToKw pos (keywordEach kws X.env)).all (·.1.isSome) = true := by rfl) (hks : (backToKw pos (keywordEach kws X.env)).filterMap (·.1) = ks := by rfl)
    (hdb : (x == ("__debug__" : Str)) = false := by decide) (hcd : (x == ("__classdict__" : Str)) = false := by decide)
    (hpl : ((backTo pos (starEach [] X.env)).any (·.1) || (backToKw pos (keywordEach kws X.env)).any (·.1.isNone)) = false := by rfl) :
    PE X (.Call (.Name x p) [] kws pos) (fun σ H Q => ∃ f sp gV, σ[i]? = some (some (.ref f)) ∧ S f sp gV ∧ tk σ H fun zs H2 => zs.length = ks.length ∧ sp (gV [] zs) H2 Q (fun _ _ _ => False)) := by
  refine ⟨fun pins s σ H Q I h => ?_⟩
  obtain ⟨f, sp, gV, hs, hS, ht⟩ := h
  obtain ⟨fd, ps, g, F, hk, hb⟩ := (A f sp gV hS).ex
  refine wpAny_Call_Name_kw (thn ((pe_var (pos := p) hN hv hdb hcd).run pins s σ H (fun v H1 => v = .ref f ∧ H1 = H) I ⟨.ref f, hs, rfl, rfl⟩) fun u s1 ⟨v, H1, I1, r1, q1⟩ => ?_)
  obtain ⟨rfl, rfl⟩ := q1
  cases r1
  refine PySem.W.callWith_KW0 (h₀ := X.base) I1.ok.mod.kin hk hall ?_ hpl
  refine thn (hkw.run pos pins s1 σ _ _ I1 ht) fun ws s2 ⟨zs, H2, I2, rz, l2, q2⟩ => ⟨I2.kIn, ?_⟩
  rw [hks]
  exact run_fnN F hr hb (fun _ _ _ _ _ _ _ z => z.elim) I2 .nil rz rfl l2 q2
theorem fac {α : Type} {P : α → Prop} {x : α} {l : List α} (h : P x) (t : ∀ p ∈ l, P p) : ∀ p ∈ x :: l, P p := fun p hp => by
  rcases List.mem_cons.mp hp with e | hp
  · rw [e]; exact h
  · exact t p hp
theorem fan {α : Type} {P : α → Prop} : ∀ p ∈ ([] : List α), P p := fun p hp => by cases hp
end L2

namespace L2
open PySem PySem.Spec PyProof.Rows
/-! ### Base.__init__(self, ..) where Base is a class of the program that has no own one -/
section
variable {X : Cx} {e : Expr} {es : List Expr} {ta : TA} {x : Str} {B : Addr} {p1 p2 pos : Pos}
theorem pe_baseinit {pl : Sem Bool} (hg : Gl X x) (hm : X.mg x = some (.ref B)) (rd1 : PySem.W.readsIn X.K B (.type "type") = true) (rd2 : PySem.W.specialIn X.K (.ref B) "__getattribute__" = some (some (.builtin "type.__getattribute__"))) (vV : PySem.W.findCls X.K (.ref B) (.type "type") "__init__" = some (.val (.builtin "ValueError.__init__"))) (ha : PA X (e :: es) ta)
    (hc : eval (.Call (.Attribute (.Name x p1) "__init__" p2) (e :: es) [] pos) X.env = (do
      let base ← eval (.Name x p1) X.env
      standAt p2.atName
      let (f, first) ← holding [base] (getMethod base "__init__" pl)
      callWith pos f first (backTo pos (starEach (e :: es) X.env)) (backToKw pos (keywordEach [] X.env))) := by rfl)
    (hdb : (x == ("__debug__" : Str)) = false := by decide) (he : starEach (e :: es) X.env = (false, eval e X.env) :: starEach es X.env := by rfl) (hpl : (backTo pos (starEach es X.env)).any (·.1) = false := by rfl) :
    PE X (.Call (.Attribute (.Name x p1) "__init__" p2) (e :: es) [] pos) (tVeI X.K ta) := by
  refine ⟨fun pins s σ H Q I h => PySem.W.methodCall_KW (ld_glob I hg hm ?_ hdb) hc⟩
  refine PySem.W.method_cls I.kIn rd2 (PySem.W.cls_value I.kIn rd1 vV (by decide +kernel) ?_)
  show wpAny _ _ (callWith pos (Value.builtin "ValueError.__init__") [] (backTo pos (starEach (e :: es) X.env)) []) _ _ _
  refine PyProof.Rows.callWith_method1 (thn (ha.run pos pins _ σ H _ (I.tok _) h) fun us s1 ⟨vs, H1, I1, rel, a, C, ws, ev, hl, T, ea, q⟩ => ?_) he hpl
  subst ev
  cases rel with
  | @cons _ w0 _ wr r0 rs =>
    have ew : w0 = Value.ref a := r0
    subst ew
    have short : wr.length ≤ sizeLine := by
      have := Paired.length rs
      rw [sizeLine_eq]
      omega
    exact oinit_ok T I1 ea short fun s' J => ⟨.non, H1, J, rfl, q⟩
end
/-! ### what the text says of an error's class, and of the class above -/
structure ExC (K : PySem.W.Frag) (mg : Str → Option Value) (C fI : Addr) (x f : Str) : Prop where
  g : mg x = some (.ref C)
  ox : OexC K C
  ii : PySem.W.findIn K (.ref C) "__init__" = some (some (.ref fI))
  ti : PySem.W.typeIn K (.ref fI) = some (.type "function")
  no : PySem.W.findIn K (.ref C) f = some none
  xf : XfC K C
  te : PySem.W.exmOne K (.ref C) (.ref C) = some true
structure ExB (K : PySem.W.Frag) (mg : Str → Option Value) (B : Addr) (x : Str) : Prop where
  g : mg x = some (.ref B)
  r1 : PySem.W.readsIn K B (.type "type") = true
  r2 : PySem.W.specialIn K (.ref B) "__getattribute__" = some (some (.builtin "type.__getattribute__"))
  vi : PySem.W.findCls K (.ref B) (.type "type") "__init__" = some (.val (.builtin "ValueError.__init__"))
theorem exm_own {K : PySem.W.Frag} {S : Addr} (h1 : PySem.W.subIn K (.ref S) (.type "BaseException") = some true) (h2 : PySem.W.isClsIn K S = true) (h3 : PySem.W.typeIn K (.ref S) = some (.type "type")) (h4 : PySem.W.subIn K (.ref S) (.ref S) = some true) :
    PySem.W.exmOne K (.ref S) (.ref S) = some true := by
  have h2' : (PySem.W.clsIn K S).isSome = true := h2
  unfold PySem.W.exmOne
  simp [PySem.W.kitCls, h1, h2', h3, h4]
theorem exC_mk {K : PySem.W.Frag} {h : Heap} {mg : Str → Option Value} {C B fI : Addr} {x f : Str} (X : K.In h) (G : h.Ns mainGlobals mg)
    {nm q : Str} {N : Addr} {bs : List Value} {sn : List Str} {sub : List Value} {ab : Bool} {col : Option Bool} {dd : Option Addr} {m0 m1 m2 m3 m5 : Option Value}
    (aC : PySem.W.nsIn K mainGlobals x = some (some (.ref C)))
    (xL : K.lookup C = some (excClassObj nm q C N bs [.ref B, .type "ValueError", .type "Exception", .type "BaseException", .type "object"] true sn sub ab col dd m0 m1 m2 m3 m5 "ValueError.__new__"))
    (sa : PySem.W.findIn K (.ref C) "__setattr__" = some (some (.builtin "object.__setattr__"))) (ga : PySem.W.findIn K (.ref C) "__getattribute__" = some (some (.builtin "BaseException.__getattribute__"))) (gg : PySem.W.findIn K (.ref C) "__getattr__" = some none)
    (nb : PySem.W.findIn K (.ref C) f = some none) (ii : PySem.W.findIn K (.ref C) "__init__" = some (some (.ref fI))) (ti : PySem.W.typeIn K (.ref fI) = some (.type "function")) (kC : PySem.W.keepIn K (.ref C) = true)
    (eC : PySem.W.subIn K (.ref C) (.type "BaseException") = some true) (tC : PySem.W.typeIn K (.ref C) = some (.type "type")) (hC : PySem.W.hasDictIn K C = true) (iC : PySem.W.isClsIn K C = true) (sC : PySem.W.subIn K (.ref C) (.ref C) = some true) :
    ExC K mg C fI x f :=
  ⟨PySem.W.mg_of X G aC, ⟨⟨_, _, _, _, _, _, _, _, _, _, _, _, _, _, _, xL, rfl⟩, sa, eC, tC, kC⟩, ii, ti, nb, ⟨ga, gg, eC, hC⟩, exm_own eC iC tC sC⟩
/-- what __init__ of such an error does: the value is kept under f -/
def spErr (C : Addr) (f : Str) : Sp := fun vs H Q _ => ∃ (e : Addr) (v : V), vs = [.ref e, v] ∧ H e = some (exo e C none) ∧ ∀ dx, H dx = none → dx ≠ e → Q .non (upd (upd H dx (exd dx [(f, v)])) e (exo e C (some dx)))
end L2

namespace L2
open PySem PySem.Spec PyProof.Rows
/-! ### several except clauses, with a name or without -/
/-- behind a clause with a name the slot is empty -/
def endsAs (D : Ends) : Option Nat → Ends
  | none => D
  | some i => { nx := fun σ' H' => D.nx (σ'.set i none) H', rt := D.rt, bk := fun σ' H' => D.bk (σ'.set i none) H', ct := fun σ' H' => D.ct (σ'.set i none) H' }
def slotAs (σ : L2.St) (a : Addr) : Option Nat → L2.St
  | none => σ
  | some i => σ.set i (some (.ref a))
/-- what a row of clauses wishes of an exception -/
def wRow (K : PySem.W.Frag) (Wo : WX) (D : Ends) : List (Value × Option Nat × (Addr → Value → Option Addr → TS)) → WX
  | [] => Wo
  | (c, i, ts) :: r => fun cls d σ H => ∃ y, PySem.W.exmOne K cls c = some y ∧ (y = true → ∀ a, H a = none → ts a cls d (endsAs D i) (slotAs σ a i) H) ∧ (y = false → wRow K Wo D r cls d σ H)
inductive Clauses (X : Cx) : List ExceptHandler → List (Value × Option Nat × (Addr → Value → Option Addr → TS)) → Prop
  | nil : Clauses X [] []
  | plain {x : Str} {c : Value} {ts : Addr → Value → Option Addr → TS} {z : Stmt} {zs : List Stmt} {p q : Pos} {hs : List ExceptHandler} {l : List (Value × Option Nat × (Addr → Value → Option Addr → TS))} (hc : Names X x c)
      (su : ∀ (a : Addr) (oe : Obj) (cls : Value) (d : Option Addr) (pn : List (Addr × Obj)), Zc cls d oe → (∃ vs, oe.data = .fields vs) → PSs (X.suite a ((a, oe) :: pn)) (z :: zs) (ts a cls d)) (r : Clauses X hs l) :
      Clauses X (.ExceptHandler (some (.Name x p)) none (z :: zs) q :: hs) ((c, none, ts) :: l)
  | named {x n : Str} {i : Nat} {c : Value} {ts : Addr → Value → Option Addr → TS} {z : Stmt} {zs : List Stmt} {p q : Pos} {hs : List ExceptHandler} {l : List (Value × Option Nat × (Addr → Value → Option Addr → TS))} (hN : X.N.Nodup) (hi : X.N[i]? = some n) (hk : X.env.kindOf n = some .local) (hc : Names X x c)
      (su : ∀ (a : Addr) (oe : Obj) (cls : Value) (d : Option Addr) (pn : List (Addr × Obj)), Zc cls d oe → (∃ vs, oe.data = .fields vs) → PSs (X.suite a ((a, oe) :: pn)) (z :: zs) (ts a cls d)) (r : Clauses X hs l) :
      Clauses X (.ExceptHandler (some (.Name x p)) (some n) (z :: zs) q :: hs) ((c, some i, ts) :: l)
section
variable {X : Cx} {body : List Stmt} {h0 : ExceptHandler} {hds : List ExceptHandler} {l : List (Value × Option Nat × (Addr → Value → Option Addr → TS))} {pos : Pos} {tb : WX → TS} {Wo : WX}
theorem ps_try_row (hst : X.stack = X.env :: X.outer) (hfm : X.env.frame = some X.env.locals) (tk : Takes X Wo)
    (hb : ∀ (W : WX) (pn : List (Addr × Obj)) (xe : Value → Shared → Prop), Takes (X.tr pn xe) W → PassesOwn (model X.prog X.w) X.A X.env xe → PSs (X.tr pn xe) body (tb W))
    (hh : Clauses X (h0 :: hds) l) : PS X (.Try body (h0 :: hds) [] [] pos) (fun D σ H => tb (wRow X.K Wo D l) D σ H) := by
  constructor
  intro pins s σ H D I h
  have hok := I.ok
  have hfrm : X.A.frames = some (X.env :: X.outer) := by rw [hok.frames, hst]
  refine wpAny_Try_except ?_
  have run := (hb (wRow X.K Wo D l) (X.pn ++ pins) (fun e t1 => wpAny (model X.prog X.w) X.A (noteFrame e X.env) (fun _ t2 => wpAny (model X.prog X.w) X.A (setFlight e none)
    (fun _ t3 => wpAny (model X.prog X.w) X.A (handleBy e X.env (h0 :: hds)) (SP X pins D) X.xe t3) X.xe t2) X.xe t1) (fun u s' xx => ?_) PassesOwn.looking).run [] s σ H D (I.toTry _) h
  · refine wpAny_mono run (fun f s1 hsp => ?_) (fun e s1 he => he)
    cases f with
    | ret u => obtain ⟨v, σ1, H1, J, r, q⟩ := hsp; exact ⟨v, σ1, H1, J.ofTry hok, r, q⟩
    | next => obtain ⟨σ1, H1, J, q⟩ := hsp; exact wpAny_execs_nil ⟨σ1, H1, J.ofTry hok, q⟩
    | cont => obtain ⟨σ1, H1, J, q⟩ := hsp; exact ⟨σ1, H1, J.ofTry hok, q⟩
    | brk => obtain ⟨σ1, H1, J, q⟩ := hsp; exact ⟨σ1, H1, J.ofTry hok, q⟩
  -- an exception has come out
  obtain ⟨a, B, sI, pins1, σ1, H1, cls, d, rfl, J0, nb, up, sky, na, os, ag, wi⟩ := xx
  have J : Inv X pins σ1 H1 sI := J0.ofTry hok
  have sky1 : Sky B (X.env :: X.outer) a (Zc cls d) X.env.locals s'.heap := by rw [← hst]; exact sky
  show wpAny (model X.prog X.w) X.A (noteFrame (.ref a) X.env) _ _ _
  refine Sky.land Zc.steady hfrm hfm sky1 fun h3 fl3 up3 => ?_
  have J3 : Inv X pins σ1 H1 { s' with heap := h3 } := J.landed nb fl3.1 (up.trans up3) os ag
  obtain ⟨oe3, vs3, he3, hz3, hd3⟩ := fl3.there
  have far : a ∉ frs (X.env :: X.outer) := fun hm => by
    obtain ⟨_, o1, e1, hnf⟩ := fl3.2.2.1.mem hm
    rw [he3] at e1
    cases e1
    exact hnf _ hd3
  have nL : a ≠ X.env.locals := fun z => far (List.mem_filterMap.mpr ⟨X.env, List.mem_cons_self, by rw [hfm, z]⟩)
  have nF : a ∉ X.fs := fun hm => by
    obtain ⟨e, he, q⟩ := List.mem_filterMap.mp hm
    exact far (List.mem_filterMap.mpr ⟨e, List.mem_cons_of_mem _ he, q⟩)
  have S3 := J3.suite he3 hd3 na nL nF
  have LT : PySem.W.Looks (model X.prog X.w) h3 (typeOf (.ref a)) cls := fun A Q E s k q => wpAny_typeOf_ref (k _ _ he3) (by rw [hz3.1]; exact q)
  have look : ∀ {x : Str} {c : Value} {p : Pos}, Names X x c → ∀ {Q E : Value → Shared → Prop}, Q c { s' with heap := h3 } → wpAny (model X.prog X.w) (X.A.mark (some (.ref a))) (eval (.Name x p) X.env) Q E { s' with heap := h3 } := by
    intro x c p hc Q E q
    obtain ⟨hg, hdbg, hm | ⟨hm, hv, hnn⟩⟩ := hc
    · exact ld_glob (X := X.suite a ((a, oe3) :: (X.pn ++ pins))) S3 hg hm q hdbg
    · exact ld_blt (X := X.suite a ((a, oe3) :: (X.pn ++ pins))) S3 hg hm hv q hnn hdbg
  have go : ∀ {hs1 : List ExceptHandler} {l1 : List (Value × Option Nat × (Addr → Value → Option Addr → TS))}, Clauses X hs1 l1 → wRow X.K Wo D l1 cls d σ1 H1 →
      wpAny (model X.prog X.w) X.A (handleBy (.ref a) X.env hs1) (SP X pins D) X.xe { s' with heap := h3 } := by
    intro hs1 l1 hk
    induction hk with
    | nil =>
      intro wi
      refine wpAny_handleBy_nil ?_
      obtain ⟨_, _, _, oe, vs, T, oT, ts1, he, hz, hd, h1, hr⟩ := id fl3
      unfold PySem.passOn
      refine wpAny_bind (wpAny_field he hd h1 ?_)
      rw [if_neg (show ¬ ((Value.ref T == Value.none) = true) from by simp)]
      have out : wpAny (model X.prog X.w) X.A (setFlight (.ref a) X.env.frame) (fun _ t4 => wpAny (model X.prog X.w) X.A (throw (.ref a) : Sem Flow) (SP X pins D) X.xe t4) X.xe { s' with heap := h3 } := by
        rw [hfm]
        exact HandSPX.setFlight_upZ fl3 fun h4 hh4 up4 => wpAny_throw (tk _ _ ⟨a, B, sI, pins, σ1, H1, cls, d, rfl, J, nb, (up.trans up3).trans up4, .inr (.inr (by rw [hst]; exact hh4)), na, os, ag, wi⟩)
      first
        | exact wpAny_bind (wpAny_pure (wpAny_bind out))
        | exact wpAny_bind out
    | plain hc su r ih =>
      rintro ⟨y, hy, yes, no⟩
      refine wpAny_handleBy_cons (codeAny_handlers_test ?_) (by intro q; cases q)
      refine look hc ((PySem.W.exm_one (M := model X.prog X.w) J3.kIn LT hy).here ?_)
      cases y with
      | false => exact ih (no rfl)
      | true =>
        refine codeAny_handlers_suite (HandSPX.lands_againZ fl3 fun h4 fl4 up4 => ?_)
        obtain ⟨oe4, vs4, he4, hz4, hd4⟩ := fl4.there
        have J4 : Inv X pins σ1 H1 { s' with heap := h4 } := J.landed nb fl4.1 ((up.trans up3).trans up4) os ag
        refine wpAny_mono ((su a oe4 cls d (X.pn ++ pins) hz4 ⟨_, hd4⟩).run [] _ _ H1 _ (J4.suite he4 hd4 na nL nF) (yes rfl a na)) (fun f s6 hsp => ?_) (fun _ _ z => False.elim z)
        cases f with
        | ret u => obtain ⟨v6, σ6, H6, S6, r6, q6⟩ := hsp; exact ⟨_, _, _, S6.unsuite hok, r6, q6⟩
        | next => obtain ⟨σ6, H6, S6, q6⟩ := hsp; exact ⟨_, _, S6.unsuite hok, q6⟩
        | cont => obtain ⟨σ6, H6, S6, q6⟩ := hsp; exact ⟨_, _, S6.unsuite hok, q6⟩
        | brk => obtain ⟨σ6, H6, S6, q6⟩ := hsp; exact ⟨_, _, S6.unsuite hok, q6⟩
    | @named x n i c ts z zs p q hs2 l2 hN hi hkk hc su r ih =>
      rintro ⟨y, hy, yes, no⟩
      refine wpAny_handleBy_cons (codeAny_handlers_test ?_) (by intro q; cases q)
      refine look hc ((PySem.W.exm_one (M := model X.prog X.w) J3.kIn LT hy).here ?_)
      cases y with
      | false => exact ih (no rfl)
      | true =>
        refine codeAny_handlers_suite_as (HandSPX.lands_againZ fl3 fun h4 fl4 up4 => ?_)
        obtain ⟨oe4, vs4, he4, hz4, hd4⟩ := fl4.there
        have J4 : Inv X pins σ1 H1 { s' with heap := h4 } := J.landed nb fl4.1 ((up.trans up3).trans up4) os ag
        refine store_ok (X := X.suite a ((a, oe4) :: (X.pn ++ pins))) (v := .ref a) (J4.suite he4 hd4 na nL nF) hN hi (.inl hkk) rfl (fun s5 S5 => ?_) (.inr hkk)
        refine wpAny_mono ((su a oe4 cls d (X.pn ++ pins) hz4 ⟨_, hd4⟩).run [] s5 _ H1 _ S5 (yes rfl a na)) (fun f s6 hsp => ?_) (fun _ _ z => False.elim z)
        have fin : ∀ {σ6 : L2.St} {H6 : Hp} {Q : Shared → Prop}, Inv (X.suite a ((a, oe4) :: (X.pn ++ pins))) [] σ6 H6 s6 → (∀ s7, Inv X pins (σ6.set i none) H6 s7 → Q s7) →
            wpAny (model X.prog X.w) X.A (do bindName X.env n .none; unbindBehindTheSuite X.env n q) (fun _ s7 => Q s7) X.xe s6 := fun S6 hq => gone_ok (S6.unsuite hok) hN hi hkk hq
        cases f with
        | ret u => obtain ⟨v6, σ6, H6, S6, r6, q6⟩ := hsp; exact fin S6 fun s7 J7 => ⟨_, _, _, J7, r6, q6⟩
        | next => obtain ⟨σ6, H6, S6, q6⟩ := hsp; exact fin S6 fun s7 J7 => ⟨_, _, J7, q6⟩
        | cont => obtain ⟨σ6, H6, S6, q6⟩ := hsp; exact fin S6 fun s7 J7 => ⟨_, _, J7, q6⟩
        | brk => obtain ⟨σ6, H6, S6, q6⟩ := hsp; exact fin S6 fun s7 J7 => ⟨_, _, J7, q6⟩
  exact go hh wi
end
end L2

/-! lambdas without a parameter, or with one that has a default of 0, as values that are kept -/
namespace L2
open PySem PySem.Spec PyProof.Rows PySem.W LamX
/-- what a lambda's object says -/
structure LamD where
  q : Str
  params : Arguments
  body : Expr
  scope : Scope
  cl : List (Str × Addr)
def FunO (f : Addr) (L : LamD) (dV : Value) (c' : Addr) : HO := .ext fun h => ∃ doc pm ctv, h.get? f = some (kdv_obj "<lambda>" L.q L.params (.expr L.body) L.scope L.cl dV doc pm c' ctv)
theorem funO_ne {f c' : Addr} {L : LamD} {dV : Value} (ps : Array Value) : FunO f L dV c' ≠ .tbl ps := fun z => by
  unfold FunO at z
  cases z
/-- at f stands a lambda -/
def LamAt (H : Hp) (f : Addr) (L : LamD) : Prop := ∃ c' dV, H f = some (FunO f L dV c') ∧ H c' = some (CodeO c' L.q) ∧ ((L.params.defaults = [] ∧ dV = .none) ∨ (L.params.defaults ≠ [] ∧ ∃ t0, dV = .ref t0 ∧ H t0 = some (.tup [.int 0])))
theorem LamAt.ext {H H' : Hp} {f : Addr} {L : LamD} (e : ExtN H H') (h : LamAt H f L) : LamAt H' f L := by
  obtain ⟨c', dV, h1, h2, h3⟩ := h
  refine ⟨c', dV, e _ _ h1 funO_ne, e _ _ h2 codeO_ne, h3.imp id fun ⟨n, t0, h4, h5⟩ => ⟨n, t0, h4, e _ _ h5 fun ps z => by cases z⟩⟩
theorem LamAt.same {H H' : Hp} {f : Addr} {L : LamD} (e : Same H H') (h : LamAt H f L) : LamAt H' f L := h.ext (.of e)
section
variable {X : Cx} {pins : List (Addr × Obj)} {σ : L2.St} {H : Hp} {s : Shared}
/-- the lambda is made: its code object is new, or found in the table -/
theorem tail_makeO {T : List (Addr × Str)} {c P : Addr} {q : Str} {params : Arguments} {body : Expr} {scope : Scope} {pos : Pos} {dV : Value} {clos : List (Str × Addr)} {E : Value → Shared → Prop} {Q : Value → Shared → Prop} (I : Inv X pins σ H s) (TB : TabB X.base X.mg c P) (hcode : X.env.code = .ref c)
    (hm : (P, q) ∈ T) (hu : ∀ p ∈ T, p.1 = P → p.2 = q) (hT : Tabs T H) (hcl : closureFor scope X.env = pure clos)
    (h : ∀ (f c' : Addr) (H1 : Hp) (s' : Shared), Inv X pins σ H1 s' → ExtN H H1 → Tabs T H1 → s.heap.objs.size ≤ f → H1 f = some (FunO f ⟨q, params, body, scope, clos⟩ dV c') → H1 c' = some (CodeO c' q) → Q (.ref f) s') :
    wpAny (model X.prog X.w) X.A (makeTail "<lambda>" q params (.expr body) scope X.env dV .none none pos pos.line) Q E s := by
  obtain ⟨ps, hP, ht, ha⟩ := hT _ hm
  have bP : s.heap.BuiltinsAt X.mg P := TB.bm.keeps I.bk
  have hP' : s.heap.get? P = some { cls := .none, data := .fields ps } := I.hok P _ hP
  cases hc : codeAmong pos ps.toList with
  | none =>
    refine kdv_makeTail (mg := X.mg) (c := c) (P := P) (ps := ps) hcl I.ok.glob (I.mod.glob.keeps I.bk) hcode (TB.code.keeps I.bk) hP' ht hc TB.gP bP fun c' ctv doc h' tk hx hge hlt hrec htb => ?_
    obtain ⟨c2, oc, vs, t, e2, hoc, hd, hv⟩ := hrec
    cases e2
    have hsz : s.heap.objs.size ≤ h'.objs.size := Nat.le_trans hge (Nat.le_of_lt hlt)
    have nC : H c' = none := I.hok.fresh hge
    have I1 := inv_table (t' := tk) (more := #[rawInt pos.line, rawInt pos.col, .ref c']) (h' := h') I hP hx htb hge ⟨oc, vs, t, hoc, hd, hv⟩
    generalize hH1 : upd (upd H P (.tbl (ps ++ #[rawInt pos.line, rawInt pos.col, .ref c']))) c' (CodeO c' q) = H1 at I1
    have hE : ExtN H H1 := fun b o e n => by
      rw [← hH1, upd_ne (ne_of_none e nC), upd_ne (fun z => n ps (Option.some.inj (e.symm.trans (by rw [z]; exact hP))))]
      exact e
    have hc1 : H1 c' = some (CodeO c' q) := by rw [← hH1, upd_same]
    have fF : H1 h'.objs.size = none := I1.hok.fresh (Nat.le_refl _)
    have I2 := I1.laid (t' := tk) (h' := h'.push (kdv_obj "<lambda>" q params (.expr body) scope clos dV doc ((X.mg "__name__").getD .none) c' ctv)) (a := h'.objs.size) (o := FunO h'.objs.size ⟨q, params, body, scope, clos⟩ dV c') (fun b o e => Heap.get?_push_of_some _ e) (Nat.le_refl _)
      ⟨⟨_, _, _, Heap.get?_push_size _ rfl⟩, ⟨_, Heap.get?_push_size _ rfl⟩, fun h1 h2 ⟨doc, pm, ctv, e⟩ st => ⟨doc, pm, ctv, st _ e⟩⟩
    have s12 : ∀ b o, H1 b = some o → upd H1 h'.objs.size (FunO h'.objs.size ⟨q, params, body, scope, clos⟩ dV c') b = some o := fun b o e => by rw [upd_ne (ne_of_none e fF)]; exact e
    have eL : (ps ++ #[rawInt pos.line, rawInt pos.col, .ref c']).toList = ps.toList ++ [rawInt pos.line, rawInt pos.col, .ref c'] := by simp
    refine h h'.objs.size c' _ _ I2 (hE.trans (.of s12)) (fun p hp => TabS.ext ?_ s12) hsz upd_same (s12 _ _ hc1)
    by_cases hb : p.1 = P
    · rw [hu p hp hb, hb]
      refine ⟨_, by rw [← hH1, upd_ne (ne_of_none hP nC), upd_same], by rw [eL]; exact PySem.TriplesOk_snoc _ _ _ _ ht, fun p' cv hcv => ?_⟩
      rw [eL] at hcv
      rcases among_app _ ht hcv with z | z
      · obtain ⟨c0, e1, e2⟩ := ha p' cv z
        exact ⟨c0, e1, hE _ _ e2 codeO_ne⟩
      · exact ⟨c', z, hc1⟩
    · obtain ⟨ps', a1, a2, a3⟩ := hT p hp
      refine ⟨ps', by rw [← hH1, upd_ne (ne_of_none a1 nC), upd_ne hb]; exact a1, a2, fun p' cv hcv => ?_⟩
      obtain ⟨c0, e1, e2⟩ := a3 p' cv hcv
      exact ⟨c0, e1, hE _ _ e2 codeO_ne⟩
  | some cv =>
    obtain ⟨c', e, hco⟩ := ha pos cv hc
    subst e
    refine kdv_makeTailHit (mg := X.mg) (c := c) (P := P) (ps := ps) hcl I.ok.glob (I.mod.glob.keeps I.bk) hcode (TB.code.keeps I.bk) hP' ht hc bP fun ctv doc h' tk hx hsz => ?_
    have fF : H h'.objs.size = none := I.hok.fresh hsz
    have I2 := I.laid (t' := tk) (h' := h'.push (kdv_obj "<lambda>" q params (.expr body) scope clos dV doc ((X.mg "__name__").getD .none) c' ctv)) (a := h'.objs.size) (o := FunO h'.objs.size ⟨q, params, body, scope, clos⟩ dV c') (fun b o e => Heap.get?_push_of_some _ (hx b o e)) hsz
      ⟨⟨_, _, _, Heap.get?_push_size _ rfl⟩, ⟨_, Heap.get?_push_size _ rfl⟩, fun h1 h2 ⟨doc, pm, ctv, e⟩ st => ⟨doc, pm, ctv, st _ e⟩⟩
    have s12 : ∀ b o, H b = some o → upd H h'.objs.size (FunO h'.objs.size ⟨q, params, body, scope, clos⟩ dV c') b = some o := fun b o e => by rw [upd_ne (ne_of_none e fF)]; exact e
    exact h h'.objs.size c' _ _ I2 (.of s12) (hT.ext s12) hsz upd_same (s12 _ _ hco)
end
/-- the lambda that X's text writes there -/
def lamD (X : Cx) (params : Arguments) (body : Expr) (scope : Scope) : LamD := ⟨X.env.qual ++ "<lambda>", params, body, scope, cloFrom X.env.cells scope.names []⟩
/-- the reading of a lambda: a new object that is kept -/
def tLamO (T : List (Addr × Str)) (L : LamD) : TE := fun σ H Q => Tabs T H ∧ ∀ (H1 : Hp) (f : Addr), ExtN H H1 → Tabs T H1 → H f = none → LamAt H1 f L → Q (.ref f) H1
section
variable {X : Cx}
/-- lambda: body; lambda x=0: body -/
theorem pe_lamO {T : List (Addr × Str)} {c P : Addr} {params : Arguments} {body : Expr} {scope : Scope} {pos : Pos} (TB : TabB X.base X.mg c P) (hcode : X.env.code = .ref c) (hmT : (P, X.env.qual ++ "<lambda>") ∈ T) (hu : ∀ p ∈ T, p.1 = P → p.2 = X.env.qual ++ "<lambda>")
    (hfree : ∀ y ∈ scope.names, y.2 = .free → X.env.scope.names.lookup y.1 = some .cell ∨ X.env.scope.names.lookup y.1 = some .free)
    (hk0 : params.kw_defaults = []) (hdef : params.defaults = [] ∨ ∃ j pc, params.defaults = [.Constant (.int 0) j pc]) : PE X (.Lambda params body scope pos) (tLamO T (lamD X params body scope)) := by
  refine ⟨fun pins s σ H Q I h => ?_⟩
  obtain ⟨hT, h⟩ := h
  have hfC : ∀ y ∈ scope.names, y.2 = .free → ∃ c, X.env.cells.lookup y.1 = some c := fun y hy e => (hfree y hy e).elim (fun z => I.ok.has _ (.inl z)) fun z => I.ok.has _ (.inr z)
  rcases hdef with hd | ⟨j, pc, hd⟩
  · refine kla_eval (by rw [defaultsOf_eq, hk0, hd]; rfl) ?_
    rw [makeFunction_eq]
    simp only [List.zip_nil_right, List.filterMap_nil, List.isEmpty_nil, if_true, pure_bind]
    refine tail_makeO I TB hcode hmT hu hT (closure_ok hfC) fun f c' H1 s' I1 e1 T1 hf h1 h2 => ?_
    exact ⟨.ref f, H1, I1, rfl, h H1 f e1 T1 (I.hok.fresh hf) ⟨c', .none, h1, h2, .inl ⟨hd, rfl⟩⟩⟩
  · refine kdv_lam (by rw [hd]; rfl) hk0 ?_
    rw [hd]
    refine kdv_all1 (thn (pe_int.run pins s σ H (fun v H1 => v = .int 0 ∧ H1 = H) I ⟨rfl, rfl⟩) fun u s1 ⟨v, H1, I1, r1, q1⟩ => kdv_all0 ?_)
    obtain ⟨rfl, rfl⟩ := q1
    rw [makeFunction_eq]
    simp only [List.zip_nil_right, List.filterMap_nil, List.isEmpty_nil, if_true, pure_bind, List.isEmpty_cons, Bool.false_eq_true, if_false]
    refine wpAny_bind (wpAny_newTextTuple ?_)
    have nT : H1 s1.heap.objs.size = none := I1.hok.fresh (Nat.le_refl _)
    have I2 := I1.laid (t' := s1.toks) (h' := s1.heap.push { cls := .type "tuple", data := .seq [u].toArray }) (a := s1.heap.objs.size) (o := .tup [.int 0]) (fun b o e => Heap.get?_push_of_some _ e) (Nat.le_refl _) ⟨by decide, [u], .cons r1 .nil, _, Heap.get?_push_size _ rfl, rfl, _, rfl⟩
    have s12 : ∀ b o, H1 b = some o → upd H1 s1.heap.objs.size (.tup [.int 0]) b = some o := fun b o e => by rw [upd_ne (ne_of_none e nT)]; exact e
    refine tail_makeO I2 TB hcode hmT hu (hT.ext s12) (closure_ok hfC) fun f c' H3 s' I3 e3 T3 hf h1 h2 => ?_
    refine ⟨.ref f, H3, I3, rfl, h H3 f ((ExtN.of s12).trans e3) T3 (I1.hok.fresh ?_) ⟨c', _, h1, h2, .inr ⟨by show params.defaults ≠ []; rw [hd]; exact List.cons_ne_nil _ _, _, rfl, e3 _ _ upd_same fun ps z => by cases z⟩⟩⟩
    exact Nat.le_trans (by rw [Heap.size_push]; omega) hf
end
/-- a lambda of X's text that is called without arguments: what its body does -/
inductive LamGood (X : Cx) (k : Nat) (params : Arguments) (body : Expr) (scope : Scope) : (XK → TE) → Prop
  | plain {t : XK → TE} (L : LamS X.env.scope scope) (hdef : params.defaults = [])
      (hbind : ∀ (q : Str) (cl : List (Str × Addr)) (doc pm cv ctv : Value), bindArgs (kdv_fn "<lambda>" q params (.expr body) scope cl .none doc pm cv ctv) ⟨[], []⟩ = pure [])
      (hbody : ∀ (A : Around) (outer : List Env) (s : Shared) (H : Hp) (E : XK) (f c' : Addr), Room k (A.deeper (lamEnv X scope s.heap.objs.size f c')) → PE (lamCx X A outer s H E scope f c') body (t E)) : LamGood X k params body scope t
  | dflt {x : Str} {t : XK → TE} (L : LamS1 X.env.scope scope x) (hxN : x ∉ X.N) (hdef : params.defaults ≠ [])
      (hbind : ∀ (q : Str) (cl : List (Str × Addr)) (t0 : Addr) (doc pm cv ctv : Value), ∃ k, bindArgs (kdv_fn "<lambda>" q params (.expr body) scope cl (.ref t0) doc pm cv ctv) ⟨[], []⟩ = seqItems? (.ref t0) >>= k ∧ ∀ v : Value, k (some #[v]) = pure [(x, v)])
      (hbody : ∀ (A : Around) (outer : List Env) (s : Shared) (H : Hp) (E : XK) (f c' : Addr), Room k (A.deeper (lamEnv X scope s.heap.objs.size f c')) → PE (lamCx1 X A outer s H E scope x f c') body (t E)) : LamGood X k params body scope (fun E σ H Q => t E (σ ++ [some (.int 0)]) H Q)
section
variable {X : Cx} {pins : List (Addr × Obj)} {σ : L2.St} {H : Hp} {s : Shared}
/-- x(), in a def that got the lambda: I is the maker's, who waits since s -/
theorem pe_actO {CXg : CXT} {Eg : XK} {Ng : List Str} {qg : Str} {sg : Scope} {g f : Addr} {cdg : Value} {params : Arguments} {body : Expr} {scope : Scope} {k i : Nat} {a : Str} {pn : List (Addr × Obj)} {xe : Value → Shared → Prop} {W : WX} {t : XK → TE} {p1 p2 : Pos}
    (I : Inv X pins σ H s) (LG : LamGood X k params body scope t)
    (tk : Takes ((cxOf CXg X.prog X.w X.K X.mg X.base Ng qg sg g cdg X.A X.stack s H Eg).tr pn xe) W) (hr : Room (k + 1) (X.A.deeper (envOfC qg sg s.heap.objs.size g cdg)))
    (hN : Ng[i]? = some a) (hv : Vis sg a) (hd : (a == ("__debug__" : Str)) = false := by decide) (hcd : (a == ("__classdict__" : Str)) = false := by decide) :
    PE ((cxOf CXg X.prog X.w X.K X.mg X.base Ng qg sg g cdg X.A X.stack s H Eg).tr pn xe) (.Call (.Name a p1) [] [] p2)
      (fun σZ HZ Q => σZ[i]? = some (some (.ref f)) ∧ LamAt HZ f (lamD X params body scope) ∧ ∃ E : XK, (∀ cls d H', E cls d H' → W cls d σZ H') ∧ t E σ HZ Q) := by
  refine ⟨fun pinsZ sZ σZ HZ Q IZ h => ?_⟩
  obtain ⟨hs, ⟨c', dV, hf, hc, hdv⟩, E, hW, ht⟩ := h
  refine wpAny_Call_Name_kw (thn ((pe_var (pos := p1) (i := i) hN hv hd hcd).run pinsZ sZ σZ HZ (fun v H1 => v = .ref f ∧ H1 = HZ) IZ ⟨.ref f, hs, rfl, rfl⟩) fun u s1 ⟨v, H1, I1, r1, q1⟩ => ?_)
  obtain ⟨ev, eH⟩ := q1
  subst ev
  rw [eH] at I1
  obtain rfl : u = Value.ref f := r1
  obtain ⟨⟨doc, pm, ctv, of1⟩, _, _⟩ := I1.hok f _ hf
  obtain ⟨⟨oc, vs, tt, hoc, hdc, hvc⟩, _, _⟩ := I1.hok c' _ hc
  refine PySem.W.callWith_F0 ⟨_, _, _, _, of1⟩ ?_
  have un : Un (frs X.stack) [] H HZ s.heap s1.heap := I1.base
  suffices rc : codeAny (model X.prog X.w) (X.A.deeper (envOfC qg sg s.heap.objs.size g cdg)) (.call (.ref f) ⟨[], []⟩) (CR (L2.CX X.prog X.w) (envOfC qg sg s.heap.objs.size g cdg :: X.stack) X.prog X.w HZ s1 Q E) s1 by
    refine wpAny_call (codeAny_mono rc fun r s' hq => ?_)
    cases r with
    | error e => exact tk e s' (XE.of_call I1 (fun cls d H' h => hW cls d H' h) hq)
    | ok fl =>
      cases fl with
      | ret u => exact I1.after hq
      | next => exact False.elim hq
      | brk => exact False.elim hq
      | cont => exact False.elim hq
  cases LG with
  | plain L hdef hbind hbody =>
    obtain ⟨_, rfl⟩ | ⟨nd, _⟩ := hdv
    · refine PySem.W.kla_callFunE hr.depth of1 rfl L.co L.gen rfl ⟨c', oc, vs, tt, rfl, hoc, hdc, hvc⟩ (BindsTo.of_eq (binds := []) (hbind _ _ _ _ _ _) _ _ _ _ ?_)
      refine wpAny_newFunctionEnv (fun y hy => (L.own y hy).2) (fun y hy => absurd hy (by simp)) (fun h₁ hns hsb => ⟨I1.nolimit.fresh _ hsb, ?_⟩) L.kind
      show codeAny _ _ (.expr body (lamEnv X scope s1.heap.objs.size f c')) _ _
      have kp : ∀ b o, s1.heap.get? b = some o → h₁.get? b = some o := fun b o e => hsb.extBut b o (Nat.ne_of_lt (Heap.lt_size e)) (Heap.get?_push_of_some _ e)
      have J : Inv (lamCx X (X.A.deeper (envOfC qg sg s.heap.objs.size g cdg)) (envOfC qg sg s.heap.objs.size g cdg :: X.stack) s1 HZ E scope f c') [] σ HZ { s1 with heap := h₁, toks := s1.toks + ([] : List (Str × Value)).length } :=
        lam_start2 I L I1.env0 hr.hd un hns kp
      refine PySem.W.kla_codeExpr (wpAny_mono ((hbody _ _ s1 HZ E _ _ (hr.deeper _)).run [] _ _ HZ Q J ht) (fun v s' hq => ?_) fun e s' hq => hq)
      obtain ⟨w', H', J', rv, q⟩ := hq
      exact ⟨w', H', J'.os, J'.bare, J'.base, J'.hok, rv, q⟩
    · exact absurd hdef nd
  | @dflt x t' L hxN hdef hbind hbody =>
    obtain ⟨nd, _⟩ | ⟨_, t0, rfl, h0⟩ := hdv
    · exact absurd nd hdef
    · obtain ⟨_, its, rv0, o0, g1, g2, n0, g3⟩ := (show ObjOk X.prog X.w HZ s1.heap t0 (.tup [.int 0]) from I1.hok t0 _ h0)
      obtain ⟨v, rfl, rv⟩ : ∃ v, its = [v] ∧ L2.RelV (.int 0) v := by
        cases rv0 with
        | cons r1 r2 => cases r2; exact ⟨_, rfl, r1⟩
      obtain ⟨kk, hb1, hb2⟩ := hbind (X.env.qual ++ "<lambda>") (cloFrom X.env.cells scope.names []) t0 doc pm (.ref c') ctv
      refine PySem.W.kla_callFunE hr.depth of1 rfl L.co L.gen rfl ⟨c', oc, vs, tt, rfl, hoc, hdc, hvc⟩ (BindsTo.of_defaults (binds := [(x, v)]) rfl g1 g3 hb1 (hb2 v) _ _ _ _ ?_)
      refine wpAny_newFunctionEnv (fun y hy => L.own y hy) (fun y hy => by rw [List.mem_singleton.mp hy]; exact L.hx) (fun h₁ hns hsb => ⟨I1.nolimit.fresh _ hsb, ?_⟩) L.kind
      show codeAny _ _ (.expr body (lamEnv X scope s1.heap.objs.size f c')) _ _
      have kp : ∀ b o, s1.heap.get? b = some o → h₁.get? b = some o := fun b o e => hsb.extBut b o (Nat.ne_of_lt (Heap.lt_size e)) (Heap.get?_push_of_some _ e)
      have J : Inv (lamCx1 X (X.A.deeper (envOfC qg sg s.heap.objs.size g cdg)) (envOfC qg sg s.heap.objs.size g cdg :: X.stack) s1 HZ E scope x f c') [] (σ ++ [some (.int 0)]) HZ { s1 with heap := h₁, toks := s1.toks + ([(x, v)] : List (Str × Value)).length } :=
        lam_start1 I L hxN rv I1.env0 hr.hd un hns kp
      refine PySem.W.kla_codeExpr (wpAny_mono ((hbody _ _ s1 HZ E _ _ (hr.deeper _)).run [] _ _ HZ Q J ht) (fun v s' hq => ?_) fun e s' hq => hq)
      obtain ⟨w', H', J', rv, q⟩ := hq
      exact ⟨w', H', J'.os, J'.bare, J'.base, J'.hok, rv, q⟩
end
/-- a def of one parameter that calls it -/
def GivesTo1 (P : Program) (w : World) (K : PySem.W.Frag) (mg : Str → Option Value) (base : Heap) (k : Nat) (Ng : List Str) (x : Str) (sg : Scope) (g : Addr) (bg : List Stmt) (a : Str) (TT : (XK → Hp → VK → Prop) → Hp → VK → Prop) : Prop :=
  ∀ (cdg : Value) (A : Around) (outer : List Env) (f : Addr) (L : LamD) (s : Shared) (H : Hp) (Q : VK) (tl : XK → Hp → VK → Prop), Room k (A.deeper (envOfC x sg s.heap.objs.size g cdg)) →
    (∀ (W : WX) (pn : List (Addr × Obj)) (xe : Value → Shared → Prop) (p1 p2 : Pos), Takes ((cxOf C8.CX0 P w K mg base Ng x sg g cdg A outer s H C8.E0).tr pn xe) W →
      PE ((cxOf C8.CX0 P w K mg base Ng x sg g cdg A outer s H C8.E0).tr pn xe) (.Call (.Name a p1) [] [] p2) (fun σZ HZ Q => σZ[0]? = some (some (.ref f)) ∧ LamAt HZ f L ∧ ∃ E : XK, (∀ cls d H', E cls d H' → W cls d σZ H') ∧ tl E HZ Q)) →
    LamAt H f L → TT tl H Q →
    ∃ t, PSs (cxOf C8.CX0 P w K mg base Ng x sg g cdg A outer s H C8.E0).nox bg t ∧ t { nx := fun _ H' => Q .non H', rt := Q } (L2.start Ng [.ref f]) H
section
variable {X : Cx}
/-- the call of such a def with a lambda that is kept: told of the very state -/
theorem run_lamO {pins : List (Addr × Obj)} {σ : L2.St} {H : Hp} {s : Shared} {Q : VK} {TT : (XK → Hp → VK → Prop) → Hp → VK → Prop} {x a : Str} {st : Stmt} {g f : Addr} {k : Nat} {fd : FuncData} {Ng : List Str} {params : Arguments} {body : Expr} {scope : Scope} {t : XK → TE}
    (F : Fun X.K x x st g fd) (hb : L2.Binds X.K fd [a] []) (Sg : FnScope Ng [a] (defScope st)) (hNg : Ng[0]? = some a) (hva : Vis (defScope st) a) (hG : GivesTo1 X.prog X.w X.K X.mg X.base (k + 1) Ng x (defScope st) g (defBody st) a TT)
    (LG : LamGood X k params body scope t) (hr : Room (k + 2) X.A) (I : Inv X pins σ H s) (hL : LamAt H f (lamD X params body scope)) (h : TT (fun E H' Q' => t E σ H' Q') H Q)
    (hd : (a == ("__debug__" : Str)) = false := by decide) (hcd : (a == ("__classdict__" : Str)) = false := by decide) :
    codeAny (model X.prog X.w) X.A (.call (.ref g) ⟨[.ref f], []⟩) (CR C8.CX0 X.stack X.prog X.w H s Q C8.E0) s := by
  obtain ⟨oc, od, kV, doc, pm, an, cdv, ct, osl, rfl, lk, hcg⟩ := F.ex
  refine run_ofS (N := Ng) (ps := [a]) (us := [.ref f]) (vs := [.ref f]) lk hcg Sg hr I.env0 (hb s [.ref f] I.kIn rfl) (.cons rfl .nil) rfl fun hr' => ?_
  refine Exists.elim (hG cdv X.A X.stack f _ s H Q (fun E H' Q' => t E σ H' Q') hr' (fun W pn xe p1 p2 tk => ⟨fun pinsZ sZ σZ HZ QZ IZ hz => ?_⟩) hL h) fun t' h' => ⟨t', h'.1.nox, h'.2⟩
  obtain ⟨z1, z2, E, hW, z3⟩ := hz
  exact (pe_actO (i := 0) I LG tk hr' hNg hva hd hcd).run pinsZ sZ σZ HZ QZ IZ ⟨z1, z2, E, hW, z3⟩
/-- x(lambda: body) -/
def tLamG (T : List (Addr × Str)) (TT : (XK → Hp → VK → Prop) → Hp → VK → Prop) (t : XK → TE) : TE := fun σ H Q => Tabs T H ∧ ∀ H1, ExtN H H1 → Tabs T H1 → TT (fun E H' Q' => t E σ H' Q') H1 Q
theorem pe_lamcallG {T : List (Addr × Str)} {TT : (XK → Hp → VK → Prop) → Hp → VK → Prop} {x a : Str} {st : Stmt} {g c P : Addr} {k : Nat} {fd : FuncData} {Ng : List Str} {params : Arguments} {body : Expr} {scope : Scope} {t : XK → TE} {p lpos pos : Pos}
    (F : Fun X.K x x st g fd) (hg : Gl X x) (hm : X.mg x = some (.ref g)) (hk : PySem.W.keepIn X.K (.ref g) = true) (hb : L2.Binds X.K fd [a] []) (Sg : FnScope Ng [a] (defScope st)) (hNg : Ng[0]? = some a) (hva : Vis (defScope st) a)
    (hG : GivesTo1 X.prog X.w X.K X.mg X.base (k + 1) Ng x (defScope st) g (defBody st) a TT)
    (TB : TabB X.base X.mg c P) (hcode : X.env.code = .ref c) (hmT : (P, X.env.qual ++ "<lambda>") ∈ T) (hu : ∀ p ∈ T, p.1 = P → p.2 = X.env.qual ++ "<lambda>") (hr : Room (k + 2) X.A)
    (hfree : ∀ y ∈ scope.names, y.2 = .free → X.env.scope.names.lookup y.1 = some .cell ∨ X.env.scope.names.lookup y.1 = some .free) (hk0 : params.kw_defaults = []) (hdef : params.defaults = [] ∨ ∃ j pc, params.defaults = [.Constant (.int 0) j pc]) (LG : LamGood X k params body scope t)
    (hdb : (x == ("__debug__" : Str)) = false := by decide) (hd : (a == ("__debug__" : Str)) = false := by decide) (hcd : (a == ("__classdict__" : Str)) = false := by decide) :
    PE X (.Call (.Name x p) [.Lambda params body scope lpos] [] pos) (tLamG T TT t) := by
  refine ⟨fun pins s σ H Q I h => ?_⟩
  obtain ⟨hT, h⟩ := h
  refine wpAny_Call_Name_kw (ld_glob I hg hm ?_ hdb)
  refine PySem.W.callWith_K (h₀ := X.base) I.ok.mod.kin hk ?_ (by rfl) (by rfl)
  show wpAny _ _ (spliced ((false, eval (.Lambda params body scope lpos) X.env) :: backTo pos (starEach [] X.env))) _ _ s
  refine Calls.spliced_cons (thn ((pe_lamO (pos := lpos) TB hcode hmT hu hfree hk0 hdef).run pins s σ H (fun v H1 => ∃ f, v = .ref f ∧ ExtN H H1 ∧ Tabs T H1 ∧ LamAt H1 f (lamD X params body scope)) I ⟨hT, fun H1 f e1 T1 _ hL => ⟨f, rfl, e1, T1, hL⟩⟩) fun u s1 ⟨v, H1, I1, r1, f, ev, e1, T1, hL⟩ => ?_)
  subst ev
  obtain rfl : u = Value.ref f := r1
  refine Calls.spliced_nil ⟨I1.kIn, ?_⟩
  refine wpAny_call (codeAny_mono (run_lamO F hb Sg hNg hva hG LG hr I1 hL (h H1 e1 T1) hd hcd) fun r s2 hq => ?_)
  cases r with
  | error e => exact (show False from hq).elim
  | ok fl =>
    cases fl with
    | ret u => exact I1.after hq
    | next => exact False.elim hq
    | brk => exact False.elim hq
    | cont => exact False.elim hq
end
/-- what a callee lets out goes on -/
theorem passY {X : Cx} {E : XK} (hs : X.stack = X.env :: X.outer) (hf : X.env.frame = some X.env.locals) (hex : X.ex = []) {E₁ : Value → Shared → Prop} (hx : X.xe = fun e s' => wpAny (model X.prog X.w) X.A (leaving X.env e) (fun _ s'' => L2.CX X.prog X.w X.outer X.H_0 X.s_0 E e s'') E₁ s') : Passes (L2.CX X.prog X.w) X E :=
  passes_call (takes_of hs hf hex hx) fun _ _ _ _ h => h
/-- isinstance(e, c), e a caught error with a dict of its own -/
def rIsX (K : PySem.W.Frag) (cls : Value) (d : Option Addr) (a : Addr) : List V → Hp → VK → Prop := fun xs H Q => ∃ (D dx : Addr) (fs : List (Str × V)) (c : V) (cv : Value) (b : Bool), cls = .ref D ∧ ExcC K D ∧ d = some dx ∧ H dx = some (.xd fs) ∧ xs = [.ref a, c] ∧ ClsV c cv ∧ PySem.W.kitOne K (.ref D) cv = some b ∧ Q (.bl b) H
theorem call_isX {X : Cx} {a : Addr} {cls : Value} {d : Option Addr} {oe : Obj} {pn : List (Addr × Obj)} (hz : Zc cls d oe) (hf : ∃ vs, oe.data = .fields vs) : CallR (X.suite a ((a, oe) :: pn)) (.builtin "isinstance") (rIsX X.K cls d a) := by
  intro pins s σ H xs us Q I r h
  obtain ⟨D, dx, fs, c, cv, b, rfl, C, rfl, hdx, rfl, hcv, e, q⟩ := h
  cases r with
  | cons rx rr =>
    cases rr with
    | cons rt rr =>
      cases rr
      cases rx
      have ec := hcv.eq rt
      subst ec
      obtain ⟨hget, _⟩ := I.pin (a, oe) (List.mem_append.mpr (.inl List.mem_cons_self))
      obtain ⟨vs, hv⟩ := hf
      obtain ⟨mA, ⟨od, es, ep, ho, _⟩, _⟩ := (show ObjOk X.prog X.w H s.heap dx (.xd fs) from I.hok dx _ hdx)
      have J : PySem.W.InstAt s.heap a oe D (some od) := by
        obtain ⟨oc, ood, oda, osl⟩ := oe
        obtain ⟨h1, h2⟩ := hz
        dsimp only at h1 h2 hv
        subst h1 h2 hv
        exact ⟨hget, rfl, rfl, ho⟩
      have hcl : (PySem.W.clsIn X.K D).isSome = true := by
        obtain ⟨cd, hc, _⟩ := any_some C.hd
        rw [hc]
        rfl
      exact PySem.W.kia_one (PySem.W.kitx_exc hcl C.hg C.hk C.hs C.ha C.hn C.ht C.hm) I.kIn J e (fun z => nomatch z) fun tk => ⟨.bl b, H, I.kept (t' := tk) fun _ _ z => z, rfl, q⟩
end L2

namespace L2
open PySem PySem.Spec PyProof.Rows
/-! ### a def that has defaults -/
structure FunV (K : PySem.W.Frag) (x qual : Str) (st : Stmt) (f : Addr) (fd : FuncData) : Prop where
  ex : ∃ (oc : Value) (od : Option Addr) (dV kV doc pm : Value) (an : Option Addr) (cdv ct : Value) (osl : Array (Option Value)),
    fd = PySem.W.fnOf x qual (defArgs st) (defBody st) (defScope st) dV kV doc pm an cdv ct ∧ K.lookup f = some ⟨oc, od, .func fd, osl⟩ ∧ PySem.W.codeIn K cdv qual = true
section
variable {P : Program} {w : World} {K : PySem.W.Frag} {mg : Str → Option Value} {base : Heap}
theorem FunV.ok {x qual : Str} {st : Stmt} {f : Addr} {fd : FuncData} {N ps : List Str} {k : Nat} {sp : Sp} (F : FunV K x qual st f fd) (S : FnScope N ps (defScope st)) (len : ∀ vs H Q E, sp vs H Q E → vs.length = ps.length)
    (hbody : ∀ (cdv : Value) (A : Around) (outer : List Env) (s : Shared) (H : Hp) (vs : List V) (Q : VK) (E : XK), Room k (A.deeper (envOfC qual (defScope st) s.heap.objs.size f cdv)) → sp vs H Q E →
      ∃ t, PSs (cxOf CX0 P w K mg base N qual (defScope st) f cdv A outer s H E).nox (defBody st) t ∧ t { nx := fun _ H' => Q .non H', rt := Q } (start N vs) H) : FnOk P w K mg base CX0 (k + 1) f fd ps sp := by
  obtain ⟨oc, od, dV, kV, doc, pm, an, cdv, ct, osl, rfl, lk, hcd⟩ := F.ex
  refine fn_of lk hcd S len fun A outer s H vs Q E hr hsp => ?_
  obtain ⟨t, h, q⟩ := hbody cdv A outer s H vs Q E hr hsp
  exact ⟨t, h.nox, q⟩
theorem FunV.okX {x qual : Str} {st : Stmt} {f : Addr} {fd : FuncData} {N ps : List Str} {k : Nat} {sp : Sp} (F : FunV K x qual st f fd) (S : FnScope N ps (defScope st)) (len : ∀ vs H Q E, sp vs H Q E → vs.length = ps.length)
    (hbody : ∀ (cdv : Value) (A : Around) (outer : List Env) (s : Shared) (H : Hp) (vs : List V) (Q : VK) (E : XK), Room k (A.deeper (envOfC qual (defScope st) s.heap.objs.size f cdv)) → sp vs H Q E →
      ∃ t, PSs (cxOf (L2.CX P w) P w K mg base N qual (defScope st) f cdv A outer s H E) (defBody st) t ∧ t { nx := fun _ H' => Q .non H', rt := Q } (start N vs) H) : FnOk P w K mg base (L2.CX P w) (k + 1) f fd ps sp := by
  obtain ⟨oc, od, dV, kV, doc, pm, an, cdv, ct, osl, rfl, lk, hcd⟩ := F.ex
  exact fn_of lk hcd S len fun A outer s H vs Q E hr hsp => hbody cdv A outer s H vs Q E hr hsp
theorem funV_mk {x qual : Str} {st : Stmt} {f : Addr} {oc : Value} {od an : Option Addr} {osl : Array (Option Value)} {dV kV doc pm cdv ct : Value} (l : K.lookup f = some ⟨oc, od, .func (PySem.W.fnOf x qual (defArgs st) (defBody st) (defScope st) dV kV doc pm an cdv ct), osl⟩)
    (c : PySem.W.codeIn K cdv qual = true) : FunV K x qual st f (PySem.W.fnOf x qual (defArgs st) (defBody st) (defScope st) dV kV doc pm an cdv ct) := ⟨oc, od, dV, kV, doc, pm, an, cdv, ct, osl, rfl, l, c⟩
/-- how the arguments bind where the last defaults fill up: dvs the defaults, j of them are written -/
theorem bindsV {x qual : Str} {st : Stmt} {f T : Addr} {oc oT : Value} {od odT an : Option Addr} {osl slT : Array (Option Value)} {kV doc pm cdv ct : Value} {its : List Value} {nT : Nat} {ps : List Str} {dvs : List V}
    (l : K.lookup f = some ⟨oc, od, .func (PySem.W.fnOf x qual (defArgs st) (defBody st) (defScope st) (.ref T) kV doc pm an cdv ct), osl⟩)
    (c : PySem.W.codeIn K cdv qual = true) (kp : PySem.W.keepIn K (.ref f) = true) (lT : K.lookup T = some ⟨oT, odT, .seq its.toArray nT, slT⟩) (rT : Vals dvs its) (n j : Nat) (hd : dvs ≠ []) (hn : n + (dvs.length - j) = ps.length)
    (h : ∀ (T : Addr) (kV doc pm : Value) (an : Option Addr) (cdv ct : Value) (us its : List Value), us.length = n → its.length = dvs.length →
      ∃ k, bindArgs (PySem.W.fnOf x qual (defArgs st) (defBody st) (defScope st) (.ref T) kV doc pm an cdv ct) ⟨us, []⟩ = seqItems? (.ref T) >>= k ∧ k (some its.toArray) = pure (ps.zip (us ++ its.drop j))) :
    ∃ ds, Vals (dvs.drop j) ds ∧ Binds K (PySem.W.fnOf x qual (defArgs st) (defBody st) (defScope st) (.ref T) kV doc pm an cdv ct) ps ds := by
  have F : FunD K x qual (defArgs st) (defBody st) (defScope st) dvs [] f _ := ⟨⟨_, _, _, _, _, _, _, _, _, _, rfl, l, c, .inr ⟨hd, T, _, its, nT, rfl, lT, rfl, rT⟩, .inl rfl⟩, kp⟩
  exact F.binds1 (ps := ps) n j hd hn h
theorem Binds.none {fd : FuncData} {ps : List Str} {ds : List Value} (r : Vals [] ds) (b : Binds K fd ps ds) : Binds K fd ps [] := by
  cases r
  exact b
end
end L2

namespace L2
open PySem PySem.Spec PyProof.Rows
/-! ### least lengths -/
/-- how often a number is halved until it is below 64 -/
def lk (n : Nat) : Nat := n.log2 - 5
/-- whether one of the i lowest figures is 1 -/
def ro (n i : Nat) : Nat := if n % 2 ^ i = 0 then 0 else 1
def lenD (n : Nat) : Nat := n / 2 ^ lk n + ro n (lk n)
theorem lk_small {n : Nat} (h : n < 64) : lk n = 0 := by
  unfold lk
  by_cases e : n = 0
  · rw [e]; decide
  · have : n.log2 < 6 := (Nat.log2_lt e).mpr (by omega)
    omega
theorem lk_end (n : Nat) : n / 2 ^ lk n < 64 := by
  by_cases h : n < 64
  · rw [lk_small h]
    omega
  · have e : n ≠ 0 := by omega
    have h1 : n < 2 ^ (n.log2 + 1) := (Nat.log2_lt e).mp (Nat.lt_succ_self _)
    have h2 : 6 ≤ n.log2 := (Nat.le_log2 e).mpr (by omega)
    rw [Nat.div_lt_iff_lt_mul (Nat.two_pow_pos _)]
    have e2 : n.log2 + 1 = 6 + lk n := by unfold lk; omega
    rw [e2, Nat.pow_add] at h1
    exact h1
theorem lk_before {n i : Nat} (h : i < lk n) : 64 ≤ n / 2 ^ i := by
  have e : n ≠ 0 := fun e => by
    rw [e] at h
    have z : lk 0 = 0 := by decide
    omega
  rw [Nat.le_div_iff_mul_le (Nat.two_pow_pos _)]
  have h1 : 2 ^ n.log2 ≤ n := Nat.log2_self_le e
  have h2 : 6 + i ≤ n.log2 := by unfold lk at h; omega
  calc 64 * 2 ^ i = 2 ^ (6 + i) := by rw [Nat.pow_add]
    _ ≤ 2 ^ n.log2 := Nat.pow_le_pow_right (by decide) h2
    _ ≤ n := h1
theorem lk_low {n : Nat} (h : 64 ≤ n) : 32 ≤ n / 2 ^ lk n := by
  have e : n ≠ 0 := by omega
  rw [Nat.le_div_iff_mul_le (Nat.two_pow_pos _)]
  have h1 : 2 ^ n.log2 ≤ n := Nat.log2_self_le e
  have h2 : 6 ≤ n.log2 := (Nat.le_log2 e).mpr (by omega)
  calc 32 * 2 ^ lk n = 2 ^ (5 + lk n) := by rw [Nat.pow_add]
    _ ≤ 2 ^ n.log2 := Nat.pow_le_pow_right (by decide) (by unfold lk; omega)
    _ ≤ n := h1
theorem ro_le (n i : Nat) : ro n i ≤ 1 := by unfold ro; split <;> decide
theorem ro_zero (n : Nat) : ro n 0 = 0 := by unfold ro; rw [Nat.pow_zero, Nat.mod_one]; rfl
theorem ro_step (n i : Nat) : ro n (i + 1) = if n / 2 ^ i % 2 = 1 then 1 else ro n i := by
  unfold ro
  have h := Nat.mod_pow_succ (b := 2) (k := i) (x := n)
  have h2 : n / 2 ^ i % 2 < 2 := Nat.mod_lt _ (by decide)
  have hp : 0 < 2 ^ i := Nat.two_pow_pos _
  rw [h]
  by_cases e : n / 2 ^ i % 2 = 1
  · rw [if_pos e, e, if_neg (by omega)]
  · rw [if_neg e, show n / 2 ^ i % 2 = 0 by omega, Nat.mul_zero, Nat.add_zero]
theorem lenD_small {n : Nat} (h : n < 64) : lenD n = n := by
  unfold lenD
  rw [lk_small h, ro_zero, Nat.pow_zero, Nat.div_one, Nat.add_zero]
theorem lenD_mid {n : Nat} (h : 64 ≤ n) : 32 ≤ lenD n ∧ lenD n ≤ 64 := by
  have h1 := lk_low h
  have h2 := lk_end n
  have h3 := ro_le n (lk n)
  unfold lenD
  omega
theorem lenD_dbl {n : Nat} (h : 64 ≤ n) : lenD (2 * n) = lenD n := by
  have e : n ≠ 0 := by omega
  have hl : (2 * n).log2 = n.log2 + 1 := by
    have a1 : n < 2 ^ (n.log2 + 1) := (Nat.log2_lt e).mp (Nat.lt_succ_self _)
    have a2 : 2 ^ n.log2 ≤ n := Nat.log2_self_le e
    have b1 : (2 * n).log2 < n.log2 + 2 := (Nat.log2_lt (by omega)).mpr (by rw [Nat.pow_succ]; omega)
    have b2 : n.log2 + 1 ≤ (2 * n).log2 := (Nat.le_log2 (by omega)).mpr (by rw [Nat.pow_succ]; omega)
    omega
  have h2 : 6 ≤ n.log2 := (Nat.le_log2 e).mpr (by omega)
  have hk : lk (2 * n) = lk n + 1 := by unfold lk; omega
  unfold lenD ro
  rw [hk, Nat.pow_succ, Nat.mul_comm (2 ^ lk n) 2, Nat.mul_div_mul_left _ _ (by decide : 0 < 2), Nat.mul_mod_mul_left]
  congr 1
  by_cases z : n % 2 ^ lk n = 0
  · rw [if_pos z, if_pos (by omega)]
  · rw [if_neg z, if_neg (by omega)]
theorem ro_due (n i : Nat) : (if (n : Int) = (n : Int) / 2 ^ i * 2 ^ i then (0 : Int) else 1) = (ro n i : Int) := by
  unfold ro
  have hp : 0 < 2 ^ i := Nat.two_pow_pos _
  have e : ((n : Int) / 2 ^ i * 2 ^ i) = ((n / 2 ^ i * 2 ^ i : Nat) : Int) := by
    rw [Int.natCast_mul, Int.natCast_ediv, Int.natCast_pow]
    rfl
  rw [e]
  have h := Nat.div_add_mod n (2 ^ i)
  rw [Nat.mul_comm] at h
  by_cases z : n % 2 ^ i = 0
  · rw [if_pos z, if_pos (by omega)]
    rfl
  · rw [if_neg z, if_neg (by omega)]
    rfl
/-- whether a value is an int and no bool -/
def IntQ (K : PySem.W.Frag) (H : Hp) (v : V) (b : Bool) : Prop := ∃ t b1 b2, TyX K H v t ∧ PySem.W.kitOne K t (.type "int") = some b1 ∧ PySem.W.kitOne K t (.type "bool") = some b2 ∧ b = (b1 && !b2)
theorem IntQ.int {K : PySem.W.Frag} {H : Hp} (i : Int) : IntQ K H (.int i) true := ⟨_, true, false, .base (.int i), kit_ty (by decide +kernel), kit_ty (by decide +kernel), rfl⟩
theorem IntQ.bl {K : PySem.W.Frag} {H : Hp} (i : Bool) : IntQ K H (.bl i) false := ⟨_, true, true, .base (.bl i), kit_ty (by decide +kernel), kit_ty (by decide +kernel), rfl⟩
theorem IntQ.non {K : PySem.W.Frag} {H : Hp} : IntQ K H .non false := ⟨_, false, false, .base .non, kit_ty (by decide +kernel), kit_ty (by decide +kernel), rfl⟩
theorem IntQ.str {K : PySem.W.Frag} {H : Hp} (x : Str) : IntQ K H (.str x) false := ⟨_, false, false, .base (.str x), kit_ty (by decide +kernel), kit_ty (by decide +kernel), rfl⟩
theorem IntQ.lst {K : PySem.W.Frag} {H : Hp} {a : Addr} {xs : List V} (h : H a = some (.lst xs)) : IntQ K H (.ref a) false := ⟨_, false, false, .base (.lst h), kit_ty (by decide +kernel), kit_ty (by decide +kernel), rfl⟩
theorem IntQ.tup {K : PySem.W.Frag} {H : Hp} {a : Addr} {xs : List V} (h : H a = some (.tup xs)) : IntQ K H (.ref a) false := ⟨_, false, false, .base (.tup h), kit_ty (by decide +kernel), kit_ty (by decide +kernel), rfl⟩
theorem IntQ.dK {K : PySem.W.Frag} {H : Hp} {a : Addr} {xs : List (Key × V)} (h : H a = some (.dK xs)) : IntQ K H (.ref a) false := ⟨_, false, false, .base (.dK h), kit_ty (by decide +kernel), kit_ty (by decide +kernel), rfl⟩
/-- whether a value is an int within bounds -/
def InB (K : PySem.W.Frag) (H : Hp) (v : V) (lo : Int) (m : V) (ok : Bool) : Prop := (IntQ K H v false ∧ ok = false) ∨ (∃ i, v = .int i ∧ ((m = .non ∧ ok = decide (lo ≤ i)) ∨ ∃ hi, m = .int hi ∧ ok = (decide (lo ≤ i) && decide (i ≤ hi))))
theorem InB.yes {K : PySem.W.Frag} {H : Hp} {i lo hi : Int} (h1 : lo ≤ i) (h2 : i ≤ hi) : InB K H (.int i) lo (.int hi) true := .inr ⟨i, rfl, .inr ⟨hi, rfl, by rw [decide_eq_true h1, decide_eq_true h2]; rfl⟩⟩
theorem InB.odd {K : PySem.W.Frag} {H : Hp} {v m : V} {lo : Int} (h : IntQ K H v false) : InB K H v lo m false := .inl ⟨h, rfl⟩
theorem InB.low {K : PySem.W.Frag} {H : Hp} {i lo hi : Int} (h1 : i < lo) : InB K H (.int i) lo (.int hi) false := .inr ⟨i, rfl, .inr ⟨hi, rfl, by rw [decide_eq_false (by omega)]; rfl⟩⟩
theorem InB.high {K : PySem.W.Frag} {H : Hp} {i lo hi : Int} (h1 : hi < i) : InB K H (.int i) lo (.int hi) false := .inr ⟨i, rfl, .inr ⟨hi, rfl, by rw [decide_eq_false (show ¬ i ≤ hi by omega), Bool.and_false]⟩⟩
end L2

/-! values of any kind, and what checks say of them -/
namespace L2
open PySem PySem.Spec PyProof.Rows LamX
/-- a value and its type's name -/
inductive AnyV (H : Hp) : V → String → Prop
  | non : AnyV H .non "NoneType"
  | bl (b : Bool) : AnyV H (.bl b) "bool"
  | int (i : Int) : AnyV H (.int i) "int"
  | str (x : Str) : AnyV H (.str x) "str"
  | lst {p : Addr} {xs : List V} (h : H p = some (.lst xs)) : AnyV H (.ref p) "list"
  | tup {p : Addr} {xs : List V} (h : H p = some (.tup xs)) : AnyV H (.ref p) "tuple"
  | dK {p : Addr} {xs : List (Key × V)} (h : H p = some (.dK xs)) : AnyV H (.ref p) "dict"
theorem AnyV.ext {H H' : Hp} {v : V} {T : String} (e : ExtN H H') (h : AnyV H v T) : AnyV H' v T := by
  cases h with
  | non => exact .non
  | bl b => exact .bl b
  | int i => exact .int i
  | str x => exact .str x
  | lst h => exact .lst (e _ _ h fun ps z => by cases z)
  | tup h => exact .tup (e _ _ h fun ps z => by cases z)
  | dK h => exact .dK (e _ _ h fun ps z => by cases z)
theorem AnyV.same {H H' : Hp} {v : V} {T : String} (e : Same H H') (h : AnyV H v T) : AnyV H' v T := h.ext (.of e)
theorem AnyV.ty {K : PySem.W.Frag} {H : Hp} {v : V} {T : String} (h : AnyV H v T) : TyX K H v (.type T) := by
  cases h with
  | non => exact .base .non
  | bl b => exact .base (.bl b)
  | int i => exact .base (.int i)
  | str x => exact .base (.str x)
  | lst h => exact .base (.lst h)
  | tup h => exact .base (.tup h)
  | dK h => exact .base (.dK h)
/-- is the value a whole number, not a bool -/
def isI : V → Bool
  | .int _ => true
  | _ => false
theorem AnyV.intQ {K : PySem.W.Frag} {H : Hp} {v : V} {T : String} (h : AnyV H v T) : IntQ K H v (isI v) := by
  cases h with
  | non => exact .non
  | bl b => exact .bl b
  | int i => exact .int i
  | str x => exact .str x
  | lst h => exact .lst h
  | tup h => exact .tup h
  | dK h => exact .dK h
/-- .. within bounds -/
def leH : Option Int → Int → Bool
  | none, _ => true
  | some h, i => decide (i ≤ h)
def inR (lo : Int) (hi : Option Int) : V → Bool
  | .int i => decide (lo ≤ i) && leH hi i
  | _ => false
def hiV : Option Int → V
  | none => .non
  | some h => .int h
theorem AnyV.inB {K : PySem.W.Frag} {H : Hp} {v : V} {T : String} (h : AnyV H v T) (lo : Int) (hi : Option Int) : InB K H v lo (hiV hi) (inR lo hi v) := by
  cases h with
  | non => exact .odd .non
  | bl b => exact .odd (.bl b)
  | str x => exact .odd (.str x)
  | lst h => exact .odd (.lst h)
  | tup h => exact .odd (.tup h)
  | dK h => exact .odd (.dK h)
  | int i =>
    refine .inr ⟨i, rfl, ?_⟩
    cases hi with
    | none => exact .inl ⟨rfl, by show (decide (lo ≤ i) && true) = _; rw [Bool.and_true]⟩
    | some z => exact .inr ⟨z, rfl, rfl⟩
theorem inR_int {lo : Int} {hi : Option Int} {v : V} (h : inR lo hi v = true) : ∃ i, v = .int i ∧ lo ≤ i ∧ ∀ z, hi = some z → i ≤ z := by
  cases v with
  | int i =>
    have h : (decide (lo ≤ i) && leH hi i) = true := h
    obtain ⟨h1, h2⟩ := Bool.and_eq_true_iff.mp h
    refine ⟨i, rfl, of_decide_eq_true h1, fun z e => ?_⟩
    subst e
    exact of_decide_eq_true h2
  | _ => cases h
theorem inR_yes {lo hi i : Int} (h1 : lo ≤ i) (h2 : i ≤ hi) : inR lo (some hi) (.int i) = true := by
  show (decide (lo ≤ i) && decide (i ≤ hi)) = true
  rw [decide_eq_true h1, decide_eq_true h2]
  rfl
theorem inR_low {lo i : Int} {hi : Option Int} (h1 : i < lo) : inR lo hi (.int i) = false := by
  show (decide (lo ≤ i) && _) = false
  rw [decide_eq_false (by omega)]
  rfl
theorem inR_high {lo hi i : Int} (h1 : hi < i) : inR lo (some hi) (.int i) = false := by
  show (decide (lo ≤ i) && decide (i ≤ hi)) = false
  rw [show decide (i ≤ hi) = false from decide_eq_false (by omega), Bool.and_false]
/-- an error of the class C is let out, which keeps v under f -/
def Rz (E : XK) (H : Hp) (C : Addr) (f : Str) (v : V) : Prop := ∀ (dx : Addr) (H' : Hp), Same H H' → H dx = none → H' dx = some (.xd [(f, v)]) → E (.ref C) (some dx) H'
theorem Rz.same {E : XK} {H H1 : Hp} {C : Addr} {f : Str} {v : V} (s : Same H H1) (h : Rz E H C f v) : Rz E H1 C f v := fun dx H' s' n e => h dx H' (s.trans s') (by
  cases q : H dx with
  | none => rfl
  | some o => rw [s _ _ q] at n; cases n) e
/-- a list or a tuple -/
def RowAt (H : Hp) (p : Addr) (xs : List V) : Prop := H p = some (.lst xs) ∨ H p = some (.tup xs)
theorem RowAt.ext {H H' : Hp} {p : Addr} {xs : List V} (e : ExtN H H') (h : RowAt H p xs) : RowAt H' p xs := h.imp (fun h => e _ _ h fun ps z => by cases z) fun h => e _ _ h fun ps z => by cases z
theorem RowAt.same {H H' : Hp} {p : Addr} {xs : List V} (e : Same H H') (h : RowAt H p xs) : RowAt H' p xs := h.imp (e _ _) (e _ _)
/-- what is told of a row whose entries a test must let by: the first place that it does not, or -1 -/
inductive RowQ (ok : Hp → V → Bool → Prop) (H : Hp) (v : V) (lo hi : Int) : Option Int → Prop
  | odd {T : String} (h : AnyV H v T) (n1 : T ≠ "list") (n2 : T ≠ "tuple") : RowQ ok H v lo hi (some (-1))
  | len {p : Addr} {xs : List V} (e : v = .ref p) (h : RowAt H p xs) (hl : ¬ (lo ≤ (xs.length : Int) ∧ (xs.length : Int) ≤ hi)) : RowQ ok H v lo hi (some (-1))
  | item {p : Addr} {xs : List V} {i : Nat} {x : V} (e : v = .ref p) (h : RowAt H p xs) (hl : lo ≤ (xs.length : Int) ∧ (xs.length : Int) ≤ hi) (hx : xs[i]? = some x) (bad : ok H x false) (good : ∀ (j : Nat) (y : V), j < i → xs[j]? = some y → ok H y true) : RowQ ok H v lo hi (some (i : Int))
  | fine {p : Addr} {xs : List V} (e : v = .ref p) (h : RowAt H p xs) (hl : lo ≤ (xs.length : Int) ∧ (xs.length : Int) ≤ hi) (good : ∀ (j : Nat) (y : V), xs[j]? = some y → ok H y true) : RowQ ok H v lo hi none
theorem RowQ.ext {ok : Hp → V → Bool → Prop} (st : ∀ {H H' : Hp} {v : V} {b : Bool}, ExtN H H' → ok H v b → ok H' v b) {H H' : Hp} {v : V} {lo hi : Int} {r : Option Int} (e : ExtN H H') (h : RowQ ok H v lo hi r) : RowQ ok H' v lo hi r := by
  cases h with
  | odd h n1 n2 => exact .odd (h.ext e) n1 n2
  | len e1 h hl => exact .len e1 (h.ext e) hl
  | item e1 h hl hx bad good => exact .item e1 (h.ext e) hl hx (st e bad) fun j y hj hy => st e (good j y hj hy)
  | fine e1 h hl good => exact .fine e1 (h.ext e) hl fun j y hy => st e (good j y hy)
theorem RowQ.go {ok : Hp → V → Bool → Prop} {H : Hp} {v : V} {lo hi : Int} {r : Option Int} (h : RowQ ok H v lo hi r) : (∃ T, AnyV H v T ∧ T ≠ "list" ∧ T ≠ "tuple" ∧ r = some (-1)) ∨ (∃ p xs, v = .ref p ∧ RowAt H p xs ∧ ¬ (lo ≤ (xs.length : Int) ∧ (xs.length : Int) ≤ hi) ∧ r = some (-1)) ∨
    ∃ p xs, v = .ref p ∧ RowAt H p xs ∧ (lo ≤ (xs.length : Int) ∧ (xs.length : Int) ≤ hi) ∧ (∀ (j : Nat) (y : V), xs[j]? = some y → (∀ i, r = some i → (j : Int) ≤ i) → (ok H y true ∧ r ≠ some (j : Int)) ∨ (ok H y false ∧ r = some (j : Int))) ∧ ∀ i, r = some i → 0 ≤ i ∧ i < (xs.length : Int) := by
  cases h with
  | odd h n1 n2 => exact .inl ⟨_, h, n1, n2, rfl⟩
  | len e h hl => exact .inr (.inl ⟨_, _, e, h, hl, rfl⟩)
  | @item p xs i x e h hl hx bad good =>
    refine .inr (.inr ⟨p, xs, e, h, hl, fun j y hy up => ?_, fun z hz => ?_⟩)
    · have := up _ rfl
      rcases Nat.lt_or_ge j i with c | c
      · exact .inl ⟨good j y c hy, fun z => by have := Option.some.inj z; omega⟩
      · obtain rfl : j = i := by omega
        rw [hx] at hy
        rw [← Option.some.inj hy]
        exact .inr ⟨bad, rfl⟩
    · obtain rfl := Option.some.inj hz
      have := (List.getElem?_eq_some_iff.mp hx).1
      omega
  | @fine p xs e h hl good => exact .inr (.inr ⟨p, xs, e, h, hl, fun j y hy _ => .inl ⟨good j y hy, fun z => by cases z⟩, fun z hz => by cases hz⟩)
/-- an entry that is a whole number, or is none -/
def okInt (H : Hp) (v : V) (b : Bool) : Prop := ∃ T, AnyV H v T ∧ b = isI v
theorem okInt.ext {H H' : Hp} {v : V} {b : Bool} (e : ExtN H H') (h : okInt H v b) : okInt H' v b := h.imp fun _ h => ⟨h.1.ext e, h.2⟩
abbrev KeysQ := RowQ okInt
theorem keysExt {H H' : Hp} {v : V} {lo hi : Int} {r : Option Int} (e : ExtN H H') (h : KeysQ H v lo hi r) : KeysQ H' v lo hi r := RowQ.ext (ok := okInt) (fun {H1 H2 v b} e h => okInt.ext (H := H1) (H' := H2) (v := v) (b := b) e h) e h
theorem kit_lt {K : PySem.W.Frag} {H : Hp} {v : V} {T : String} (h : AnyV H v T) (n1 : T ≠ "list") (n2 : T ≠ "tuple") : PySem.W.kitAny K (.type T) [.type "list", .type "tuple"] = some false := by
  have go : ∀ T : String, kitB T "list" = some false → kitB T "tuple" = some false → PySem.W.kitAny K (.type T) [.type "list", .type "tuple"] = some false := fun T h1 h2 => kitAny_cons (b := false) (kit_ty h1) (fun _ => kitAny_cons (b := false) (kit_ty h2) (fun _ => kitAny_nil) fun z => nomatch z) fun z => nomatch z
  cases h with
  | non => exact go _ (by decide +kernel) (by decide +kernel)
  | bl b => exact go _ (by decide +kernel) (by decide +kernel)
  | int i => exact go _ (by decide +kernel) (by decide +kernel)
  | str x => exact go _ (by decide +kernel) (by decide +kernel)
  | lst h => exact absurd rfl n1
  | tup h => exact absurd rfl n2
  | dK h => exact go _ (by decide +kernel) (by decide +kernel)
theorem kit_row {K : PySem.W.Frag} {H : Hp} {p : Addr} {xs : List V} (h : RowAt H p xs) : ∃ t, TyX K H (.ref p) t ∧ PySem.W.kitAny K t [.type "list", .type "tuple"] = some true := by
  rcases h with hl | ht
  · exact ⟨_, .base (.lst hl), kitAny_cons (b := true) (kit_ty (by decide +kernel)) (fun z => nomatch z) (fun _ => rfl)⟩
  · exact ⟨_, .base (.tup ht), kitAny_cons (b := false) (kit_ty (by decide +kernel)) (fun _ => kitAny_cons (b := true) (kit_ty (by decide +kernel)) (fun z => nomatch z) (fun _ => rfl)) (fun z => nomatch z)⟩
/-- what two error classes are to each other -/
structure ExS (K : PySem.W.Frag) (C1 C2 : Addr) (b : Bool) : Prop where
  kit : PySem.W.kitOne K (.ref C1) (.ref C2) = some b
  exm : PySem.W.exmOne K (.ref C1) (.ref C2) = some b
theorem exS_mk {K : PySem.W.Frag} {C1 C2 : Addr} {b : Bool} (eB : PySem.W.subIn K (.ref C2) (.type "BaseException") = some true) (t : PySem.W.typeIn K (.ref C2) = some (.type "type")) (hc : PySem.W.isClsIn K C2 = true) (ss : PySem.W.subIn K (.ref C2) (.ref C2) = some true) (s : PySem.W.subIn K (.ref C1) (.ref C2) = some b) : ExS K C1 C2 b := by
  have hc' : (PySem.W.clsIn K C2).isSome = true := hc
  have k1 : PySem.W.kitCls K (.ref C1) (.ref C2) = some b := by
    unfold PySem.W.kitCls
    simp [hc', t, s]
  constructor
  · unfold PySem.W.kitOne
    split
    · rename_i e
      have e : C1 = C2 := Value.ref.inj (beq_iff_eq.mp e)
      rw [e, ss] at s
      exact s
    · exact k1
  · unfold PySem.W.exmOne
    simp [eB, k1]
section
variable {X : Cx} {a : Addr} {cls : Value} {d : Option Addr} {oe : Obj} {pn : List (Addr × Obj)}
/-- e.f of a caught error, its class told in the reading -/
theorem pe_xfA {e : Expr} {te : TE} {pos : Pos} {n : Str} (hz : Zc cls d oe) (hf : ∃ vs, oe.data = .fields vs) (he : PE (X.suite a ((a, oe) :: pn)) e te) (hb : attributeBase e n X.env (eval e X.env) = eval e X.env := by rfl) :
    PE (X.suite a ((a, oe) :: pn)) (.Attribute e n pos) (fun σ H Q => ∃ C, XfC X.K C ∧ PySem.W.findIn X.K (.ref C) n = some none ∧ tXf a cls d C n te σ H Q) :=
  ⟨fun pins s σ H Q I ⟨C, T, hno, h⟩ => (pe_xf T hno hz hf he hb).run pins s σ H Q I h⟩
end
section
variable {P : Program} {w : World} {K : PySem.W.Frag} {mg : Str → Option Value} {base : Heap}
/-- a def whose code object is known, and that errors may leave -/
theorem Fun.okXC {x qual : Str} {st : Stmt} {f c : Addr} {fd : FuncData} {N ps : List Str} {k : Nat} {sp : Sp} (F : Fun K x qual st f fd) (hc : fd.code = .ref c) (S : FnScope N ps (defScope st)) (len : ∀ vs H Q E, sp vs H Q E → vs.length = ps.length)
    (hbody : ∀ (A : Around) (outer : List Env) (s : Shared) (H : Hp) (vs : List V) (Q : VK) (E : XK), Room k (A.deeper (envOfC qual (defScope st) s.heap.objs.size f (.ref c))) → sp vs H Q E →
      ∃ t, PSs (cxOf (L2.CX P w) P w K mg base N qual (defScope st) f (.ref c) A outer s H E) (defBody st) t ∧ t { nx := fun _ H' => Q .non H', rt := Q } (start N vs) H) : FnOk P w K mg base (L2.CX P w) (k + 1) f fd ps sp := by
  obtain ⟨oc, od, kV, doc, pm, an, cdv, ct, osl, rfl, lk, hcd⟩ := F.ex
  have e : cdv = .ref c := hc
  subst e
  exact fn_of lk hcd S len fun A outer s H vs Q E hr hsp => hbody A outer s H vs Q E hr hsp
/-- a def that a slot may hold, and that errors may leave -/
structure HeldX (P : Program) (w : World) (K : PySem.W.Frag) (mg : Str → Option Value) (base : Heap) (k : Nat) (f : Addr) (sp : Sp) : Prop where
  ex : ∃ (fd : FuncData) (ps : List Str), FnOk P w K mg base (L2.CX P w) k f fd ps sp ∧ PySem.W.keepIn K (.ref f) = true ∧ L2.Binds K fd ps []
end
theorem pe_callRX {X : Cx} {E : XK} {k i : Nat} {x : Str} {p pos : Pos} {e : Expr} {es : List Expr} {t : TA} {S : Addr → Sp → Prop} (A : ∀ f sp, S f sp → HeldX X.prog X.w X.K X.mg X.base k f sp) (hr : Room k X.A) (hN : X.N[i]? = some x) (hv : Vis X.env.scope x) (hx : Passes (L2.CX X.prog X.w) X E) (ha : PA X (e :: es) t)
    (hdb : (x == ("__debug__" : Str)) = false := by decide) (hcd : (x == ("__classdict__" : Str)) = false := by decide)
    (he : starEach (e :: es) X.env = (false, eval e X.env) :: starEach es X.env := by rfl) (hpl : (backTo pos (starEach es X.env)).any (·.1) = false := by rfl) :
    PE X (.Call (.Name x p) (e :: es) [] pos) (fun σ H Q => ∃ f sp, σ[i]? = some (some (.ref f)) ∧ S f sp ∧ t σ H fun vs H1 => sp vs H1 Q E) := by
  refine ⟨fun pins s σ H Q I h => ?_⟩
  obtain ⟨f, sp, hs, hS, ht⟩ := h
  obtain ⟨fd, ps, F, hk, hb⟩ := (A f sp hS).ex
  refine (pe_callL (i := i) (f := f) (sp := sp) (dvs := []) (E := E) F hr hN hv hk hb .nil hx ha hdb hcd he hpl).run pins s σ H Q I ⟨hs, ?_⟩
  have e0 : (fun (vs : List V) (H1 : Hp) => sp (vs ++ []) H1 Q E) = fun vs H1 => sp vs H1 Q E := by
    funext vs H1
    rw [List.append_nil]
  show t σ H (fun vs H1 => sp (vs ++ []) H1 Q E)
  rw [e0]
  exact ht
/-- the lambda's captured names are the maker's -/
def freeB (sc scope : Scope) : Bool := scope.names.all fun y => !decide (y.2 = .free) || decide (sc.names.lookup y.1 = some .cell) || decide (sc.names.lookup y.1 = some .free)
theorem free_by {sc scope : Scope} (h : freeB sc scope = true) : ∀ y ∈ scope.names, y.2 = .free → sc.names.lookup y.1 = some .cell ∨ sc.names.lookup y.1 = some .free := fun y hy e => by
  unfold freeB at h
  have := List.all_eq_true.mp h y hy
  simp only [Bool.or_eq_true, Bool.not_eq_true', decide_eq_true_eq, decide_eq_false_iff_not] at this
  rcases this with (z | z) | z
  · exact absurd e z
  · exact .inl z
  · exact .inr z
end L2

/-! defs that are called where nothing is being shown: repr of lists and tuples -/
namespace L2
open PySem PySem.Spec PyProof.Rows
/-- a promise that is kept where no repr is under way -/
structure FnG (P : Program) (w : World) (K : PySem.W.Frag) (mg : Str → Option Value) (base : Heap) (CX : CXT) (k : Nat) (f : Addr) (fd : FuncData) (ps : List Str) (sp : Sp) : Prop where
  ln : ∀ vs H Q E, sp vs H Q E → vs.length = ps.length
  go : ∀ {A : Around} {outer : List Env} {s : Shared} {H : Hp} {ar : Args} {us : List Value} {vs : List V} {Q : VK} {E : XK}, A.guards = some [] → Room k A → Env0 P w K mg base A outer s H → BindsTo s fd ar (ps.zip us) → Vals vs us → sp vs H Q E →
    codeAny (model P w) A (.call (.ref f) ar) (CR CX outer P w H s Q E) s
theorem FnG.of {P : Program} {w : World} {K : PySem.W.Frag} {mg : Str → Option Value} {base : Heap} {CX : CXT} {k : Nat} {f : Addr} {fd : FuncData} {ps : List Str} {sp : Sp} (F : FnOk P w K mg base CX k f fd ps sp) : FnG P w K mg base CX k f fd ps sp :=
  ⟨F.len, fun _ r e b v h => F.run _ _ _ _ _ _ _ _ _ r e b v h⟩
section
variable {P : Program} {w : World} {K : PySem.W.Frag} {mg : Str → Option Value} {base : Heap} {CX : CXT} {k : Nat} {f : Addr} {N ps : List Str} {sp : Sp}
theorem fnG_body {x qual : Str} {dfs : Arguments} {bd : List Stmt} {sc : Scope} {dV kV doc pm cdv ct oc : Value} {an od : Option Addr} {osl : Array (Option Value)}
    (at_ : K.lookup f = some ⟨oc, od, .func (PySem.W.fnOf x qual dfs bd sc dV kV doc pm an cdv ct), osl⟩) (cd : PySem.W.codeIn K cdv qual = true) (S : FnScope N ps sc) (ln : ∀ vs H Q E, sp vs H Q E → vs.length = ps.length)
    (bdy : ∀ (A : Around) (outer : List Env) (s : Shared) (H : Hp) (vs : List V) (Q : VK) (E : XK), A.guards = some [] → Room k (A.deeper (envOfC qual sc s.heap.objs.size f cdv)) → sp vs H Q E →
      ∃ t, PSs (cxOf CX P w K mg base N qual sc f cdv A outer s H E) bd t ∧ t { nx := fun _ H' => Q .non H', rt := Q } (L2.start N vs) H) :
    FnG P w K mg base CX (k + 1) f (PySem.W.fnOf x qual dfs bd sc dV kV doc pm an cdv ct) ps sp := by
  refine ⟨ln, fun {A outer s H ar us vs Q E} gd room ev bt vv hs => ?_⟩
  have keepB : ∀ b o, base.get? b = some o → s.heap.get? b = some o := fun b o e => (ev.bs b o e).1
  have inK := ev.mod.kin.keeps keepB
  have free := ev.mod.nolimit.keeps keepB
  have kinds : ∀ y ∈ ps.zip us, sc.names.lookup y.1 = some .local ∨ (sc.names.lookup y.1 = some .cell ∧ ((cellsFrom (s.heap.objs.size + 1) sc.names []).lookup y.1).isSome = true) := by
    rintro ⟨n, v⟩ m
    exact (S.par n (List.of_mem_zip m).1).imp id fun q => ⟨q, PySem.W.cellsFrom_some _ _ _ (.inl q)⟩
  refine codeAny_call_function room.depth (inK _ _ at_) rfl S.co S.gen rfl (PySem.W.codeRec_of inK cd) (bt _ _ _ _ (wpAny_newFunctionEnv_cells S.kind kinds fun env ee s1 xx => ?_))
  cases ee
  refine ⟨free.keeps xx.toInCall.keep, codeAny_func ?_⟩
  obtain ⟨t, run, want⟩ := bdy A outer s H vs Q E gd (room.deeper _) hs
  have inv0 := inv_start (CX := CX) (E := E) S room.hd ev (ln _ _ _ _ hs) vv xx
  have done : ∀ {σ' : L2.St} {H' : Hp} {v : V} {u : Value} {s' : Shared}, Inv (cxOf CX P w K mg base N qual sc f cdv A outer s H E) [] σ' H' s' → L2.RelV v u → Q v H' → CE outer P w H s Q u s' := fun J rv q => ⟨_, _, J.os, J.bare, J.base, J.hok, rv, q⟩
  refine wpAny_mono (run.run [] s1 (L2.start N vs) H _ inv0 want) (fun fl s' res => ?_) fun _ _ z => z
  match fl, res with
  | .ret u, ⟨v, σ', H', J, rv, q⟩ => exact done J rv q
  | .next, ⟨σ', H', J, q⟩ => exact done (v := .non) (u := .none) J rfl q
  | .brk, ⟨_, _, _, q⟩ => exact q.elim
  | .cont, ⟨_, _, _, q⟩ => exact q.elim
theorem Fun.okG {x qual : Str} {st : Stmt} {fd : FuncData} (F : Fun K x qual st f fd) (S : FnScope N ps (defScope st)) (ln : ∀ vs H Q E, sp vs H Q E → vs.length = ps.length)
    (bdy : ∀ (cdv : Value) (A : Around) (outer : List Env) (s : Shared) (H : Hp) (vs : List V) (Q : VK) (E : XK), A.guards = some [] → Room k (A.deeper (envOfC qual (defScope st) s.heap.objs.size f cdv)) → sp vs H Q E →
      ∃ t, PSs (cxOf CX0 P w K mg base N qual (defScope st) f cdv A outer s H E).nox (defBody st) t ∧ t { nx := fun _ H' => Q .non H', rt := Q } (L2.start N vs) H) : FnG P w K mg base CX0 (k + 1) f fd ps sp := by
  obtain ⟨oc, od, kV, doc, pm, an, cdv, ct, osl, rfl, at_, cd⟩ := F.ex
  refine fnG_body at_ cd S ln fun A outer s H vs Q E gd room hs => ?_
  obtain ⟨t, h1, h2⟩ := bdy cdv A outer s H vs Q E gd room hs
  exact ⟨t, h1.nox, h2⟩
end
section
variable {X : Cx} {CX : CXT} {k : Nat} {f : Addr} {fd : FuncData} {ps : List Str} {sp : Sp} {E : XK} {dvs : List V} {ds : List Value}
theorem run_fnG {pins : List (Addr × Obj)} {σ : L2.St} {H : Hp} {s : Shared} {Q : VK} {us : List Value} {vs : List V} (F : FnG X.prog X.w X.K X.mg X.base CX k f fd ps sp) (gd : X.A.guards = some []) (room : Room k X.A) (bb : Binds X.K fd ps ds) (dd : Vals dvs ds)
    (px : Passes CX X E) (I : Inv X pins σ H s) (vv : Vals vs us) (hs : sp (vs ++ dvs) H Q E) : wpAny (model X.prog X.w) X.A (call (.ref f) us) (EP X pins σ Q) X.xe s := by
  have all := vv.append dd
  have same : (us ++ ds).length = ps.length := all.length.symm.trans (F.ln _ _ _ _ hs)
  refine wpAny_call (codeAny_mono (F.go (outer := X.stack) gd room I.env0 (bb s us I.kIn same) all hs) fun r s' res => ?_)
  match r, res with
  | .error e, res => exact px pins σ H s e s' I res
  | .ok (.ret u), res => exact I.after res
  | .ok .next, res => exact (show False from res).elim
  | .ok .brk, res => exact (show False from res).elim
  | .ok .cont, res => exact (show False from res).elim
theorem pe_callG {x : Str} {p pos : Pos} {e : Expr} {es : List Expr} {t : TA} (F : FnG X.prog X.w X.K X.mg X.base CX k f fd ps sp) (gd : X.A.guards = some []) (room : Room k X.A) (gl : Gl X x) (at_ : X.mg x = some (.ref f)) (kp : PySem.W.keepIn X.K (.ref f) = true)
    (bb : Binds X.K fd ps ds) (dd : Vals dvs ds) (px : Passes CX X E) (ha : PA X (e :: es) t) (nd : (x == ("__debug__" : Str)) = false := by decide) (h1 : starEach (e :: es) X.env = (false, eval e X.env) :: starEach es X.env := by rfl)
    (h2 : (backTo pos (starEach es X.env)).any (·.1) = false := by rfl) : PE X (.Call (.Name x p) (e :: es) [] pos) (tCall sp dvs E t) :=
  ⟨fun pins s σ H Q I h => wpAny_Call_Name_kw (ld_glob I gl at_ (PySem.W.callWith_K (h₀ := X.base) I.ok.mod.kin kp (thn (ha.run pos pins s σ H _ I h) fun us s1 ⟨vs, H1, I1, r, q⟩ => ⟨I1.kIn, run_fnG F gd room bb dd px I1 r q⟩) h1 h2) nd)⟩
/-- repr of an object that is data -/
def rReprD (K : PySem.W.Frag) : List V → Hp → VK → Prop := fun vs H Q => ∃ (p : Addr) (d : PyData), vs = [.ref p] ∧ Dp K H (.ref p) d ∧ d.showable = true ∧ d.hasDict = false ∧ d.depth ≤ 64 ∧ d.shown.length ≤ sizeLine ∧ Q (.str d.shown) H
theorem call_reprD (gd : X.A.guards = some []) (hu : X.A.units + 65 < cLine) : CallR X (.builtin "repr") (rReprD X.K) := by
  intro pins s σ H xs us Q I r h
  obtain ⟨p, d, rfl, hd, h1, h2, h3, h4, q⟩ := h
  obtain ⟨u, rfl, r1⟩ := vals1 r
  obtain ⟨as, rd⟩ := Dp.reads I d _ u hd r1
  cases r1
  refine repr_of_reads' rd h1 (fun z => by rw [h2] at z; cases z) gd (by omega) (fun _ _ e => e) (fun h' u tk keep => ⟨.str _, H, I.kept keep, ⟨_, rfl⟩, q⟩) h4
end
end L2
namespace L2
open PySem PySem.Spec PyProof.Rows
/-- the call of the law: the promise of a def that may show lists -/
theorem callG {P : Program} {w : World} {K : PySem.W.Frag} {mg mb : Str → Option Value} {CX : CXT} {k : Nat} {fa a : Addr} {fd : FuncData} {x : Str} {sp : Sp} {s1 : Shared} {us : List Value} {ns : List Int}
    (inK : K.In s1.heap) (top : s1.heap.Ns mainGlobals mg) (blt : s1.heap.Ns builtinsNs mb) (boot : ∀ y : Str, y ≠ "__name__" → mb y = bootBuiltins y) (free : s1.heap.NoLimit) (gen0 : s1.gens = #[])
    (scr : s1.heap.get? a = some { cls := .type "list", data := .seq us.toArray }) (isI : IntsAre us ns) (small : ns.length ≤ sizeLine) (room : Room k callerA)
    (F : ∀ base : Heap, K.In base → base.Ns mainGlobals mg → FnG P w K mg base CX k fa fd [x] sp) (bt : ∀ (s : Shared) (u : Value), BindsTo s fd ⟨[u], []⟩ [(x, u)])
    (want : ∀ H : Hp, Only H → SqL K H a (ns.map V.int) → sp [.ref a] H (fun v _ => v = .bl true) fun _ _ _ => False) (noX : ∀ H e s', CX [] H s1 (fun _ _ _ => False) e s' → False) :
    codeAny (model P w) callerA (.call (.ref fa) ⟨[.ref a], []⟩) (fun r s' => r = .ok (.ret (.bool true)) ∧ OldK s1.heap s'.heap ∧ s'.os = s1.os ∧ AllBare s'.gens) s1 := by
  have vv := vals_ints isI
  have lu := isI.length
  have main : ∀ H : Hp, Only H → SqL K H a (ns.map V.int) → HOk P w H s1.heap → (∀ b, H b ≠ none → b = a) → (H a ≠ none → K.lookup a = none) →
      codeAny (model P w) callerA (.call (.ref fa) ⟨[.ref a], []⟩) (fun r s' => r = .ok (.ret (.bool true)) ∧ OldK s1.heap s'.heap ∧ s'.os = s1.os ∧ AllBare s'.gens) s1 := by
    intro H only sq ok one out
    have hid : ∀ {b : Addr} {o : Obj}, s1.heap.get? b = some o → H b = none → (hidT s1.heap H).get? b = some o := fun e n => hidT_get e n
    have hidN : ∀ {b : Addr} {m : Str → Option Value}, s1.heap.Ns b m → (hidT s1.heap H).Ns b m := by
      rintro b m ⟨o, es, ep, e, d, r⟩
      refine ⟨o, es, ep, hid e ?_, d, r⟩
      match q : H b with
      | none => rfl
      | some u =>
        obtain rfl := one b (by rw [q]; exact Option.some_ne_none _)
        rw [scr] at e
        cases e
        exact absurd (show Data.seq us.toArray _ = Data.dict es ep from d) Data.noConfusion
    have kin : K.In (hidT s1.heap H) := fun b o e => hid (inK b o e) (by
      match q : H b with
      | none => rfl
      | some u =>
        obtain rfl := one b (by rw [q]; exact Option.some_ne_none _)
        rw [out (by rw [q]; exact Option.some_ne_none _)] at e
        cases e)
    obtain ⟨mc, f1, f2⟩ := free
    have ev : Env0 P w K mg (hidT s1.heap H) callerA [] s1 H := ⟨rfl, ⟨kin, hidN top, ⟨mb, hidN blt, boot⟩, ⟨mc, hidN f1, f2⟩⟩, fun b o e => of_hidT e, Nat.le_of_eq (hidT_size _ _), trivial, fun b hb => absurd (show b ∈ ([] : List Addr) from hb) List.not_mem_nil, ok, .of_eq gen0⟩
    refine codeAny_mono ((F _ kin (hidN top)).go (us := [.ref a]) (vs := [.ref a]) rfl room ev (bt s1 (.ref a)) (.cons rfl .nil) (want H only sq)) fun r s' res => ?_
    match r, res with
    | .error e, res => exact (noX H e s' res).elim
    | .ok .next, res => exact (show False from res).elim
    | .ok .brk, res => exact (show False from res).elim
    | .ok .cont, res => exact (show False from res).elim
    | .ok (.ret u), ⟨v, H', os, bare, un, ok', rv, q⟩ =>
      obtain rfl : v = .bl true := q
      obtain rfl : u = Value.bool true := rv
      refine ⟨rfl, OldK.of_keep fun b o e => ?_, os, bare⟩
      match q : H b with
      | none => exact un.keep b o e q (fun z => absurd (show b ∈ ([] : List Addr) from z) List.not_mem_nil) List.not_mem_nil
      | some u =>
        rcases only b with z | ⟨ob, xs, z⟩
        · rw [q] at z
          cases z
        · have e1 := (ok b _ z).1
          have e2 := (ok' b _ (un.frzs b ob _ z)).1
          rw [e] at e1
          cases e1
          exact e2
  match own : K.lookup a with
  | some o =>
    have e := inK a o own
    rw [scr] at e
    cases e
    exact main (fun _ => none) (fun _ => .inl rfl) (.inr ⟨_, us.toArray, _, own, rfl, rfl, rfl, by rw [List.size_toArray, lu]; exact small, by simpa using vv⟩) (fun b u z => nomatch (show (none : Option HO) = some u from z)) (fun b z => absurd rfl z) fun z => absurd rfl z
  | none =>
    refine main (fun b => if b = a then some (.frz { cls := .type "list", data := .seq us.toArray } (.lst (ns.map V.int))) else none) (fun b => ?_) (.inl (.inr ⟨{ cls := .type "list", data := .seq us.toArray }, if_pos rfl⟩)) (fun b u z => ?_) (fun b z => ?_) fun _ => own
    all_goals by_cases same : b = a
    · exact .inr ⟨_, _, if_pos same⟩
    · exact .inl (if_neg same)
    · have z2 := (if_pos same).symm.trans z
      cases z2
      subst same
      exact ⟨scr, by rw [List.length_map]; exact small, us, _, vv, scr⟩
    · have z2 := (if_neg same).symm.trans z
      cases z2
    · exact same
    · exact absurd (if_neg same) z
theorem walkG {l : PySem.W.OpenLaw} {n k : Nat} {q : Program} {loose : List Str} {XP : (Str → Option Value) → Heap → Prop} {YP : World → Heap → Prop} {d : DefRec} {K : Params → PySem.W.Frag} {CX : World → CXT} {sp : World → Sp} {x : Str}
    (most : l.most = some n) (small : n ≤ sizeLine) (nodef : d.params.defaults = []) (room : Room k callerA) (inK : ∀ (w : World) (h : Heap), YP w h → (K w.params).In h)
    (F : ∀ (w : World) (mg : Str → Option Value) (fa : Addr) (h : Heap), (K w.params).In h → h.Ns mainGlobals mg → mg d.name = some (.ref fa) → ∃ fd : FuncData, (∀ (s : Shared) (u : Value), BindsTo s fd ⟨[u], []⟩ [(x, u)]) ∧
      ∀ base : Heap, (K w.params).In base → base.Ns mainGlobals mg → FnG l.prog w (K w.params) mg base (CX w) k fa fd [x] (sp w))
    (want : ∀ (w : World) (H : Hp) (a : Addr) (ns : List Int), ns.length ≤ n → Only H → SqL (K w.params) H a (ns.map V.int) → sp w [.ref a] H (fun v _ => v = .bl true) fun _ _ _ => False)
    (noX : ∀ (w : World) (H : Hp) (s : Shared) (e : Value) (s' : Shared), CX w [] H s (fun _ _ _ => False) e s' → False) : PySem.W.WalkO q loose XP YP l.row.toRowW d [] (fun f vs => PySem.call f vs) := by
  refine Att.attach_call most nodef fun w s0 s1 mg mb fa o pm cd doc a vs ns G Y h1 h2 h3 at_ scr isI len gen0 => ?_
  obtain ⟨fd, bt, keep⟩ := F w mg fa _ (inK w _ Y) G.T.g at_
  exact callG (inK w _ Y) G.T.g G.T.b G.T.builtins G.T.nolimit gen0 scr isI (Nat.le_trans len small) room keep bt (fun H only sq => want w H a ns len only sq) fun H e s' => noX w H s1 e s'
end L2

/-! data in lists, what it shows -/
namespace L2
open PySem PySem.Spec PyProof.Rows
theorem dpAll_of {α : Type} {K : PySem.W.Frag} {H : Hp} (f : α → PyData) : ∀ {ts : List V} {as : List α}, ts.length = as.length → (∀ (i : Nat) (v : V) (a : α), ts[i]? = some v → as[i]? = some a → Dp K H v (f a)) → DpAll K H ts (as.map f)
  | [], [], _, _ => .nil
  | [], _ :: _, h, _ => by cases h
  | _ :: _, [], h, _ => by cases h
  | v :: ts, a :: as, hl, h => .cons (h 0 v a rfl rfl) (dpAll_of f (by simpa using hl) fun i v' a' h1 h2 => h (i + 1) v' a' h1 h2)
theorem canLay_of {α : Type} (f : α → PyData) (h : ∀ a, PyData.canLay0 (f a) = true) : ∀ (as : List α), PyData.canLayAll0 (as.map f) = true
  | [] => rfl
  | a :: as => by
    show (PyData.canLay0 (f a) && PyData.canLayAll0 (as.map f)) = true
    rw [h, canLay_of f h as]
    rfl
theorem depth_of {α : Type} (f : α → PyData) {n : Nat} (h : ∀ a, PyData.depth (f a) ≤ n) : ∀ (as : List α), PyData.depthAll (as.map f) ≤ n
  | [] => Nat.zero_le _
  | a :: as => Nat.max_le.mpr ⟨h a, depth_of f h as⟩
theorem shaped_of {d : PyData} (h1 : PyData.canLay0 d = true) (h2 : PyData.depth d ≤ 64) : SeqAt.shaped d = true := by
  unfold SeqAt.shaped
  exact Bool.and_eq_true_iff.mpr ⟨h1, decide_eq_true h2⟩
theorem eqv_same {d : PyData} (h : SeqAt.shaped d = true) : PyData.eqv d d = true := SeqAt.eqv_refl _ (SeqAt.canLay_of_shaped h)
/-! ints, shown -/
theorem showable_ints : ∀ (ns : List Int), (∀ n ∈ ns, n.natAbs.log2 < 1920) → PyData.showableAll (ns.map PyData.int) = true
  | [], _ => rfl
  | n :: ns, h => by
    show (decide (n.natAbs.log2 < 1920) && PyData.showableAll (ns.map PyData.int)) = true
    rw [decide_eq_true (h n (List.mem_cons_self ..)), showable_ints ns fun m hm => h m (List.mem_cons_of_mem _ hm)]
    rfl
theorem noDict_ints : ∀ (ns : List Int), PyData.hasDictAll (ns.map PyData.int) = false
  | [] => rfl
  | n :: ns => by
    show (false || PyData.hasDictAll (ns.map PyData.int)) = false
    rw [noDict_ints ns]
    rfl
theorem shown_ints_len : ∀ (ns : List Int), (∀ n ∈ ns, n.natAbs.log2 < 1920) → ((PyData.shownAll (ns.map PyData.int)).map (·.length)).sum ≤ 1921 * ns.length ∧ (PyData.shownAll (ns.map PyData.int)).length = ns.length
  | [], _ => ⟨Nat.le_refl _, rfl⟩
  | n :: ns, h => by
    obtain ⟨a1, a2⟩ := shown_ints_len ns fun m hm => h m (List.mem_cons_of_mem _ hm)
    have b : (PyData.shown (.int n)).length ≤ 1921 := int_text_len_1921 (h n (List.mem_cons_self ..))
    constructor
    · show (PyData.shown (.int n)).length + ((PyData.shownAll (ns.map PyData.int)).map (·.length)).sum ≤ 1921 * (ns.length + 1)
      omega
    · show (PyData.shownAll (ns.map PyData.int)).length + 1 = ns.length + 1
      rw [a2]
theorem show_ints {ns : List Int} (hl : ns.length ≤ 8000) (h : ∀ n ∈ ns, n.natAbs.log2 < 1920) : (PyData.list (ns.map PyData.int)).showable = true ∧ (PyData.list (ns.map PyData.int)).hasDict = false ∧ (PyData.list (ns.map PyData.int)).depth ≤ 64 ∧ (PyData.list (ns.map PyData.int)).shown.length ≤ sizeLine := by
  obtain ⟨a1, a2⟩ := shown_ints_len ns h
  refine ⟨showable_ints ns h, noDict_ints ns, ?_, ?_⟩
  · show PyData.depthAll (ns.map PyData.int) + 1 ≤ 64
    rw [depth_ints]
    decide
  · show (listText (PyData.shownAll (ns.map PyData.int))).length ≤ sizeLine
    refine Nat.le_trans (listText_len_le _) (Nat.le_trans ?_ (by decide : 15400003 ≤ sizeLine))
    rw [a2]
    omega
end L2

/-! pairs of a word and a value, in lists -/
namespace L2
open PySem PySem.Spec PyProof.Rows LamX
abbrev pdW (w : Str) (x : PyData) : PyData := .tuple [.str w, x]
/-- a value that is its own data -/
inductive Lone : V → PyData → Prop
  | non : Lone .non .none
  | bl (b : Bool) : Lone (.bl b) (.bool b)
  | int (i : Int) : Lone (.int i) (.int i)
  | str (x : Str) (h : PyData.canLay0 (.str x) = true) : Lone (.str x) (.str x)
theorem Lone.dp {K : PySem.W.Frag} {H : Hp} {v : V} {x : PyData} (h : Lone v x) : Dp K H v x := by
  cases h with
  | non => exact .non
  | bl b => exact .bl b
  | int i => exact .int i
  | str z _ => exact .str z
theorem Lone.canLay {v : V} {x : PyData} (h : Lone v x) : x.canLay0 = true := by
  cases h with
  | str z h => exact h
  | _ => rfl
theorem Lone.depth {v : V} {x : PyData} (h : Lone v x) : x.depth = 0 := by
  cases h <;> rfl
theorem dp_word {K : PySem.W.Frag} {H : Hp} {t : Addr} {w : Str} {v : V} {x : PyData} (h : H t = some (.tup [.str w, v])) (hv : Lone v x) : Dp K H (.ref t) (pdW w x) := .tup (L2.st_of h) (.cons (.str w) (.cons hv.dp .nil))
theorem dpAll_rep {K : PySem.W.Frag} {H : Hp} {d : PyData} : ∀ {rs : List V}, (∀ r ∈ rs, Dp K H r d) → DpAll K H rs (List.replicate rs.length d)
  | [], _ => .nil
  | r :: rs, h => .cons (h r List.mem_cons_self) (dpAll_rep fun z hz => h z (List.mem_cons_of_mem _ hz))
theorem dp_said {K : PySem.W.Frag} {H : Hp} {D : Addr} {rs : List V} {n : Nat} {w : Str} {v : V} {x : PyData} (hD : H D = some (.lst rs)) (hl : rs.length = n) (hr : ∀ r ∈ rs, ∃ t, r = .ref t ∧ H t = some (.tup [.str w, v])) (hv : Lone v x) : Dp K H (.ref D) (.list (List.replicate n (pdW w x))) := by
  subst hl
  exact .lst (L2.sq_of hD) (dpAll_rep fun r h => by
    obtain ⟨t, rfl, ht⟩ := hr r h
    exact dp_word ht hv)
theorem canLay_rep {d : PyData} (h : d.canLay0 = true) : ∀ n, PyData.canLayAll0 (List.replicate n d) = true
  | 0 => rfl
  | n + 1 => by
    show (d.canLay0 && PyData.canLayAll0 (List.replicate n d)) = true
    rw [h, canLay_rep h n]
    rfl
theorem depth_rep {d : PyData} {m : Nat} (h : d.depth ≤ m) : ∀ n, PyData.depthAll (List.replicate n d) ≤ m
  | 0 => Nat.zero_le _
  | n + 1 => Nat.max_le.mpr ⟨h, depth_rep h n⟩
theorem canLay_word {w : Str} {v : V} {x : PyData} (hw : PyData.canLay0 (.str w) = true) (hv : Lone v x) : (pdW w x).canLay0 = true := by
  show (PyData.canLay0 (.str w) && (PyData.canLay0 x && true)) = true
  rw [hw, hv.canLay]
  rfl
theorem depth_word {w : Str} {v : V} {x : PyData} (hv : Lone v x) : (pdW w x).depth ≤ 2 := by
  show max 0 (max x.depth 0) + 1 ≤ 2
  rw [hv.depth]
  decide
theorem shaped_word {w : Str} {v : V} {x : PyData} (hw : PyData.canLay0 (.str w) = true) (hv : Lone v x) : SeqAt.shaped (pdW w x) = true := shaped_of (canLay_word hw hv) (Nat.le_trans (depth_word hv) (by decide))
theorem shaped_said {w : Str} {v : V} {x : PyData} (hw : PyData.canLay0 (.str w) = true) (hv : Lone v x) (n : Nat) : SeqAt.shaped (.list (List.replicate n (pdW w x))) = true := by
  refine shaped_of (canLay_rep (canLay_word hw hv) n) ?_
  have := depth_rep (d := pdW w x) (m := 2) (depth_word hv) n
  show PyData.depthAll _ + 1 ≤ 64
  omega
theorem flat_one {v : V} : ∀ n : Nat, (List.replicate n [v]).flatten = List.replicate n v
  | 0 => rfl
  | n + 1 => by
    rw [List.replicate_succ, List.flatten_cons, flat_one n]
    rfl
/-- the other side: n times one pair -/
theorem dp_saidR {K : PySem.W.Frag} {H : Hp} {D t : Addr} {n : Nat} {w : Str} {v : V} {x : PyData} (hD : H D = some (.lst (List.replicate n [V.ref t]).flatten)) (ht : H t = some (.tup [.str w, v])) (hv : Lone v x) : Dp K H (.ref D) (.list (List.replicate n (pdW w x))) := by
  rw [flat_one] at hD
  exact dp_said hD List.length_replicate (fun r hr => ⟨t, List.eq_of_mem_replicate hr, ht⟩) hv
theorem ne_said {w : Str} {v : V} {x : PyData} (hw : PyData.canLay0 (.str w) = true) (hv : Lone v x) (n : Nat) : V.bl (!PyData.eqv (.list (List.replicate n (pdW w x))) (.list (List.replicate n (pdW w x)))) = V.bl false := by
  rw [eqv_same (shaped_said hw hv n)]
  rfl
theorem ne_word {w : Str} {v : V} {x : PyData} (hw : PyData.canLay0 (.str w) = true) (hv : Lone v x) : V.bl (!PyData.eqv (pdW w x) (pdW w x)) = V.bl false := by
  rw [eqv_same (shaped_word hw hv)]
  rfl
end L2
namespace L2
open PySem PySem.Spec PyProof.Rows LamX
theorem take_int {ns : List Int} {at_ j : Nat} {odd : V} {rest : List V} {y : V} (ha : at_ ≤ ns.length) (hj : j < at_) (hy : ((ns.map V.int).take at_ ++ odd :: rest)[j]? = some y) : ∃ z, y = .int z := by
  rw [List.getElem?_append_left (by rw [List.length_take, List.length_map]; omega), List.getElem?_take_of_lt hj, List.getElem?_map] at hy
  cases e : ns[j]? with
  | none => rw [e] at hy; cases hy
  | some z => rw [e] at hy; exact ⟨z, (Option.some.inj hy).symm⟩
/-- one thing put in that is no whole number -/
theorem keys_put {H : Hp} {p : Addr} {ns : List Int} {at_ : Nat} {odd : V} {To : String} {rest xs : List V} {lo hi : Int} (h : RowAt H p xs) (e : xs = (ns.map V.int).take at_ ++ odd :: rest) (ha : at_ ≤ ns.length) (h0 : lo ≤ 0) (hl : ((at_ + rest.length + 1 : Nat) : Int) ≤ hi) (ho : AnyV H odd To) (hi_ : isI odd = false) : KeysQ H (.ref p) lo hi (some (at_ : Int)) := by
  subst e
  have lt : ((ns.map V.int).take at_).length = at_ := by rw [List.length_take, List.length_map]; omega
  refine .item rfl h ?_ (x := odd) ?_ ⟨To, ho, hi_.symm⟩ fun j y hj hy => ?_
  · rw [List.length_append, lt, List.length_cons]
    omega
  · rw [List.getElem?_append_right (by omega), lt, Nat.sub_self]
    rfl
  · obtain ⟨z, rfl⟩ := take_int ha hj hy
    exact ⟨_, .int z, rfl⟩
theorem keys_rep {H : Hp} {p : Addr} {k : Nat} {i : Int} (h : RowAt H p (List.replicate k (V.int i))) (hk : 2000 < k) : KeysQ H (.ref p) 0 2000 (some (-1)) := .len rfl h (by rw [List.length_replicate]; omega)
end L2
namespace L2
open PySem PySem.Spec PyProof.Rows LamX
/-- which error a call lets out, by its class, field and word -/
def EErr (L : List (Addr × Str × Str)) (Q : VK) : XK := fun cls d H' => ∃ dx C f w v, d = some dx ∧ (C, f, w) ∈ L ∧ cls = .ref C ∧ H' dx = some (.xd [(f, v)]) ∧ ∀ t H'', Same H' H'' → H'' t = some (.tup [.str w, v]) → Q (.ref t) H''
theorem eErr {L : List (Addr × Str × Str)} {Q : VK} {C : Addr} {f w : Str} {v : V} {H : Hp} (h : (C, f, w) ∈ L) (q : ∀ t H', Same H H' → H' t = some (.tup [.str w, v]) → Q (.ref t) H') : Rz (EErr L Q) H C f v := fun dx H' s _ e => ⟨dx, C, f, w, v, rfl, h, rfl, e, fun t H'' s2 ht => q t H'' (s.trans s2) ht⟩
/-- .. and what is told if none comes -/
def TTerr (L : List (Addr × Str × Str)) (end_ : V) : (XK → Hp → VK → Prop) → Hp → VK → Prop := fun tl H Q => tl (EErr L Q) H fun _ H' => Q end_ H'
/-- an answer, or none -/
def okBool (H : Hp) (v : V) (b : Bool) : Prop := ∃ T, AnyV H v T ∧ b = decide (T = "bool")
theorem okBool.ext {H H' : Hp} {v : V} {b : Bool} (e : ExtN H H') (h : okBool H v b) : okBool H' v b := h.imp fun _ h => ⟨h.1.ext e, h.2⟩
abbrev AnsQ := RowQ okBool
theorem ansExt {H H' : Hp} {v : V} {lo hi : Int} {r : Option Int} (e : ExtN H H') (h : AnsQ H v lo hi r) : AnsQ H' v lo hi r := RowQ.ext (ok := okBool) (fun {H1 H2 v b} e h => okBool.ext (H := H1) (H' := H2) (v := v) (b := b) e h) e h
theorem AnyV.kitBool {K : PySem.W.Frag} {H : Hp} {v : V} {T : String} (h : AnyV H v T) : PySem.W.kitOne K (.type T) (.type "bool") = some (decide (T = "bool")) := by
  cases h <;> exact kit_ty (by decide +kernel)
end L2

/-! lambdas that stand in lists, called one by one in a comprehension of the def that made them -/
namespace L2
open PySem PySem.Spec PyProof.Rows PySem.W LamX
/-- at f stands a lambda of X's text: t is what its body does -/
def LamRun (X : Cx) (k : Nat) (t : XK → TE) (f : Addr) (H : Hp) : Prop := ∃ params body scope, LamAt H f (lamD X params body scope) ∧ LamGood X k params body scope t
theorem LamRun.ext {X : Cx} {k : Nat} {t : XK → TE} {f : Addr} {H H' : Hp} (e : ExtN H H') (h : LamRun X k t f H) : LamRun X k t f H' := by
  obtain ⟨a, b, c, h1, h2⟩ := h
  exact ⟨a, b, c, h1.ext e, h2⟩
def tLamR (X : Cx) (k : Nat) (T : List (Addr × Str)) (t : XK → TE) : TE := fun σ H Q => Tabs T H ∧ ∀ (H1 : Hp) (f : Addr), ExtN H H1 → Tabs T H1 → LamRun X k t f H1 → Q (.ref f) H1
section
variable {X : Cx}
theorem pe_lamR {k : Nat} {T : List (Addr × Str)} {c P : Addr} {params : Arguments} {body : Expr} {scope : Scope} {pos : Pos} {t : XK → TE} (TB : TabB X.base X.mg c P) (hcode : X.env.code = .ref c) (hmT : (P, X.env.qual ++ "<lambda>") ∈ T) (hu : ∀ p ∈ T, p.1 = P → p.2 = X.env.qual ++ "<lambda>")
    (hfree : ∀ y ∈ scope.names, y.2 = .free → X.env.scope.names.lookup y.1 = some .cell ∨ X.env.scope.names.lookup y.1 = some .free)
    (hk0 : params.kw_defaults = []) (hdef : params.defaults = [] ∨ ∃ j pc, params.defaults = [.Constant (.int 0) j pc]) (LG : LamGood X k params body scope t) : PE X (.Lambda params body scope pos) (tLamR X k T t) :=
  ⟨fun pins s σ H Q I h => (pe_lamO TB hcode hmT hu hfree hk0 hdef).run pins s σ H Q I ⟨h.1, fun H1 f e1 T1 _ hL => h.2 H1 f e1 T1 ⟨_, _, _, hL, LG⟩⟩⟩
/-- x(e), e a kept lambda of this def -/
theorem pe_callLamR {TT : (XK → Hp → VK → Prop) → Hp → VK → Prop} {x a : Str} {st : Stmt} {g : Addr} {k : Nat} {fd : FuncData} {Ng : List Str} {e : Expr} {te : TE} {p pos : Pos}
    (F : Fun X.K x x st g fd) (hg : Gl X x) (hm : X.mg x = some (.ref g)) (hk : PySem.W.keepIn X.K (.ref g) = true) (hb : L2.Binds X.K fd [a] []) (Sg : FnScope Ng [a] (defScope st)) (hNg : Ng[0]? = some a) (hva : Vis (defScope st) a)
    (hG : GivesTo1 X.prog X.w X.K X.mg X.base (k + 1) Ng x (defScope st) g (defBody st) a TT) (hr : Room (k + 2) X.A) (he : PE X e te)
    (hst : starEach [e] X.env = (false, eval e X.env) :: starEach [] X.env := by rfl) (hpl : (backTo pos (starEach [] X.env)).any (·.1) = false := by rfl)
    (hdb : (x == ("__debug__" : Str)) = false := by decide) (hd : (a == ("__debug__" : Str)) = false := by decide) (hcd : (a == ("__classdict__" : Str)) = false := by decide) :
    PE X (.Call (.Name x p) [e] [] pos) (fun σ H Q => te σ H fun v H1 => ∃ f t, v = .ref f ∧ LamRun X k t f H1 ∧ TT (fun E H' Q' => t E σ H' Q') H1 Q) := by
  refine ⟨fun pins s σ H Q I h => ?_⟩
  refine wpAny_Call_Name_kw (ld_glob I hg hm ?_ hdb)
  refine PySem.W.callWith_K (h₀ := X.base) I.ok.mod.kin hk ?_ hst hpl
  refine thn ((pa_cons he pa_nil hst).run pos pins s σ H (fun vs H1 => match vs with | [v] => ∃ f t, v = .ref f ∧ LamRun X k t f H1 ∧ TT (fun E H' Q' => t E σ H' Q') H1 Q | _ => False) I h) fun us s1 ⟨vs, H1, I1, r, q⟩ => ?_
  match vs, q, r with
  | [v], q, r =>
  obtain ⟨f, t, rfl, ⟨params, body, scope, hL, LG⟩, q⟩ := q
  obtain rfl := Vals.ref1 r
  refine ⟨I1.kIn, wpAny_call (codeAny_mono (run_lamO F hb Sg hNg hva hG LG hr I1 hL q hd hcd) fun r s2 hq => ?_)⟩
  cases r with
  | error e => exact (show False from hq).elim
  | ok fl =>
    cases fl with
    | ret u => exact I1.after hq
    | next => exact False.elim hq
    | brk => exact False.elim hq
    | cont => exact False.elim hq
/-- what a block's turns know: the def that waits, and the walk's own objects -/
structure Held0 (X : Cx) (pins : List (Addr × Obj)) (σ : L2.St) (H : Hp) (s : Shared) (fp : List Addr) : Prop where
  inv : Inv X pins σ H s
  fps : ∀ b ∈ fp, FpOk X pins H b ∧ b < s.heap.objs.size
theorem Held0.back {pins : List (Addr × Obj)} {σ : L2.St} {H H' : Hp} {s s' : Shared} {fp : List Addr} {scope : Scope} {ce : Env} {pins' : List (Addr × Obj)} {σ' : L2.St} (B : Held0 X pins σ H s fp) (I : Inv (X.blk s H scope ce fp) pins' σ' H' s') : Inv X pins σ H' s' :=
  B.inv.call' (ch := fp) I.os I.base I.hok I.bare fun b hb => ⟨(B.fps b hb).1.2.2.2.1, (B.fps b hb).1.2.1, (B.fps b hb).1.2.2.2.2.1, (B.fps b hb).1.2.2.2.2.2⟩
/-- .. in a comprehension's block -/
abbrev tLamB (X : Cx) (k : Nat) (TT : (XK → Hp → VK → Prop) → Hp → VK → Prop) (σ : L2.St) (te : TE) : TE := fun σB HB Q => te σB HB fun v H1 => ∃ f t, v = .ref f ∧ LamRun X k t f H1 ∧ TT (fun E H' Q' => t E σ H' Q') H1 Q
theorem pe_callLamB {TT : (XK → Hp → VK → Prop) → Hp → VK → Prop} {x a : Str} {st : Stmt} {g : Addr} {k : Nat} {fd : FuncData} {Ng : List Str} {e : Expr} {te : TE} {p pos : Pos} {pins : List (Addr × Obj)} {σ : L2.St} {H : Hp} {s : Shared} {fp : List Addr} {scope : Scope} {ce : Env}
    (B : Held0 X pins σ H s fp) (F : Fun X.K x x st g fd) (hg : Gl (X.blk s H scope ce fp) x) (hm : X.mg x = some (.ref g)) (hk : PySem.W.keepIn X.K (.ref g) = true) (hb : L2.Binds X.K fd [a] []) (Sg : FnScope Ng [a] (defScope st)) (hNg : Ng[0]? = some a) (hva : Vis (defScope st) a)
    (hG : GivesTo1 X.prog X.w X.K X.mg X.base (k + 1) Ng x (defScope st) g (defBody st) a TT) (hr : Room (k + 2) X.A) (he : PE (X.blk s H scope ce fp) e te)
    (hst : starEach [e] ce = (false, eval e ce) :: starEach [] ce := by rfl) (hpl : (backTo pos (starEach [] ce)).any (·.1) = false := by rfl)
    (hdb : (x == ("__debug__" : Str)) = false := by decide) (hd : (a == ("__debug__" : Str)) = false := by decide) (hcd : (a == ("__classdict__" : Str)) = false := by decide) :
    PE (X.blk s H scope ce fp) (.Call (.Name x p) [e] [] pos) (tLamB X k TT σ te) := by
  refine ⟨fun pinsB sB σB HB Q IB h => ?_⟩
  refine wpAny_Call_Name_kw (ld_glob IB hg hm ?_ hdb)
  refine PySem.W.callWith_K (h₀ := X.base) IB.ok.mod.kin hk ?_ hst hpl
  refine thn ((pa_cons he pa_nil hst).run pos pinsB sB σB HB (fun vs H1 => match vs with | [v] => ∃ f t, v = .ref f ∧ LamRun X k t f H1 ∧ TT (fun E H' Q' => t E σ H' Q') H1 Q | _ => False) IB h) fun us s1 ⟨vs, H1, I1, r, q⟩ => ?_
  match vs, q, r with
  | [v], q, r =>
  obtain ⟨f, t, rfl, ⟨params, body, scope, hL, LG⟩, q⟩ := q
  obtain rfl := Vals.ref1 r
  have rc := run_lamO (X := X) F hb Sg hNg hva hG LG hr (B.back I1) hL q hd hcd
  refine ⟨I1.kIn, wpAny_call (codeAny_mono rc fun r s2 hq => ?_)⟩
  cases r with
  | error e => exact (show False from hq).elim
  | ok fl =>
    cases fl with
    | ret u => exact I1.after hq
    | next => exact False.elim hq
    | brk => exact False.elim hq
    | cont => exact False.elim hq
end
section
variable {X : Cx}
/-- a comprehension whose turns know the def that waits -/
theorem pe_lcH {elt tg iter : Expr} {scope : Scope} {own : List (Str × Nat)} {pos : Pos} {wi : TI} {g : TG} {te : L2.St → TE} (hc : X.calm = true) (hN : X.N.Nodup) (hi : PI X tg iter wi) (ok : BlkOk X.N X.env.scope scope own)
    (hg : ∀ (s : Shared) (H : Hp) (C : Addr) (cl : List (Str × Addr)) (fp : List Addr), PG (X.blk s H scope (compEnvC scope cl C X.env) fp) tg g)
    (he : ∀ (pins : List (Addr × Obj)) (σ : L2.St) (s : Shared) (H : Hp) (C : Addr) (cl : List (Str × Addr)) (fp : List Addr), Held0 X pins σ H s fp → PE (X.blk s H scope (compEnvC scope cl C X.env) fp) elt (te σ)) (hs : ∀ x, foldedSetIterable iter X.env x = pure x := by intro _; rfl) :
    PE X (.ListComp elt [⟨tg, iter, [], 0⟩] scope pos) (fun σ H Q => tLc wi g tYes (te σ) (own.map (·.2)) σ H Q) := by
  constructor
  intro pins s σ H Q I h
  have cells : ∀ y ∈ scope.names, y.2 = .free → ∃ c, X.env.cells.lookup y.1 = some c := fun y hy e => (ok.free y hy e).elim (fun k => I.ok.has _ (.inl k)) fun k => I.ok.has _ (.inr k)
  rw [eval_ListComp]
  refine wpAny_comprehension_free (use := none) rfl hs (closure_ok cells) ok.kind (fun y hy e => (ok.uniq y hy).trans (by rw [e])) (thn (hi.run pins s σ H _ I h) fun _ _ hx => thn hx fun _ s2 h2 => ?_)
  obtain ⟨it, fp, tn, J, H2, rfl, I2, T, st2, f2, q⟩ := h2
  refine wpAny_newObj_type (newEnv_comp ?_) (by show 0 ≤ sizeLine; decide)
  have nD : H2 s2.heap.objs.size = none := I2.hok.fresh (Nat.le_refl _)
  obtain ⟨W, ⟨m0, w0⟩, turn⟩ := q _ nD
  have I3 := I2.laid (t' := s2.toks) (h' := s2.heap.push { cls := .type "list", data := .seq ([] : List Value).toArray }) (a := s2.heap.objs.size) (o := .lst []) (fun b o e => Heap.get?_push_of_some _ e) (Nat.le_refl _) ⟨Nat.zero_le _, [], 0, .nil, Heap.get?_push_size _ rfl⟩
  have B3 : ∀ b ∈ fp, FpOk X pins (upd H2 s2.heap.objs.size (.lst [])) b ∧ b < (s2.heap.push { cls := .type "list", data := .seq ([] : List Value).toArray }).objs.size := fun b hb => by
    obtain ⟨o, e, _⟩ := T.obj _ _ st2 b hb
    have l := Heap.lt_size e
    exact ⟨⟨(upd_ne (Nat.ne_of_lt l)).trans (f2 b hb).1, (f2 b hb).2⟩, by rw [Heap.size_push]; exact Nat.lt_succ_of_lt l⟩
  have t3 : tn 0 (s2.heap.push { cls := .type "list", data := .seq ([] : List Value).toArray }) := T.keep _ _ _ st2 fun b _ o e => Heap.get?_push_of_some _ e
  generalize hs3 : ({ s2 with heap := s2.heap.push { cls := .type "list", data := .seq ([] : List Value).toArray } } : Shared) = s3 at I3
  have e3 : s3.heap = s2.heap.push { cls := .type "list", data := .seq ([] : List Value).toArray } := by rw [← hs3]
  rw [← e3] at B3 t3
  generalize hDD : s2.heap.objs.size = D at nD w0 turn I3 B3 ⊢
  generalize hH3 : upd H2 D (.lst []) = H3 at I3 B3 w0
  have HB : Held0 X pins σ H3 s3 fp := ⟨I3, B3⟩
  have I4 := block_start I3 ok hN B3
  have pg := hg s3 H3 s3.heap.objs.size (cellsFrom (s3.heap.objs.size + 1) scope.names (cloFrom X.env.cells scope.names [])) fp
  have pe := he pins σ s3 H3 s3.heap.objs.size (cellsFrom (s3.heap.objs.size + 1) scope.names (cloFrom X.env.cells scope.names [])) fp HB
  show codeAny _ _ (.compStart (.ListComp elt [⟨tg, iter, [], 0⟩] scope pos) 0 (.ref it) (.ref D) (compEnvC scope (cellsFrom (s3.heap.objs.size + 1) scope.names (cloFrom X.env.cells scope.names [])) s3.heap.objs.size X.env)) (compPost (model X.prog X.w) X.A X.xe none _ (.ref D) s3.heap.objs.size) { s3 with heap := pushCells (s3.heap.push { cls := .type "dict", data := .dict #[] }) scope.names }
  generalize hce : compEnvC scope (cellsFrom (s3.heap.objs.size + 1) scope.names (cloFrom X.env.cells scope.names [])) s3.heap.objs.size X.env = ce at I4 pg pe ⊢
  have cL : ce.locals = s3.heap.objs.size := by rw [← hce]; rfl
  have t4 : tn 0 (pushCells (s3.heap.push { cls := .type "dict", data := .dict #[] }) scope.names) := T.keep _ _ _ t3 fun b _ o e => pushCells_keeps _ _ _ _ (Heap.get?_push_of_some _ e)
  generalize hs4 : ({ s3 with heap := pushCells (s3.heap.push { cls := .type "dict", data := .dict #[] }) scope.names } : Shared) = s4 at I4 ⊢
  have t4 : tn 0 s4.heap := by rw [← hs4]; exact t4
  have stay : ∀ {σ' : L2.St} {H' : Hp} {s' : Shared}, Inv (X.blk s3 H3 scope ce fp) [] σ' H' s' → (∀ b ∈ fp, H' b = none) → ∀ b ∈ fp, FpOk (X.blk s3 H3 scope ce fp) [] H' b := fun {σ' H' s'} I' hn b hb =>
    ⟨hn b hb, (I'.ok.exf b hb).1, I'.ok.exfs b hb, .inl hb, fun x c e => (I'.ok.exf b hb).2 x c e, fun p hp => absurd (show p ∈ ([] : List (Addr × Obj)) ++ [] from hp) (by simp)⟩
  have go : codeAny (model X.prog X.w) X.A (.compLoop (.ListComp elt [⟨tg, iter, [], 0⟩] scope pos) 0 (.ref it) (.ref D) ce) (compPost (model X.prog X.w) X.A X.xe none (EP X pins σ Q) (.ref D) s3.heap.objs.size) s4 := by
    refine compLoop_any (fun n s' => ∃ i H', Inv (X.blk s3 H3 scope ce fp) [] (wipe σ (own.map (·.2))) H' s' ∧ tn i s'.heap ∧ (∀ b ∈ fp, H' b = none) ∧ W i n H') (fun n s5 => ?_) m0 ⟨0, H3, I4, t4, fun b hb => (B3 b hb).1.1, w0⟩
    rintro ⟨i, H5, I5, t5, n5, w5⟩
    rcases turn i n H5 w5 with ⟨stop, done⟩ | ⟨go, Nx, hNx, step⟩
    · refine thnF (T.done (X.blk s3 H3 scope ce fp) rfl rfl rfl hc i [] s5 _ H5 (fun _ _ => False) I5 (stay I5 n5) t5 stop) fun r s6 ⟨hr, I6⟩ => ?_
      subst hr
      have I7 := HB.back I6
      have nC : H5 s3.heap.objs.size = none := cL ▸ (show H5 ce.locals = none from I6.free)
      obtain ⟨m, hn, _⟩ := I6.loc
      have hn : s6.heap.Ns ce.locals m := hn
      rw [cL] at hn
      obtain ⟨k0, k1, k2, k3, k4, k5⟩ := I3.fpOk (Nat.le_refl _) nC
      exact ⟨m, hn, fun h' sb => ⟨.ref D, H5, I7.turned (t' := s6.toks) (fun b o hb e => (sb.2 b hb).trans e) k0 k1 k3 k4 k5, rfl, done⟩⟩
    · refine thnF (T.item (X.blk s3 H3 scope ce fp) rfl rfl rfl hc i [] s5 _ H5 (fun _ _ => False) I5 (stay I5 n5) t5 go) fun r s6 ⟨u, hr, h6⟩ => ?_
      subst hr
      refine thnF h6 fun _ s7 ⟨x, H7, I7, r7, y7, t7, n7⟩ => ?_
      refine thnF (pg.run _ s7 _ H7 x u _ (I7.pinned (stay I7 n7) (T.obj _ _ t7)) r7 (step x H7 y7)) fun _ s8 ⟨σ8, H8, I8, hw8, q8⟩ => ?_
      refine thnF ((pts_nil (X := X.blk s3 H3 scope ce fp)).run _ s8 σ8 H8 _ I8 q8) fun b s9 ⟨H9, I9, q9⟩ => ?_
      have fin : ∀ {s' : Shared} {H' : Hp}, Inv (X.blk s3 H3 scope ce fp) ([] ++ pinsAt fp s7.heap) σ8 H' s' → Nx H' → ∃ m, m < n ∧ ∃ i H', Inv (X.blk s3 H3 scope ce fp) [] (wipe σ (own.map (·.2))) H' s' ∧ tn i s'.heap ∧ (∀ b ∈ fp, H' b = none) ∧ W i m H' := fun {s' H'} I' nx => by
        obtain ⟨m', hm, w'⟩ := hNx H' nx
        have pin : ∀ b ∈ fp, ∀ o, s7.heap.get? b = some o → s'.heap.get? b = some o ∧ H' b = none := fun b hb o e => ⟨(I'.pin (b, o) (List.mem_append_right _ (List.mem_append_right _ (mem_pinsAt hb e)))).1, (I'.pin (b, o) (List.mem_append_right _ (List.mem_append_right _ (mem_pinsAt hb e)))).2.1⟩
        refine ⟨m', hm, i + 1, H', (I'.unpinned (pins := [])).weak ?_ (fun j v e => ?_), T.keep _ _ _ t7 fun b hb o e => (pin b hb o e).1, fun b hb => ?_, w'⟩
        · rw [← hw8, wipe_length]
        · rw [← hw8] at e
          exact (wipe_some e).1
        · obtain ⟨o, e, _⟩ := T.obj _ _ t7 b hb
          exact (pin b hb o e).2
      cases b with
      | false =>
        simp only [Bool.false_eq_true, if_false] at q9 ⊢
        exact fin I9 q9
      | true =>
        simp only [if_true] at q9 ⊢
        refine thnF (pe.run _ s9 σ8 H9 _ I9 q9) fun z s10 ⟨yv, H10, I10, r10, acc, hD10, hz10, nx⟩ => ?_
        exact app_ok (X := X.blk s3 H3 scope ce fp) I10 hD10 hz10 r10 fun s11 I11 => fin I11 nx
  exact codeAny_compStart_list go (T.self X.A 0 _ _ _ t4 go)
end
end L2
namespace L2
open PySem PySem.Spec PyProof.Rows PySem.W LamX
theorem tabsPut {TT : List (Addr × Str)} {H : Hp} {D : Addr} {xs : List V} {o : HO} (t : Tabs TT H) (hs : H D = some (.lst xs)) : Tabs TT (upd H D o) := fun p hp => by
  obtain ⟨ps, h1, h2, h3⟩ := t p hp
  refine ⟨ps, ?_, h2, fun pos cv hc => ?_⟩
  · rw [upd_ne (fun e => by rw [e, hs] at h1; cases h1)]
    exact h1
  · obtain ⟨c, e1, e2⟩ := h3 pos cv hc
    refine ⟨c, e1, ?_⟩
    rw [upd_ne (fun e => ?_)]
    · exact e2
    · rw [e, hs] at e2
      have e3 := Option.some.inj e2
      unfold LamX.CodeO at e3
      cases e3
theorem LamRun.put {X : Cx} {k : Nat} {t : XK → TE} {f : Addr} {H : Hp} {D : Addr} {xs : List V} {o : HO} (h : LamRun X k t f H) (h4 : H D = some (.lst xs)) : LamRun X k t f (upd H D o) := by
  obtain ⟨p1, p2, p3, ⟨c', dV, z1, z2, z3⟩, z4⟩ := h
  have nf : ∀ {b : Addr} {q : HO}, H b = some q → (∀ xs, q ≠ .lst xs) → upd H D o b = some q := fun {b q} h n => by
    rw [upd_ne (fun q => by rw [q, h4] at h; exact n _ (Option.some.inj h).symm)]
    exact h
  exact ⟨p1, p2, p3, ⟨c', dV, nf z1 (fun xs y => by unfold FunO at y; cases y), nf z2 (fun xs y => by unfold LamX.CodeO at y; cases y), z3.imp id fun ⟨n, t0, y1, y2⟩ => ⟨n, t0, y1, nf y2 fun xs y => by cases y⟩⟩, z4⟩
/-- what calls have told so far, one by one -/
def SaidInv (T : List (Addr × Str)) (H5 : Hp) (D : Addr) (w : Str) (v : V) (i : Nat) (H' : Hp) : Prop := ExtN H5 H' ∧ Tabs T H' ∧ ∃ ts : List V, H' D = some (.lst ts) ∧ ts.length = i ∧ ∀ r ∈ ts, ∃ t, r = .ref t ∧ H' t = some (.tup [.str w, v])
theorem SaidInv.init {T : List (Addr × Str)} {H5 : Hp} {D : Addr} {w : Str} {v : V} (hD : H5 D = none) (T5 : Tabs T H5) : SaidInv T H5 D w v 0 (upd H5 D (.lst [])) := ⟨.of (same_upd hD), T5.ext (same_upd hD), [], upd_same, rfl, fun r h => by cases h⟩
theorem SaidInv.next {T : List (Addr × Str)} {H5 H' H'' : Hp} {D t : Addr} {w : Str} {v : V} {i : Nat} (h5 : H5 D = none) (I : SaidInv T H5 D w v i H') (e : ExtN H' H'') (T2 : Tabs T H'') (ht : H'' t = some (.tup [.str w, v])) (hi : i < 1000) : ∃ acc, H'' D = some (.lst acc) ∧ acc.length < sizeLine ∧ SaidInv T H5 D w v (i + 1) (upd H'' D (.lst (acc ++ [.ref t]))) := by
  obtain ⟨e1, _, ts, hD, lt, hts⟩ := I
  have hD2 := e _ _ hD fun ps z => by cases z
  have nD : ∀ {z : Addr}, H'' z = some (.tup [.str w, v]) → z ≠ D := fun h q => by rw [q, hD2] at h; cases h
  refine ⟨ts, hD2, Nat.lt_trans (by omega : ts.length < 1000) (by decide), fun b o h n => ?_, tabsPut T2 hD2, ts ++ [.ref t], upd_same, by rw [List.length_append, lt]; rfl, fun r hr => ?_⟩
  · rw [upd_ne (ne_of_none h h5)]
    exact e _ _ (e1 _ _ h n) n
  · rcases List.mem_append.mp hr with hr | hr
    · obtain ⟨z, rfl, hz⟩ := hts r hr
      have hz2 := e _ _ hz fun ps z => by cases z
      exact ⟨z, rfl, by rw [upd_ne (nD hz2)]; exact hz2⟩
    · rw [List.mem_singleton.mp hr]
      exact ⟨t, rfl, by rw [upd_ne (nD ht)]; exact ht⟩
theorem eq_said {w : Str} {v : V} {x : PyData} (hw : PyData.canLay0 (.str w) = true) (hv : Lone v x) (n : Nat) : V.bl (PyData.eqv (.list (List.replicate n (pdW w x))) (.list (List.replicate n (pdW w x)))) = V.bl true := by
  rw [eqv_same (shaped_said hw hv n)]
theorem eq_word {w : Str} {v : V} {x : PyData} (hw : PyData.canLay0 (.str w) = true) (hv : Lone v x) : V.bl (PyData.eqv (pdW w x) (pdW w x)) = V.bl true := by
  rw [eqv_same (shaped_word hw hv)]
end L2

namespace L2
open PySem PySem.Spec PyProof.Rows
namespace RF
/-- the rows of answers of one length that lead to no end before -/
def ended (size : Nat) (bs : List Bool) : Bool := (fed size bs bs.length).wt.isNone
def openR (size : Nat) : Nat → List (List Bool)
  | 0 => [[]]
  | g + 1 => (openR size g).flatMap fun bs => if ended size bs then [] else [bs ++ [false], bs ++ [true]]
/-- the ends that have been found -/
def fnd (size : Nat) : Nat → List (List Bool)
  | 0 => []
  | g + 1 => fnd size g ++ (openR size g).filter (ended size)
def lens (size : Nat) : List Nat := (fnd size (2 * size + 1)).map List.length
def nxt (size : Nat) (bs : List Bool) : List (List Bool) := if ended size bs then [] else [bs ++ [false], bs ++ [true]]
theorem openR_mem {n : Nat} : ∀ {g : Nat} {bs : List Bool}, bs ∈ openR n g → bs.length = g ∧ ∀ i, i < g → (fed n bs i).wt ≠ none
  | 0, bs, h => by
    rw [show bs = [] from List.mem_singleton.mp h]
    exact ⟨rfl, fun i h => absurd h (Nat.not_lt_zero _)⟩
  | g + 1, bs, h => by
    obtain ⟨cs, hc, hb⟩ := List.mem_flatMap.mp h
    obtain ⟨l1, l2⟩ := openR_mem hc
    have key : ∀ b : Bool, ended n cs = false → bs = cs ++ [b] → bs.length = g + 1 ∧ ∀ i, i < g + 1 → (fed n bs i).wt ≠ none := fun b hn e => by
      subst e
      refine ⟨by rw [List.length_append, l1]; rfl, fun i hi => ?_⟩
      have ec : fed n (cs ++ [b]) i = fed n cs i := fed_congr fun x hx => by
        rw [List.getD_eq_getElem?_getD, List.getD_eq_getElem?_getD, List.getElem?_append_left (by omega)]
      rw [ec]
      by_cases e : i = g
      · unfold ended at hn
        rw [l1, ← e] at hn
        intro z
        rw [z] at hn
        cases hn
      · exact l2 i (by omega)
    by_cases hn : ended n cs = true
    · rw [if_pos hn] at hb
      cases hb
    · rw [if_neg hn] at hb
      have hn : ended n cs = false := by
        cases e : ended n cs with
        | false => rfl
        | true => exact absurd e hn
      rcases List.mem_cons.mp hb with e | hb
      · exact key false hn e
      · exact key true hn (List.mem_singleton.mp hb)
theorem openR_last {n : Nat} (z0 : 0 < n) (z1 : n ≤ 2000) : openR n (2 * n + 1) = [] := by
  cases e : openR n (2 * n + 1) with
  | nil => rfl
  | cons bs r =>
    have h : bs ∈ openR n (2 * n + 1) := by rw [e]; exact List.mem_cons_self ..
    obtain ⟨_, h2⟩ := openR_mem h
    have := fed_few z0 z1 bs h2
    omega
theorem flat_le (n : Nat) : ∀ L : List (List Bool), (L.flatMap (nxt n)).length ≤ 2 * L.length
  | [] => Nat.le_refl _
  | bs :: r => by
    have ih := flat_le n r
    rw [List.flatMap_cons, List.length_append, List.length_cons]
    have : (nxt n bs).length ≤ 2 := by
      unfold nxt
      split
      · exact Nat.zero_le _
      · exact Nat.le_refl 2
    omega
theorem openR_le (n : Nat) : ∀ g, (openR n g).length ≤ 2 ^ g
  | 0 => Nat.le_refl _
  | g + 1 => by
    have ih := openR_le n g
    have := flat_le n (openR n g)
    have e : (openR n (g + 1)).length ≤ 2 * (openR n g).length := this
    rw [Nat.pow_succ]
    omega
theorem fnd_le (n : Nat) : ∀ g, (fnd n g).length ≤ 2 ^ g
  | 0 => Nat.zero_le _
  | g + 1 => by
    have ih := fnd_le n g
    have h1 := openR_le n g
    have h2 := List.length_filter_le (ended n) (openR n g)
    show (fnd n g ++ (openR n g).filter (ended n)).length ≤ _
    rw [List.length_append, Nat.pow_succ]
    omega
end RF
/-- tuples stay -/
def TK (H H' : Hp) : Prop := ∀ t xs, H t = some (.tup xs) → H' t = some (.tup xs)
theorem TK.of {H H' : Hp} (s : Same H H') : TK H H' := fun t xs h => s _ _ h
theorem TK.trans {H H1 H2 : Hp} (a : TK H H1) (b : TK H1 H2) : TK H H2 := fun t xs h => b _ _ (a _ _ h)
theorem TK.put {H : Hp} {p : Addr} {xs ys : List V} (h : H p = some (.lst xs)) : TK H (upd H p (.lst ys)) := fun t zs ht => by
  rw [upd_ne (fun e => by rw [e, h] at ht; cases ht)]
  exact ht
/-- a list whose entries are told by a row -/
def LAt {β : Type} (R : Hp → V → β → Prop) (H : Hp) (p : Addr) (L : List β) : Prop := ∃ ts : List V, H p = some (.lst ts) ∧ ts.length = L.length ∧ ∀ (i : Nat) (v : V) (b : β), ts[i]? = some v → L[i]? = some b → R H v b
def RowT (H : Hp) (v : V) (bs : List Bool) : Prop := ∃ t, v = .ref t ∧ H t = some (.tup (bs.map V.bl))
def EndT (H : Hp) (v : V) (bs : List Bool) : Prop := ∃ t rt st, v = .ref t ∧ H t = some (.tup [.ref rt, .ref st]) ∧ H rt = some (.tup (bs.map V.bl))
theorem RowT.keep {H H' : Hp} {v : V} {bs : List Bool} (k : TK H H') (h : RowT H v bs) : RowT H' v bs := by
  obtain ⟨t, e, ht⟩ := h
  exact ⟨t, e, k _ _ ht⟩
theorem EndT.keep {H H' : Hp} {v : V} {bs : List Bool} (k : TK H H') (h : EndT H v bs) : EndT H' v bs := by
  obtain ⟨t, rt, st, e, ht, hr⟩ := h
  exact ⟨t, rt, st, e, k _ _ ht, k _ _ hr⟩
theorem LAt.keep {β : Type} {R : Hp → V → β → Prop} {H H' : Hp} {p : Addr} {L : List β} (hR : ∀ v b, R H v b → R H' v b) (hp : ∀ x, H p = some x → H' p = some x) (h : LAt R H p L) : LAt R H' p L := by
  obtain ⟨ts, h1, h2, h3⟩ := h
  exact ⟨ts, hp _ h1, h2, fun i v b e1 e2 => hR _ _ (h3 i v b e1 e2)⟩
theorem LAt.nil {β : Type} {R : Hp → V → β → Prop} {H : Hp} {p : Addr} (h : H p = some (.lst [])) : LAt R H p [] := ⟨[], h, rfl, fun i v b e => by simp at e⟩
theorem LAt.more {β : Type} {R : Hp → V → β → Prop} {H : Hp} {p : Addr} {L M : List β} {ts zs : List V} (hts : H p = some (.lst ts)) (h : LAt R H p L) (hR : ∀ v b, R H v b → R (upd H p (.lst (ts ++ zs))) v b) (hl : zs.length = M.length)
    (hz : ∀ (i : Nat) (v : V) (b : β), zs[i]? = some v → M[i]? = some b → R (upd H p (.lst (ts ++ zs))) v b) : LAt R (upd H p (.lst (ts ++ zs))) p (L ++ M) := by
  obtain ⟨ts', h1, h2, h3⟩ := h
  rw [hts] at h1
  cases h1
  refine ⟨ts ++ zs, upd_same, by rw [List.length_append, List.length_append, h2, hl], fun i v b e1 e2 => ?_⟩
  rcases Nat.lt_or_ge i ts.length with hi | hi
  · rw [List.getElem?_append_left hi] at e1
    rw [List.getElem?_append_left (by omega)] at e2
    exact hR _ _ (h3 i v b e1 e2)
  · rw [List.getElem?_append_right hi] at e1
    rw [List.getElem?_append_right (by omega), ← h2] at e2
    exact hz _ v b e1 e2
/-- the most questions, and that all ends together are one -/
def topR (n : Nat) : Nat := 2 * n - 2 - if n = 2 then 1 else 0
theorem lens_right : ∀ n, n < 7 → 0 < n → ((RF.lens n).map fun l => 2 ^ (topR n - l)).sum = 2 ^ topR n ∧ topR n ∈ RF.lens n ∧ ∀ l ∈ RF.lens n, l ≤ topR n := by decide +kernel
end L2

namespace L2
open PySem PySem.Spec PyProof.Rows
/-- len, said of one K (for a comprehension) -/
def rLenK (K : PySem.W.Frag) : List V → Hp → VK → Prop := fun xs H Q => ∃ p ys, xs = [.ref p] ∧ (SqL K H p ys ∨ SqT K H p ys) ∧ Q (.int ys.length) H
end L2

namespace L2
open PySem PySem.Spec PyProof.Rows
/-! stable orders of keys that are made of others -/
theorem getD_map {ks : List Int} (f : Int → Int) {i : Nat} (h : i < ks.length) : (ks.map f).getD i 0 = f (ks.getD i 0) := by
  simp only [List.getD_eq_getElem?_getD, List.getElem?_map, List.getElem?_eq_getElem h]
  rfl
theorem getD_mem {ks : List Int} {i : Nat} (h : i < ks.length) : ks.getD i 0 ∈ ks := by
  simp only [List.getD_eq_getElem?_getD, List.getElem?_eq_getElem h]
  exact List.getElem_mem h
theorem stab_map {ks : List Int} {f : Int → Int} {os os2 : List Nat} (a : Stab (keyf ks false) ks.length os) (b : Stab (keyf (ks.map f) false) (ks.map f).length os2) (h : ∀ x ∈ ks, ∀ y ∈ ks, (x < y ↔ f x < f y)) : os2 = os := by
  rw [List.length_map] at b
  refine b.uniq (a.like fun i j hi hj => ?_)
  show ks.getD i 0 < ks.getD j 0 ↔ (ks.map f).getD i 0 < (ks.map f).getD j 0
  rw [getD_map f hi, getD_map f hj]
  exact h _ (getD_mem hi) _ (getD_mem hj)
theorem stab_neg {ks : List Int} {os os2 : List Nat} (a : Stab (keyf ks true) ks.length os) (b : Stab (keyf (ks.map fun x => -x) false) (ks.map fun x => -x).length os2) : os2 = os := by
  rw [List.length_map] at b
  refine b.uniq (a.like fun i j hi hj => ?_)
  show -(ks.getD i 0) < -(ks.getD j 0) ↔ (ks.map fun x => -x).getD i 0 < (ks.map fun x => -x).getD j 0
  rw [getD_map _ hi, getD_map _ hj]
theorem perm_turn (n : Nat) : ((List.range n).map fun i => n - 1 - i).Perm (List.range n) := by
  refine (List.perm_ext_iff_of_nodup ?_ List.nodup_range).mpr fun x => ?_
  · refine List.pairwise_map.mpr (List.Pairwise.imp_of_mem ?_ (List.pairwise_lt_range (n := n)))
    intro i j hi hj l
    have := List.mem_range.mp hi; have := List.mem_range.mp hj
    omega
  · rw [List.mem_map, List.mem_range]
    constructor
    · rintro ⟨i, hi, rfl⟩
      have := List.mem_range.mp hi
      omega
    · intro h
      exact ⟨n - 1 - x, List.mem_range.mpr (by omega), by omega⟩
theorem stab_turn {ks : List Int} {os os3 : List Nat} (a : Stab (keyf ks true) ks.length os) (b : Stab (keyf ks.reverse false) ks.reverse.length os3) : (os3.map fun i => ks.length - 1 - i).reverse = os := by
  rw [List.length_reverse] at b
  refine Stab.uniq ⟨?_, ?_⟩ a
  · exact (List.reverse_perm _).trans ((b.perm.map _).trans (perm_turn _))
  · refine List.pairwise_reverse.mpr (List.pairwise_map.mpr (List.Pairwise.imp_of_mem ?_ b.sort))
    intro i j hi hj l
    have h1 := b.lt hi; have h2 := b.lt hj
    have g : ∀ k, k < ks.length → ks.reverse.getD k 0 = ks.getD (ks.length - 1 - k) 0 := fun k hk => by
      simp only [List.getD_eq_getElem?_getD]
      rw [List.getElem?_reverse hk]
    have l : Lx (keyf ks.reverse false) i j := l
    have e : ∀ k, keyf ks.reverse false k = ks.reverse.getD k 0 := fun _ => rfl
    have e2 : ∀ k, keyf ks true k = -(ks.getD k 0) := fun _ => rfl
    unfold Lx at l ⊢
    rw [e, e, g i h1, g j h2] at l
    rw [e2, e2]
    omega
theorem getD_twice {ks : List Int} {i : Nat} (h : i < ks.length) : (ks ++ ks).getD i 0 = ks.getD i 0 := by
  simp only [List.getD_eq_getElem?_getD]
  rw [List.getElem?_append_left h]
theorem getD_twice2 {ks : List Int} {i : Nat} (h : ks.length ≤ i) : (ks ++ ks).getD i 0 = ks.getD (i - ks.length) 0 := by
  simp only [List.getD_eq_getElem?_getD]
  rw [List.getElem?_append_right h]
theorem range_low (n : Nat) : (List.range (n + n)).filter (fun i => decide (i < n)) = List.range n := by
  rw [List.range_add, List.filter_append]
  have h1 : (List.range n).filter (fun i => decide (i < n)) = List.range n := List.filter_eq_self.mpr fun i hi => decide_eq_true (List.mem_range.mp hi)
  have h2 : ((List.range n).map (n + ·)).filter (fun i => decide (i < n)) = [] := List.filter_eq_nil_iff.mpr fun i hi => by
    obtain ⟨j, _, rfl⟩ := List.mem_map.mp hi
    simp
  rw [h1, h2, List.append_nil]
theorem range_high (n : Nat) : ((List.range (n + n)).filter (fun i => decide (n ≤ i))).map (fun i => i - n) = List.range n := by
  rw [List.range_add, List.filter_append]
  have h1 : (List.range n).filter (fun i => decide (n ≤ i)) = [] := List.filter_eq_nil_iff.mpr fun i hi => by
    have := List.mem_range.mp hi
    simp only [decide_eq_true_eq]
    omega
  have h2 : ((List.range n).map (n + ·)).filter (fun i => decide (n ≤ i)) = (List.range n).map (n + ·) := List.filter_eq_self.mpr fun i hi => by
    obtain ⟨j, _, rfl⟩ := List.mem_map.mp hi
    simp
  rw [h1, h2, List.nil_append, List.map_map]
  conv => rhs; rw [← List.map_id (List.range n)]
  exact List.map_congr_left fun i _ => by
    show n + i - n = i
    omega
theorem stab_twice {ks : List Int} {os os2 : List Nat} (a : Stab (keyf ks false) ks.length os) (b : Stab (keyf (ks ++ ks) false) (ks ++ ks).length os2) :
    os2.filter (fun i => decide (i < ks.length)) = os ∧ (os2.filter (fun i => decide (ks.length ≤ i))).map (fun i => i - ks.length) = os := by
  rw [List.length_append] at b
  have e : ∀ k, keyf (ks ++ ks) false k = (ks ++ ks).getD k 0 := fun _ => rfl
  have e2 : ∀ k, keyf ks false k = ks.getD k 0 := fun _ => rfl
  constructor
  · refine Stab.uniq ⟨?_, ?_⟩ a
    · have := b.perm.filter (fun i => decide (i < ks.length))
      rw [range_low] at this
      exact this
    · refine List.Pairwise.imp_of_mem ?_ (b.sort.filter _)
      intro i j hi hj l
      have h1 : i < ks.length := of_decide_eq_true (List.mem_filter.mp hi).2
      have h2 : j < ks.length := of_decide_eq_true (List.mem_filter.mp hj).2
      unfold Lx at l ⊢
      rw [e, e, getD_twice h1, getD_twice h2] at l
      rw [e2, e2]
      exact l
  · refine Stab.uniq ⟨?_, ?_⟩ a
    · have := (b.perm.filter (fun i => decide (ks.length ≤ i))).map (fun i => i - ks.length)
      rw [range_high] at this
      exact this
    · refine List.pairwise_map.mpr (List.Pairwise.imp_of_mem ?_ (b.sort.filter _))
      intro i j hi hj l
      have h1 : ks.length ≤ i := of_decide_eq_true (List.mem_filter.mp hi).2
      have h2 : ks.length ≤ j := of_decide_eq_true (List.mem_filter.mp hj).2
      unfold Lx at l ⊢
      rw [e, e, getD_twice2 h1, getD_twice2 h2] at l
      rw [e2, e2]
      omega
/-- neighbours of an order -/
theorem stab_next {ks : List Int} {os : List Nat} (b : Stab (keyf ks false) ks.length os) {k x y : Nat} (h1 : os[k]? = some x) (h2 : os[k + 1]? = some y) : x ≠ y ∧ x < ks.length ∧ y < ks.length ∧ ¬ ks.getD y 0 < ks.getD x 0 := by
  obtain ⟨l1, e1⟩ := List.getElem?_eq_some_iff.mp h1
  obtain ⟨l2, e2⟩ := List.getElem?_eq_some_iff.mp h2
  have l := List.pairwise_iff_getElem.mp b.sort k (k + 1) l1 l2 (by omega)
  rw [e1, e2] at l
  have hx := b.lt (List.mem_of_getElem? h1)
  have hy := b.lt (List.mem_of_getElem? h2)
  refine ⟨fun e => Lx.irr (e ▸ l), hx, hy, ?_⟩
  have l : ks.getD x 0 < ks.getD y 0 ∨ (ks.getD x 0 = ks.getD y 0 ∧ x < y) := l
  omega
/-- the places in a row that rises -/
theorem idx_mono {rs : List Int} (up : rs.Pairwise (· < ·)) {x y : Int} (hx : x ∈ rs) (hy : y ∈ rs) : x < y ↔ ((rs.idxOf x : Nat) : Int) < ((rs.idxOf y : Nat) : Int) := by
  have lx := List.idxOf_lt_length_of_mem hx
  have ly := List.idxOf_lt_length_of_mem hy
  have ex : rs[rs.idxOf x] = x := List.getElem_idxOf lx
  have ey : rs[rs.idxOf y] = y := List.getElem_idxOf ly
  have pw := List.pairwise_iff_getElem.mp up
  constructor
  · intro h
    rcases Nat.lt_trichotomy (rs.idxOf x) (rs.idxOf y) with z | z | z
    · omega
    · have : x = y := by rw [← ex, ← ey]; congr 1
      omega
    · have := pw _ _ ly lx z
      rw [ex, ey] at this
      omega
  · intro h
    have := pw _ _ lx ly (by omega)
    rw [ex, ey] at this
    exact this
theorem cube_mono (x y : Int) : x < y ↔ x ^ (3 : Int).toNat < y ^ (3 : Int).toNat := by
  have e : ∀ z : Int, z ^ (3 : Int).toNat = z * z * z := fun z => by
    show z ^ 3 = _
    rw [Int.pow_succ, Int.pow_succ, Int.pow_succ, Int.pow_zero, Int.one_mul]
  rw [e, e]
  have key : ∀ a b : Int, a < b → a * a * a < b * b * b := fun a b h => by
    have h1 : 0 < b - a := by omega
    have h2 : b * b * b - a * a * a = (b - a) * (b * b + a * b + a * a) := by
      simp only [Int.sub_mul, Int.mul_add, Int.add_mul]
      simp only [← Int.mul_assoc]
      have c1 : a * b * b = b * a * b := by rw [Int.mul_comm a b]
      have c2 : b * a * a = a * b * a := by rw [Int.mul_comm a b]
      have c3 : a * a * b = a * b * a := Int.mul_right_comm a a b
      omega
    have h3 : 0 < b * b + a * b + a * a := by
      have q1 : 0 ≤ (a + b) * (a + b) := by
        rcases Int.le_total 0 (a + b) with z | z
        · exact Int.mul_nonneg z z
        · have := Int.mul_nonneg (Int.neg_nonneg_of_nonpos z) (Int.neg_nonneg_of_nonpos z)
          rw [Int.neg_mul_neg] at this
          exact this
      have q2 : (a + b) * (a + b) = a * a + a * b + a * b + b * b := by
        rw [Int.add_mul, Int.mul_add, Int.mul_add, Int.mul_comm b a]
        omega
      have q3 : ∀ z : Int, 0 ≤ z * z := fun z => by
        rcases Int.le_total 0 z with c | c
        · exact Int.mul_nonneg c c
        · have := Int.mul_nonneg (Int.neg_nonneg_of_nonpos c) (Int.neg_nonneg_of_nonpos c)
          rw [Int.neg_mul_neg] at this
          exact this
      have q4 := q3 a
      have q5 := q3 b
      have q6 : ∀ z : Int, z ≠ 0 → 0 < z * z := fun z hz => by
        have := q3 z
        have : z * z ≠ 0 := Int.mul_ne_zero hz hz
        omega
      by_cases ha : a = 0
      · have := q6 b (by omega)
        subst ha
        simp only [Int.zero_mul] at *
        omega
      · have := q6 a ha
        omega
    have := Int.mul_pos h1 h3
    omega
  constructor
  · exact key x y
  · intro h
    rcases Int.lt_trichotomy x y with z | z | z
    · exact z
    · subst z
      omega
    · have := key y x z
      omega
end L2

/-! repr of data that may hold dicts of ints -/
namespace L2
open PySem PySem.Spec PyProof.Rows
/-- what repr sees: data without dicts, dicts of ints, lists and tuples of such -/
inductive ShD (K : PySem.W.Frag) (H : Hp) : V → PyData → Prop
  | flat {v : V} {d : PyData} (h : Dp K H v d) (n : d.hasDict = false) : ShD K H v d
  | dict {a : Addr} (kvs : List (Int × Int)) (h : H a = some (.dK (kvs.map fun p => ((.inl p.1 : Key), V.int p.2)))) : ShD K H (.ref a) (.dict (kvs.map fun p => (.int p.1, .int p.2)))
  | lst {a : Addr} {xs : List V} {ds : List PyData} (h : SqL K H a xs) (hl : xs.length = ds.length) (hi : ∀ (i : Nat) (v : V) (d : PyData), xs[i]? = some v → ds[i]? = some d → ShD K H v d) : ShD K H (.ref a) (.list ds)
  | tup {a : Addr} {xs : List V} {ds : List PyData} (h : SqT K H a xs) (hl : xs.length = ds.length) (hi : ∀ (i : Nat) (v : V) (d : PyData), xs[i]? = some v → ds[i]? = some d → ShD K H v d) : ShD K H (.ref a) (.tuple ds)
/-- what the heap says of it -/
def Shown (P : Program) (w : World) (h : Heap) (u : Value) (d : PyData) : Prop := ∃ as bs, Reads h u d as ∧ ReadAtMost h d.depth bs ∧ ReprK P w bs h d.depth u d.shown
theorem shown_all {P : Program} {w : World} {h : Heap} : ∀ {ds : List PyData} {us : List Value}, us.length = ds.length → (∀ (i : Nat) (u : Value) (d : PyData), us[i]? = some u → ds[i]? = some d → Shown P w h u d) →
    ∃ as bs, ReadsAll h us ds as ∧ ReadAtMost h (PyData.depthAll ds) bs ∧ ReprAllK P w bs h (PyData.depthAll ds) us (PyData.shownAll ds)
  | [], [], _, _ => ⟨[], [], .nil, (fun _ z => nomatch z), .nil⟩
  | d :: ds, u :: us, hl, hi => by
    obtain ⟨a1, b1, r1, m1, k1⟩ := hi 0 u d rfl rfl
    obtain ⟨a2, b2, r2, m2, k2⟩ := shown_all (ds := ds) (us := us) (Nat.succ.inj hl) fun i u d x y => hi (i + 1) u d x y
    have e : PyData.depthAll (d :: ds) = max d.depth (PyData.depthAll ds) := by simp only [PyData.depthAll]
    rw [e]
    refine ⟨a1 ++ a2, b1 ++ b2, .cons r1 r2, (m1.mono (Nat.le_max_left _ _)).append (m2.mono (Nat.le_max_right _ _)), ?_⟩
    have e2 : PyData.shownAll (d :: ds) = d.shown :: PyData.shownAll ds := by simp only [PyData.shownAll]
    rw [e2]
    exact .cons ((k1.more fun b z => List.mem_append_left _ z).level_le (Nat.le_max_left _ _)) (k2.more_le (fun b z => List.mem_append_right _ z) (Nat.le_max_right _ _))
  | [], _ :: _, hl, _ => nomatch hl
  | _ :: _, [], hl, _ => nomatch hl
/-- the entries of a dict of ints -/
theorem ent_reads {P : Program} {w : World} {h : Heap} : ∀ {kvs : List (Int × Int)} {es : List DictEntry} {vs : List (Key × Value)}, Pairs (mixKind P w) es vs → KV (kvs.map fun p => ((.inl p.1 : Key), V.int p.2)) vs →
    ReadsAll h (es.map (·.key)) (kvs.map fun p => .int p.1) [] ∧ ReadsAll h (es.map (·.val)) (kvs.map fun p => .int p.2) []
  | [], _, _, hp, hk => by
    cases hk
    cases hp
    exact ⟨.nil, .nil⟩
  | p :: kvs, _, _, hp, hk => by
    cases hk with
    | cons r rs =>
      cases hp with
      | cons i v hs =>
        obtain ⟨q1, q2⟩ := ent_reads hs rs
        obtain ⟨e1, e2⟩ := r
        rw [← e1] at i
        have i : keyIs (Sum.inl p.1) _ = true := i
        obtain ⟨j, t, e3, e4⟩ | ⟨x, t, e3, _⟩ := keyIs_shape i
        · cases e3
          obtain ⟨t2, e5⟩ := e2
          refine ⟨?_, ?_⟩
          · rw [List.map_cons, List.map_cons, e4]
            exact ReadsAll.cons (as := []) (.int _ _) q1
          · rw [List.map_cons, List.map_cons, v, e5]
            exact ReadsAll.cons (as := []) (.int _ _) q2
        · cases e3
theorem keysKv (kvs : List (Int × Int)) : (kvs.map fun p => ((.int p.1 : PyData), (.int p.2 : PyData))).map (·.1) = kvs.map fun p => .int p.1 := by rw [List.map_map]; rfl
theorem valsKv (kvs : List (Int × Int)) : (kvs.map fun p => ((.int p.1 : PyData), (.int p.2 : PyData))).map (·.2) = kvs.map fun p => .int p.2 := by rw [List.map_map]; rfl
theorem noDictI : ∀ ns : List (Int × Int), PyData.hasDictAll (ns.map fun p => .int p.1) = false ∧ PyData.hasDictAll (ns.map fun p => .int p.2) = false
  | [] => ⟨rfl, rfl⟩
  | p :: r => by
    obtain ⟨h1, h2⟩ := noDictI r
    constructor
    · rw [List.map_cons]; simp only [PyData.hasDictAll, PyData.hasDict, Bool.false_or]; exact h1
    · rw [List.map_cons]; simp only [PyData.hasDictAll, PyData.hasDict, Bool.false_or]; exact h2
theorem showAll_at : ∀ {ds : List PyData} {i : Nat} {d : PyData}, PyData.showableAll ds = true → ds[i]? = some d → d.showable = true
  | [], i, d, _, h => by cases h
  | x :: ds, i, d, hs, h => by
    have hs' : x.showable = true ∧ PyData.showableAll ds = true := by simpa [PyData.showableAll] using hs
    cases i with
    | zero => cases h; exact hs'.1
    | succ i => exact showAll_at hs'.2 h
theorem shownAll_at : ∀ {ds : List PyData} {i : Nat} {d : PyData}, ds[i]? = some d → d.shown ∈ PyData.shownAll ds
  | [], i, d, h => by cases h
  | x :: ds, i, d, h => by
    simp only [PyData.shownAll]
    cases i with
    | zero => cases h; exact List.mem_cons_self
    | succ i => exact List.mem_cons_of_mem _ (shownAll_at h)
section
variable {X : Cx} {pins : List (Addr × Obj)} {σ : L2.St} {H : Hp} {s : Shared}
/-- a dict's own facts -/
theorem dict_facts (I : Inv X pins σ H s) {a : Addr} {kvs : List (Int × Int)} (h : H a = some (.dK (kvs.map fun p => ((.inl p.1 : Key), V.int p.2)))) (hs : PyData.showableKv (kvs.map fun p => (.int p.1, .int p.2)) = true) (hz : (PyData.dict (kvs.map fun p => (.int p.1, .int p.2))).shown.length ≤ sizeLine) :
    ∃ o es n bs, s.heap.get? a = some o ∧ o.cls = .type "dict" ∧ o.data = .dict es n ∧ (a == sysModules) = false ∧ Reads s.heap (.ref a) (.dict (kvs.map fun p => (.int p.1, .int p.2))) [a] ∧ a ∉ bs ∧ ReadAtMost s.heap (PyData.depthKv (kvs.map fun p => (.int p.1, .int p.2))) bs ∧
      ReprEntriesK X.prog X.w bs s.heap (PyData.depthKv (kvs.map fun p => (.int p.1, .int p.2))) es.toList (PyData.shownKv (kvs.map fun p => (.int p.1, .int p.2))) := by
  obtain ⟨_, hsys, vs, hkv, o, es, ep, ho, hx, hd, _, hp, _⟩ := dk_of I.hok h
  obtain ⟨q1, q2⟩ := ent_reads (h := s.heap) hp hkv
  rw [← keysKv] at q1
  rw [← valsKv] at q2
  have hz' : (dictText (PyData.shownKv (kvs.map fun p => (.int p.1, .int p.2)))).length ≤ sizeLine := by simpa only [PyData.shown] using hz
  obtain ⟨s1, s2⟩ := PyData.showableKv_split _ hs
  obtain ⟨n1, n2⟩ := noDictI kvs
  have r : Reads s.heap (.ref a) (.dict (kvs.map fun p => (.int p.1, .int p.2))) [a] := Reads.dict (as := []) (bs := []) ho hx.1 hd q1 q2
  obtain ⟨b1, m1, k1⟩ := ReprAllK.of_readsAll (prog := X.prog) (w := X.w) q1 s1 (fun z => by rw [keysKv, n1] at z; cases z) (fun t ht => let ⟨p, hp, hl⟩ := PyData.shownKv_key_le _ t ht; Nat.le_trans hl (Nat.le_trans (dictText_mem_le hp) hz'))
  obtain ⟨b2, m2, k2⟩ := ReprAllK.of_readsAll (prog := X.prog) (w := X.w) q2 s2 (fun z => by rw [valsKv, n2] at z; cases z) (fun t ht => let ⟨p, hp, hl⟩ := PyData.shownKv_val_le _ t ht; Nat.le_trans hl (Nat.le_trans (dictText_mem_le hp) hz'))
  have mb := (m1.mono (PyData.depthAll_keys_le (kvs.map fun p => ((.int p.1 : PyData), (.int p.2 : PyData))))).append (m2.mono (PyData.depthAll_vals_le (kvs.map fun p => ((.int p.1 : PyData), (.int p.2 : PyData)))))
  refine ⟨o, es, ep, b1 ++ b2, ho, hx.1, hd, hsys, r, not_mem_of_deeper r (by simp only [PyData.depth]; omega) mb, mb, ?_⟩
  rw [PyData.shownKv_eq]
  exact ReprEntriesK.of_two es.toList _ _ (k1.more_le (fun b z => List.mem_append_left _ z) (PyData.depthAll_keys_le _)) (k2.more_le (fun b z => List.mem_append_right _ z) (PyData.depthAll_vals_le _))
theorem ShD.go (I : Inv X pins σ H s) {v : V} {d : PyData} (h : ShD X.K H v d) : ∀ {u : Value}, RelV v u → d.showable = true → d.shown.length ≤ sizeLine → Shown X.prog X.w s.heap u d := by
  induction h with
  | flat hd n =>
    intro u r hs hz
    obtain ⟨as, rd⟩ := Dp.reads I _ _ u hd r
    obtain ⟨bs, m, k⟩ := ReprK.of_reads (prog := X.prog) (w := X.w) rd hs (fun z => by rw [n] at z; cases z) hz
    exact ⟨as, bs, rd, m, k⟩
  | @dict a kvs h =>
    intro u r hs hz
    cases r
    obtain ⟨o, es, n, bs, h1, h2, h3, h4, rd, na, m, k⟩ := dict_facts I h (by simpa [PyData.showable] using hs) hz
    refine ⟨[a], a :: bs, rd, ReadAtMost.cons rd (by simp only [PyData.depth]; omega) m, ?_⟩
    simp only [PyData.depth, PyData.shown]
    exact ReprK.dict h1 h2 h3 h4 na k
  | @lst a xs ds h hl hi ih =>
    intro u r hs hz
    cases r
    obtain ⟨its, rv, ⟨o, n, ho, hc, _, hd⟩, _⟩ := I.list h
    have hz' : (listText (PyData.shownAll ds)).length ≤ sizeLine := by simpa only [PyData.shown] using hz
    have hs' : PyData.showableAll ds = true := by simpa [PyData.showable] using hs
    obtain ⟨as, bs, rd, m, k⟩ := shown_all (P := X.prog) (w := X.w) (h := s.heap) (ds := ds) (us := its) (by rw [← rv.length]; exact hl) fun i u d hu hdi => by
      obtain ⟨v, hv⟩ : ∃ v, xs[i]? = some v := ⟨_, List.getElem?_eq_getElem (by rw [rv.length]; exact (List.getElem?_eq_some_iff.mp hu).1)⟩
      obtain ⟨u2, hu2, r2⟩ := rv.get hv
      rw [hu] at hu2
      cases hu2
      exact ih i v d hv hdi r2 (showAll_at hs' hdi) (Nat.le_trans (listText_mem_le (shownAll_at hdi)) hz')
    have R : Reads s.heap (.ref a) (.list ds) (a :: as) := .list ho hc hd (by simpa using rd)
    have na : a ∉ bs := not_mem_of_deeper R (by simp only [PyData.depth]; omega) m
    refine ⟨_, a :: bs, R, ReadAtMost.cons R (by simp only [PyData.depth]; omega) m, ?_⟩
    simp only [PyData.depth, PyData.shown]
    cases its with
    | nil =>
      cases rd
      simp only [PyData.shownAll, listText_nil]
      exact ReprK.listEmpty ho hc hd
    | cons x l => exact ReprK.list ho hc hd na (by simpa using k.length_eq) fun i y e => k.item i y (by simpa using e)
  | @tup a xs ds h hl hi ih =>
    intro u r hs hz
    cases r
    obtain ⟨its, rv, ⟨o, ho, hc, n, hd⟩, _⟩ := I.tuple h
    have hz' : (tupleText (PyData.shownAll ds)).length ≤ sizeLine := by simpa only [PyData.shown] using hz
    have hs' : PyData.showableAll ds = true := by simpa [PyData.showable] using hs
    obtain ⟨as, bs, rd, m, k⟩ := shown_all (P := X.prog) (w := X.w) (h := s.heap) (ds := ds) (us := its) (by rw [← rv.length]; exact hl) fun i u d hu hdi => by
      obtain ⟨v, hv⟩ : ∃ v, xs[i]? = some v := ⟨_, List.getElem?_eq_getElem (by rw [rv.length]; exact (List.getElem?_eq_some_iff.mp hu).1)⟩
      obtain ⟨u2, hu2, r2⟩ := rv.get hv
      rw [hu] at hu2
      cases hu2
      exact ih i v d hv hdi r2 (showAll_at hs' hdi) (Nat.le_trans (tupleText_mem_le (shownAll_at hdi)) hz')
    have R : Reads s.heap (.ref a) (.tuple ds) as := .tuple ho hc hd (by simpa using rd)
    have na : a ∉ bs := not_mem_of_deeper R (by simp only [PyData.depth]; omega) m
    refine ⟨_, a :: bs, R, ReadAtMost.cons R (by simp only [PyData.depth]; omega) m, ?_⟩
    simp only [PyData.depth, PyData.shown]
    exact ReprK.tuple ho hc hd na (by simpa using k)
def rReprS (K : PySem.W.Frag) : List V → Hp → VK → Prop := fun vs H Q => ∃ (v : V) (d : PyData), vs = [v] ∧ ShD K H v d ∧ d.showable = true ∧ d.depth ≤ 64 ∧ d.shown.length ≤ sizeLine ∧ Q (.str d.shown) H
theorem call_reprS (gd : X.A.guards = some []) (hu : X.A.units + 65 < cLine) : CallR X (.builtin "repr") (rReprS X.K) := by
  intro pins s σ H xs us Q I r h
  obtain ⟨v, d, rfl, hd, h1, h3, h4, q⟩ := h
  obtain ⟨u, rfl, r1⟩ := vals1 r
  cases hd with
  | flat hd n =>
    obtain ⟨as, rd⟩ := Dp.reads I d _ u hd r1
    cases hd with
    | non =>
      cases r1
      exact PySem.P.repr_of_none ⟨.str _, H, I.tok _, ⟨_, rfl⟩, q⟩
    | bl b =>
      cases r1
      exact PySem.P.repr_of_bool ⟨.str _, H, I.tok _, ⟨_, rfl⟩, q⟩
    | int i =>
      obtain ⟨t, rfl⟩ := r1
      exact PySem.P.repr_of_int (by simpa [PyData.showable] using h1) ⟨.str _, H, I.tok _, ⟨_, rfl⟩, q⟩
    | str x =>
      obtain ⟨t, rfl⟩ := r1
      exact PySem.P.repr_of_str ⟨.str _, H, I.tok _, ⟨_, rfl⟩, q⟩ (by simpa only [PyData.shown] using h4)
    | lst _ _ =>
      cases r1
      exact repr_of_reads' rd h1 (fun z => by rw [n] at z; cases z) gd (by omega) (fun _ _ e => e) (fun h' u tk keep => ⟨.str _, H, I.kept keep, ⟨_, rfl⟩, q⟩) h4
    | tup _ _ =>
      cases r1
      exact repr_of_reads' rd h1 (fun z => by rw [n] at z; cases z) gd (by omega) (fun _ _ e => e) (fun h' u tk keep => ⟨.str _, H, I.kept keep, ⟨_, rfl⟩, q⟩) h4
  | @dict a kvs h =>
    cases r1
    obtain ⟨o, es, n, bs, g1, g2, g3, g4, rd, na, m, k⟩ := dict_facts I h (by simpa [PyData.showable] using h1) h4
    simp only [PyData.depth] at h3
    simp only [PyData.shown] at h4 q
    exact call_repr_slot (by omega) ⟨o, g1, g2⟩ F.slot_dict_repr (call_dict_reprK g1 g2 g3 g4 na k gd (fun b _ => Clear.nil b) (by show X.A.units + 1 + _ < cLine; omega) (fun _ _ e => e) (fun h' u tk keep => ⟨_, _, rfl, .str _, H, I.kept keep, ⟨_, rfl⟩, q⟩) h4)
  | @lst a xs ds h hl hi =>
    have sh := ShD.go I (.lst h hl hi) r1 h1 h4
    cases r1
    obtain ⟨its, rv, ⟨o, n, ho, hc, _, hd⟩, _⟩ := I.list h
    have hz' : (listText (PyData.shownAll ds)).length ≤ sizeLine := by simpa only [PyData.shown] using h4
    have hs' : PyData.showableAll ds = true := by simpa [PyData.showable] using h1
    obtain ⟨as, bs, rd, m, k⟩ := shown_all (P := X.prog) (w := X.w) (h := s.heap) (ds := ds) (us := its) (by rw [← rv.length]; exact hl) fun i u d hu hdi => by
      obtain ⟨v, hv⟩ : ∃ v, xs[i]? = some v := ⟨_, List.getElem?_eq_getElem (by rw [rv.length]; exact (List.getElem?_eq_some_iff.mp hu).1)⟩
      obtain ⟨u2, hu2, r2⟩ := rv.get hv
      rw [hu] at hu2
      cases hu2
      exact ShD.go I (hi i v d hv hdi) r2 (showAll_at hs' hdi) (Nat.le_trans (listText_mem_le (shownAll_at hdi)) hz')
    have na : a ∉ bs := not_mem_of_deeper (Reads.list ho hc hd (by simpa using rd)) (by simp only [PyData.depth]; omega) m
    simp only [PyData.depth] at h3
    simp only [PyData.shown] at q
    refine call_repr_slot (by omega) ⟨o, ho, hc⟩ F.slot_list_repr.toG ?_
    cases its with
    | nil =>
      cases rd
      simp only [PyData.shownAll, listText_nil] at q
      exact call_list_repr_empty ⟨o, ho, hc⟩ ho hd ⟨_, _, rfl, .str _, H, I.tok _, ⟨_, rfl⟩, q⟩
    | cons x l => exact call_list_reprK ho hc hd na (by simpa using k.length_eq) (fun i y e => k.item i y (by simpa using e)) gd (fun b _ => Clear.nil b) (by show X.A.units + 1 + _ < cLine; omega) (fun _ _ e => e) (fun h' u tk keep => ⟨_, _, rfl, .str _, H, I.kept keep, ⟨_, rfl⟩, q⟩) hz'
  | @tup a xs ds h hl hi =>
    cases r1
    obtain ⟨its, rv, ⟨o, ho, hc, n, hd⟩, _⟩ := I.tuple h
    have hz' : (tupleText (PyData.shownAll ds)).length ≤ sizeLine := by simpa only [PyData.shown] using h4
    have hs' : PyData.showableAll ds = true := by simpa [PyData.showable] using h1
    obtain ⟨as, bs, rd, m, k⟩ := shown_all (P := X.prog) (w := X.w) (h := s.heap) (ds := ds) (us := its) (by rw [← rv.length]; exact hl) fun i u d hu hdi => by
      obtain ⟨v, hv⟩ : ∃ v, xs[i]? = some v := ⟨_, List.getElem?_eq_getElem (by rw [rv.length]; exact (List.getElem?_eq_some_iff.mp hu).1)⟩
      obtain ⟨u2, hu2, r2⟩ := rv.get hv
      rw [hu] at hu2
      cases hu2
      exact ShD.go I (hi i v d hv hdi) r2 (showAll_at hs' hdi) (Nat.le_trans (tupleText_mem_le (shownAll_at hdi)) hz')
    have na : a ∉ bs := not_mem_of_deeper (Reads.tuple ho hc hd (by simpa using rd)) (by simp only [PyData.depth]; omega) m
    simp only [PyData.depth] at h3
    simp only [PyData.shown] at q
    exact call_repr_slot (by omega) ⟨o, ho, hc⟩ F.slot_tuple_repr (call_tuple_reprK ho hc hd na (by simpa using k) gd (fun b _ => Clear.nil b) (by show X.A.units + 1 + _ < cLine; omega) (fun _ _ e => e) (fun h' u tk keep => ⟨_, _, rfl, .str _, H, I.kept keep, ⟨_, rfl⟩, q⟩) hz')
end
end L2

/-! defs that make lambdas and are called where nothing is being shown; the end of a law of such defs -/
namespace L2
open PySem PySem.Spec PyProof.Rows LamX
theorem Fun.okGC {P : Program} {w : World} {K : PySem.W.Frag} {mg : Str → Option Value} {base : Heap} {x qual : Str} {st : Stmt} {f c : Addr} {fd : FuncData} {N ps : List Str} {k : Nat} {sp : Sp} (F : Fun K x qual st f fd) (known : fd.code = .ref c) (S : FnScope N ps (defScope st)) (ln : ∀ vs H Q E, sp vs H Q E → vs.length = ps.length)
    (bdy : ∀ (A : Around) (outer : List Env) (s : Shared) (H : Hp) (vs : List V) (Q : VK) (E : XK), A.guards = some [] → Room k (A.deeper (envOfC qual (defScope st) s.heap.objs.size f (.ref c))) → sp vs H Q E →
      ∃ t, PSs (cxOf CX0 P w K mg base N qual (defScope st) f (.ref c) A outer s H E).nox (defBody st) t ∧ t { nx := fun _ H' => Q .non H', rt := Q } (L2.start N vs) H) : FnG P w K mg base CX0 (k + 1) f fd ps sp := by
  obtain ⟨oc, od, kV, doc, pm, an, cdv, ct, osl, rfl, at_, cd⟩ := F.ex
  obtain rfl : cdv = .ref c := known
  refine fnG_body at_ cd S ln fun A outer s H vs Q E gd room hs => ?_
  obtain ⟨t, h1, h2⟩ := bdy A outer s H vs Q E gd room hs
  exact ⟨t, h1.nox, h2⟩
/-- what is told of the heap where a law begins: its tables, and the script if the frame doesn't hold it -/
def lawHp (K : PySem.W.Frag) (ts : List Addr) (a : Addr) (ob : Obj) (xs : List V) : Hp := fun b =>
  bif decide (b ∈ ts) then some (.tbl #[]) else bif decide (b = a) && (K.lookup a).isNone then some (.frz ob (.lst xs)) else none
inductive LawB (K : PySem.W.Frag) (ts : List Addr) (a : Addr) (ob : Obj) (xs : List V) (b : Addr) : Prop
  | tab (m : b ∈ ts) (e : lawHp K ts a ob xs b = some (.tbl #[]))
  | scr (m : b ∉ ts) (here : b = a) (own : K.lookup a = none) (e : lawHp K ts a ob xs b = some (.frz ob (.lst xs)))
  | out (m : b ∉ ts) (far : b ≠ a ∨ K.lookup a ≠ none) (e : lawHp K ts a ob xs b = none)
theorem lawB (K : PySem.W.Frag) (ts : List Addr) (a : Addr) (ob : Obj) (xs : List V) (b : Addr) : LawB K ts a ob xs b := by
  by_cases m : b ∈ ts
  · exact .tab m (by simp [lawHp, m])
  · by_cases here : b = a
    · cases own : K.lookup a with
      | none => exact .scr m here own (by simp [lawHp, m, here, own]; rw [← here]; simp [m])
      | some o => exact .out m (.inr (by rw [own]; exact Option.some_ne_none _)) (by simp [lawHp, m, own])
    · exact .out m (.inl here) (by simp [lawHp, m, here])
/-- where a law begins -/
structure LawStart (K : PySem.W.Frag) (h : Heap) (ts : List Addr) (a : Addr) (us : List Value) (ns : List Int) : Prop where
  kin : K.In h
  tab : ∀ b ∈ ts, h.get? b = some (PySem.W.tabObj #[])
  ntab : ∀ b ∈ ts, K.lookup b = none
  scr : h.get? a = some { cls := .type "list", data := .seq us.toArray }
  nums : IntsAre us ns
  small : ns.length ≤ sizeLine
abbrev scrO (us : List Value) : Obj := { cls := .type "list", data := .seq us.toArray }
section
variable {P : Program} {w : World} {K : PySem.W.Frag} {h : Heap} {ts : List Addr} {a : Addr} {us : List Value} {ns : List Int}
theorem LawStart.apart (L : LawStart K h ts a us ns) : a ∉ ts := fun m => by
  have e := (L.tab a m).symm.trans L.scr
  cases congrArg Obj.data (Option.some.inj e)
theorem LawStart.ok (L : LawStart K h ts a us ns) : HOk P w (lawHp K ts a (scrO us) (ns.map V.int)) h := fun b u e => by
  rcases lawB K ts a (scrO us) (ns.map V.int) b with ⟨m, z⟩ | ⟨m, rfl, own, z⟩ | ⟨m, far, z⟩
  · obtain rfl := Option.some.inj (z.symm.trans e)
    exact L.tab b m
  · obtain rfl := Option.some.inj (z.symm.trans e)
    exact ⟨L.scr, by rw [List.length_map]; exact L.small, us, _, vals_ints L.nums, L.scr⟩
  · rw [z] at e
    cases e
theorem LawStart.seq (L : LawStart K h ts a us ns) : SqL K (lawHp K ts a (scrO us) (ns.map V.int)) a (ns.map V.int) := by
  rcases lawB K ts a (scrO us) (ns.map V.int) a with ⟨m, _⟩ | ⟨_, _, _, z⟩ | ⟨_, far, _⟩
  · exact absurd m L.apart
  · exact .inl (.inr ⟨_, z⟩)
  · rcases far with far | far
    · exact absurd rfl far
    · cases own : K.lookup a with
      | none => exact absurd own far
      | some o =>
        obtain rfl := Option.some.inj ((L.kin a o own).symm.trans L.scr)
        exact .inr ⟨_, us.toArray, _, own, rfl, rfl, rfl, by rw [List.size_toArray, L.nums.length]; exact L.small, by simpa using vals_ints L.nums⟩
/-- an object of another kind stands in the base, too -/
theorem LawStart.hid (L : LawStart K h ts a us ns) {b : Addr} {o : Obj} (e : h.get? b = some o) (n1 : o.data ≠ (scrO us).data) (n2 : o.data ≠ .fields #[]) : (hidT h (lawHp K ts a (scrO us) (ns.map V.int))).get? b = some o := by
  refine hidT_get e ?_
  rcases lawB K ts a (scrO us) (ns.map V.int) b with ⟨m, _⟩ | ⟨_, rfl, _, _⟩ | ⟨_, _, z⟩
  · exact absurd (congrArg Obj.data (Option.some.inj (e.symm.trans (L.tab b m)))) n2
  · exact absurd (congrArg Obj.data (Option.some.inj (e.symm.trans L.scr))) n1
  · exact z
theorem LawStart.hidK (L : LawStart K h ts a us ns) : K.In (hidT h (lawHp K ts a (scrO us) (ns.map V.int))) := fun b o e => by
  refine hidT_get (L.kin b o e) ?_
  rcases lawB K ts a (scrO us) (ns.map V.int) b with ⟨m, _⟩ | ⟨_, rfl, own, _⟩ | ⟨_, _, z⟩
  · rw [L.ntab b m] at e
    cases e
  · rw [own] at e
    cases e
  · exact z
theorem LawStart.hidN (L : LawStart K h ts a us ns) {b : Addr} {m : Str → Option Value} (N : h.Ns b m) : (hidT h (lawHp K ts a (scrO us) (ns.map V.int))).Ns b m := by
  obtain ⟨o, es, ep, e, dd, r⟩ := N
  exact ⟨o, es, ep, L.hid e (fun z => by rw [dd] at z; cases z) (fun z => by rw [dd] at z; cases z), dd, r⟩
/-- the tables' code objects stand in the base -/
theorem LawStart.tabB (L : LawStart K h ts a us ns) {mg : Str → Option Value} {c p : Addr} (m : p ∈ ts) (C : PySem.W.CodeHd h c p) (top : h.Ns mainGlobals mg)
    (bm : ∃ (bm : Addr) (ob : Obj), mg "__builtins__" = some (.ref bm) ∧ bm ≠ builtinsNs ∧ h.get? bm = some ob ∧ ob.cls = .type "module" ∧ ob.dict = some builtinsNs ∧ ob.data = .plain) : TabB (hidT h (lawHp K ts a (scrO us) (ns.map V.int))) mg c p := by
  obtain ⟨q, qo, q1, q2, q3, q4, q5, q6⟩ := bm
  obtain ⟨go, es, ep, g1, g2, _⟩ := top
  obtain ⟨o, vs, file, tf, flags, tg, inF, text, tt, c1, c2, c3, c4, rest⟩ := C
  refine ⟨⟨o, vs, file, tf, flags, tg, inF, text, tt, L.hid c1 (fun z => ?_) (fun z => ?_), c2, c3, c4, rest⟩, ⟨q, qo, q1, q2, fun z => ?_, fun z => ?_, L.hid q3 (fun z => ?_) (fun z => ?_), q4, q5, q6⟩, fun z => ?_⟩
  · rw [c3] at z; cases z
  · rw [c3] at z; cases z; simp at c4
  · rw [z, g1] at q3; cases q3; rw [g2] at q6; cases q6
  · rw [z, L.tab p m] at q3; cases q3; cases q6
  · rw [q6] at z; cases z
  · rw [q6] at z; cases z
  · rw [z, L.tab p m] at g1; cases g1; cases g2
/-- what a run may have changed: the tables alone -/
theorem LawStart.old (L : LawStart K h ts a us ns) (code : ∀ b ∈ ts, ∃ c, PySem.W.CodeHd h c b) {H' : Hp} {h' : Heap} (un : Un [] [] (lawHp K ts a (scrO us) (ns.map V.int)) H' h h') (ok : HOk P w H' h') : OldK h h' := by
  have after : ∀ b o, h.get? b = some o → (b ∉ ts ∧ h'.get? b = some o) ∨ (b ∈ ts ∧ o = PySem.W.tabObj #[] ∧ ∃ more : Array Value, h'.get? b = some (PySem.W.tabObj more)) := fun b o e => by
    rcases lawB K ts a (scrO us) (ns.map V.int) b with ⟨m, z⟩ | ⟨m, rfl, _, z⟩ | ⟨m, _, z⟩
    · obtain ⟨more, g⟩ := un.tbls b #[] z
      rw [Array.empty_append] at g
      exact .inr ⟨m, (Option.some.inj (e.symm.trans (L.tab b m))), more, ok b _ g⟩
    · obtain rfl := Option.some.inj (e.symm.trans L.scr)
      exact .inl ⟨m, (ok b _ (un.frzs b _ _ z)).1⟩
    · exact .inl ⟨m, un.keep b o e z List.not_mem_nil List.not_mem_nil⟩
  refine ⟨fun b o e => ?_, fun b o e => ?_⟩
  · rcases after b o e with ⟨_, r⟩ | ⟨m, rfl, more, r⟩
    · exact .inl r
    · obtain ⟨c, C⟩ := code b m
      exact .inr (.inl ⟨(C.tab (L.tab b m)).isCodeTable, rfl, #[], more, rfl, by rw [Array.empty_append]; exact r⟩)
  · rcases after b o e with ⟨_, r⟩ | ⟨_, _, more, r⟩
    · exact ⟨_, r⟩
    · exact ⟨_, r⟩
end
/-- what is known of a law that may show lists, and makes lambdas -/
def LawAtG (l : PySem.W.OpenLaw) (w : World) (K : PySem.W.Frag) (CX : CXT) (k n : Nat) (x : Str) (mg : Str → Option Value) (fa : Addr) (h : Heap) : Prop :=
  ∃ (fd : FuncData) (cs : List (Addr × Addr)) (sp : Sp), (∀ p ∈ cs, h.get? p.2 = some (PySem.W.tabObj #[]) ∧ K.lookup p.2 = none ∧ PySem.W.CodeHd h p.1 p.2) ∧ (∀ (s : Shared) (u : Value), BindsTo s fd ⟨[u], []⟩ [(x, u)]) ∧
    (∀ (H : Hp) (a : Addr) (ns : List Int), ns.length ≤ n → (∀ p ∈ cs, H p.2 = some (.tbl #[])) → SqL K H a (ns.map V.int) → sp [.ref a] H (fun v _ => v = .bl true) fun _ _ _ => False) ∧
    ∀ base : Heap, K.In base → base.Ns mainGlobals mg → (∀ p ∈ cs, TabB base mg p.1 p.2) → FnG l.prog w K mg base CX k fa fd [x] sp
theorem walkGT {l : PySem.W.OpenLaw} {n k : Nat} {q : Program} {loose : List Str} {XP : (Str → Option Value) → Heap → Prop} {YP : World → Heap → Prop} {d : DefRec} {K : Params → PySem.W.Frag} {CX : World → CXT} {x : Str}
    (most : l.most = some n) (small : n ≤ sizeLine) (nodef : d.params.defaults = []) (room : Room k callerA) (inK : ∀ (w : World) (h : Heap), YP w h → (K w.params).In h)
    (F : ∀ (w : World) (mg : Str → Option Value) (fa : Addr) (h : Heap), YP w h → (K w.params).In h → h.Ns mainGlobals mg → mg d.name = some (.ref fa) → LawAtG l w (K w.params) (CX w) k n x mg fa h)
    (noX : ∀ (w : World) (H : Hp) (s : Shared) (e : Value) (s' : Shared), CX w [] H s (fun _ _ _ => False) e s' → False) : PySem.W.WalkO q loose XP YP l.row.toRowW d [] (fun f vs => PySem.call f vs) := by
  refine Att.attach_call most nodef fun w s0 s1 mg mb fa o pm cd doc a us ns G Y h1 h2 h3 at_ scr isI len gen0 => ?_
  obtain ⟨fd, cs, sp, tabs, bt, want, keep⟩ := F w mg fa _ Y (inK w _ Y) G.T.g at_
  have mem : ∀ p ∈ cs, p.2 ∈ cs.map (·.2) := fun p hp => List.mem_map.mpr ⟨p, hp, rfl⟩
  have back : ∀ b ∈ cs.map (·.2), ∃ p ∈ cs, p.2 = b := fun b hb => List.mem_map.mp hb
  have L : LawStart (K w.params) s1.heap (cs.map (·.2)) a us ns := ⟨inK w _ Y, fun b hb => by obtain ⟨p, hp, rfl⟩ := back b hb; exact (tabs p hp).1, fun b hb => by obtain ⟨p, hp, rfl⟩ := back b hb; exact (tabs p hp).2.1, scr, isI, Nat.le_trans len small⟩
  have TB : ∀ p ∈ cs, TabB (hidT s1.heap (lawHp (K w.params) (cs.map (·.2)) a (scrO us) (ns.map V.int))) mg p.1 p.2 := fun p hp => L.tabB (mem p hp) (tabs p hp).2.2 G.T.g G.T.bmain
  obtain ⟨mc, f1, f2⟩ := G.T.nolimit
  have ev : Env0 l.prog w (K w.params) mg (hidT s1.heap (lawHp (K w.params) (cs.map (·.2)) a (scrO us) (ns.map V.int))) callerA [] s1 (lawHp (K w.params) (cs.map (·.2)) a (scrO us) (ns.map V.int)) :=
    ⟨rfl, ⟨L.hidK, L.hidN G.T.g, ⟨mb, L.hidN G.T.b, G.T.builtins⟩, ⟨mc, L.hidN f1, f2⟩⟩, fun b o e => of_hidT e, Nat.le_of_eq (hidT_size _ _), trivial, fun b hb => absurd (show b ∈ ([] : List Addr) from hb) List.not_mem_nil, L.ok, .of_eq gen0⟩
  have starts := want (lawHp (K w.params) (cs.map (·.2)) a (scrO us) (ns.map V.int)) a ns len (fun p hp => by
    rcases lawB (K w.params) (cs.map (·.2)) a (scrO us) (ns.map V.int) p.2 with ⟨_, z⟩ | ⟨m, _, _, _⟩ | ⟨m, _, _⟩
    · exact z
    · exact absurd (mem p hp) m
    · exact absurd (mem p hp) m) L.seq
  refine codeAny_mono ((keep _ L.hidK (L.hidN G.T.g) TB).go (us := [.ref a]) (vs := [.ref a]) rfl room ev (bt s1 (.ref a)) (.cons rfl .nil) starts) fun r s' res => ?_
  match r, res with
  | .error e, res => exact (noX w _ s1 e s' res).elim
  | .ok .next, res => exact (show False from res).elim
  | .ok .brk, res => exact (show False from res).elim
  | .ok .cont, res => exact (show False from res).elim
  | .ok (.ret u), ⟨v, H', os, bare, un, ok', rv, qq⟩ =>
    obtain rfl : v = .bl true := qq
    obtain rfl : u = Value.bool true := rv
    exact ⟨rfl, L.old (fun b hb => by obtain ⟨p, hp, rfl⟩ := back b hb; exact ⟨_, (tabs p hp).2.2⟩) un ok', os, bare⟩
end L2

/-! what repr can show, part by part -/
namespace L2
open PySem PySem.Spec PyProof.Rows LamX
structure Shw (n k : Nat) (d : PyData) : Prop where
  sh : d.showable = true
  lv : d.leavesShort 24 = true
  dp : d.depth ≤ k
  bk : d.bulk ≤ n
structure Shws (n k : Nat) (ds : List PyData) : Prop where
  sh : PyData.showableAll ds = true
  lv : PyData.leavesShortAll 24 ds = true
  dp : PyData.depthAll ds ≤ k
  bk : PyData.bulkAll ds ≤ n
theorem Shw.mono {n k n2 k2 : Nat} {d : PyData} (h : Shw n k d) (a : n ≤ n2) (b : k ≤ k2) : Shw n2 k2 d := ⟨h.sh, h.lv, Nat.le_trans h.dp b, Nat.le_trans h.bk a⟩
theorem Shws.mono {n k n2 k2 : Nat} {d : List PyData} (h : Shws n k d) (a : n ≤ n2) (b : k ≤ k2) : Shws n2 k2 d := ⟨h.sh, h.lv, Nat.le_trans h.dp b, Nat.le_trans h.bk a⟩
theorem Shws.nil : Shws 0 0 [] := ⟨rfl, rfl, Nat.le_refl _, Nat.le_refl _⟩
theorem Shws.cons {n m k : Nat} {d : PyData} {ds : List PyData} (h : Shw n k d) (t : Shws m k ds) : Shws (n + 1 + m) k (d :: ds) := by
  refine ⟨?_, ?_, ?_, ?_⟩
  · show (d.showable && PyData.showableAll ds) = true
    rw [h.sh, t.sh]
    rfl
  · show (d.leavesShort 24 && PyData.leavesShortAll 24 ds) = true
    rw [h.lv, t.lv]
    rfl
  · exact Nat.max_le.mpr ⟨h.dp, t.dp⟩
  · have := h.bk
    have := t.bk
    show d.bulk + 1 + PyData.bulkAll ds ≤ _
    omega
theorem Shws.app {n m k : Nat} : ∀ {xs ys : List PyData}, Shws n k xs → Shws m k ys → Shws (n + m) k (xs ++ ys)
  | [], ys, _, t => t.mono (Nat.le_add_left _ _) (Nat.le_refl _)
  | x :: xs, ys, h, t => by
    have s1 : (x.showable && PyData.showableAll xs) = true := h.sh
    have s2 : (x.leavesShort 24 && PyData.leavesShortAll 24 xs) = true := h.lv
    obtain ⟨a1, a2⟩ := Bool.and_eq_true_iff.mp s1
    obtain ⟨b1, b2⟩ := Bool.and_eq_true_iff.mp s2
    have d0 : max x.depth (PyData.depthAll xs) ≤ k := h.dp
    have c0 : x.bulk + 1 + PyData.bulkAll xs ≤ n := h.bk
    have r := Shws.cons (n := x.bulk) ⟨a1, b1, Nat.le_trans (Nat.le_max_left _ _) d0, Nat.le_refl _⟩ (Shws.app (n := PyData.bulkAll xs) ⟨a2, b2, Nat.le_trans (Nat.le_max_right _ _) d0, Nat.le_refl _⟩ t)
    exact r.mono (by omega) (Nat.le_refl _)
theorem Shw.int {i : Int} (h : i.natAbs < 10 ^ 23) : Shw 0 0 (.int i) := by
  refine ⟨?_, ?_, Nat.le_refl _, Nat.le_refl _⟩
  · simp only [PyData.showable, decide_eq_true_eq]
    by_cases z : i.natAbs = 0
    · rw [z]
      decide
    · exact (Nat.log2_lt z).mpr (Nat.lt_trans h (Nat.lt_of_lt_of_le (by decide : (10 : Nat) ^ 23 < 2 ^ 80) (Nat.pow_le_pow_right (by decide) (by decide))))
  · simp only [PyData.leavesShort, decide_eq_true_eq]
    have e := int_text_length_le10 (k := 23) (by decide) h
    show (Str.ofString (toString i)).length ≤ 24
    rw [PySem.ofString_length]
    exact e
theorem Shw.non : Shw 0 0 .none := ⟨rfl, rfl, Nat.le_refl _, Nat.le_refl _⟩
theorem Shw.bl (b : Bool) : Shw 0 0 (.bool b) := ⟨rfl, rfl, Nat.le_refl _, Nat.le_refl _⟩
theorem Shws.ints : ∀ {ns : List Int}, (∀ z ∈ ns, z.natAbs < 10 ^ 23) → Shws ns.length 0 (ns.map PyData.int)
  | [], _ => Shws.nil
  | z :: ns, h => by
    have r := Shws.cons (Shw.int (h z List.mem_cons_self)) (Shws.ints fun y hy => h y (List.mem_cons_of_mem _ hy))
    exact r.mono (by rw [List.length_cons]; omega) (Nat.le_refl _)
theorem Shws.lst {n k : Nat} {ds : List PyData} (h : Shws n k ds) : Shw n (k + 1) (.list ds) := ⟨h.sh, h.lv, Nat.succ_le_succ h.dp, h.bk⟩
theorem Shws.tup {n k : Nat} {ds : List PyData} (h : Shws n k ds) : Shw n (k + 1) (.tuple ds) := ⟨h.sh, h.lv, Nat.succ_le_succ h.dp, h.bk⟩
theorem Shw.fits {n k : Nat} {d : PyData} (h : Shw n k d) (hn : n ≤ 2 ^ 19) : d.shown.length ≤ sizeLine := by
  have h1 := PyData.shown_le_bulk 24 (by decide) d h.lv
  have e : (2 : Nat) ^ 19 = 524288 := by decide
  have h2 : (24 + 2) * d.bulk ≤ 26 * 524288 := Nat.mul_le_mul (by omega) (by have := h.bk; omega)
  rw [sizeLine_eq]
  omega
/-- items that stand for data -/
def ShDs (K : PySem.W.Frag) (H : Hp) (xs : List V) (ds : List PyData) : Prop := xs.length = ds.length ∧ ∀ (i : Nat) (v : V) (d : PyData), xs[i]? = some v → ds[i]? = some d → ShD K H v d
section
variable {K : PySem.W.Frag} {H : Hp}
theorem ShDs.nil : ShDs K H [] [] := ⟨rfl, fun i v d h => by simp at h⟩
theorem ShDs.cons {v : V} {d : PyData} {xs : List V} {ds : List PyData} (h : ShD K H v d) (t : ShDs K H xs ds) : ShDs K H (v :: xs) (d :: ds) := by
  refine ⟨by rw [List.length_cons, List.length_cons, t.1], fun i u e h1 h2 => ?_⟩
  cases i with
  | zero =>
    cases h1
    cases h2
    exact h
  | succ i => exact t.2 i u e h1 h2
theorem ShDs.app : ∀ {xs ys : List V} {ds es : List PyData}, ShDs K H xs ds → ShDs K H ys es → ShDs K H (xs ++ ys) (ds ++ es)
  | [], ys, [], es, _, t => t
  | x :: xs, ys, d :: ds, es, h, t => by
    refine ShDs.cons (h.2 0 x d rfl rfl) (ShDs.app ⟨Nat.succ.inj h.1, fun i u e h1 h2 => h.2 (i + 1) u e h1 h2⟩ t)
  | [], _, _ :: _, _, h, _ => nomatch h.1
  | _ :: _, _, [], _, h, _ => nomatch h.1
theorem ShDs.ints : ∀ (ns : List Int), ShDs K H (ns.map V.int) (ns.map PyData.int)
  | [] => ShDs.nil
  | z :: ns => ShDs.cons (.flat (.int z) rfl) (ShDs.ints ns)
theorem ShDs.lst {a : Addr} {xs : List V} {ds : List PyData} (h : SqL K H a xs) (t : ShDs K H xs ds) : ShD K H (.ref a) (.list ds) := .lst h t.1 t.2
theorem ShDs.tup {a : Addr} {xs : List V} {ds : List PyData} (h : SqT K H a xs) (t : ShDs K H xs ds) : ShD K H (.ref a) (.tuple ds) := .tup h t.1 t.2
end
end L2

/-! a comprehension of draws, each with a property -/
namespace L2
open PySem PySem.Spec PyProof.Rows
theorem lc_intsP {te : TE} {σ : L2.St} {H1 : Hp} {D p : Addr} {n j : Nat} {vs : List Nat} {Qd : Hp → Prop} (Pr : Int → Prop) (hn : n ≤ 1000000) (hs : Src H1 p) (hD : H1 D = none)
    (hw : ∀ v, wipe ((wipe σ vs).set j v) vs = wipe σ vs)
    (he : ∀ (k : Nat) (H3 : Hp) (R : VK), k < n → Dn p H1 H3 → (∀ (v : Int) (H4 : Hp), Pr v → Dn p H3 H4 → R (.int v) H4) → te ((wipe σ vs).set j (some (.int (0 + (k : Nat))))) H3 R)
    (hd : ∀ (ms : List Int) (H' : Hp), ms.length = n → (∀ v ∈ ms, Pr v) → Dn p H1 H' → H' D = some (.lst (ms.map V.int)) → Qd H') :
    ∃ W : Nat → Nat → Hp → Prop, (∃ m, W 0 m (L2.upd H1 D (.lst []))) ∧ ∀ i m H, W i m H →
      ((Itr 0 n).stop i H ∧ Qd H) ∨ ((Itr 0 n).go i H ∧ ∃ Nx : Hp → Prop, (∀ H', Nx H' → ∃ m', m' < m ∧ W (i + 1) m' H') ∧ ∀ x H', (Itr 0 n).yld i H x H' → gName j x (wipe σ vs) H' fun σ2 H2 => wipe σ2 vs = wipe σ vs ∧ tYes σ2 H2 fun b H3 =>
        if b = true then te σ2 H3 fun y H4 => ∃ acc, H4 D = some (.lst acc) ∧ acc.length < sizeLine ∧ Nx (L2.upd H4 D (.lst (acc ++ [y]))) else Nx H3) := by
  have nD : D ≠ p := hs.ne hD
  refine lc_range (lo := 0) (n := n) (fun i H => ∃ ms : List Int, ms.length = i ∧ (∀ v ∈ ms, Pr v) ∧ Dn p H1 H ∧ H D = some (.lst (ms.map V.int))) ⟨[], rfl, fun v h => by simp at h, (Dn.refl hs).new hD, upd_same⟩ ?_ ?_
  · rintro i H hi ⟨ms, hl, hp, dr, hh⟩
    refine ⟨hw _, ?_⟩
    refine he i H _ hi dr fun v H4 pv d4 => ?_
    have h4 := d4.1 _ _ nD hh
    refine ⟨_, h4, ?_, ms ++ [v], by simp [hl], fun z hz => ?_, ?_, ?_⟩
    · rw [List.length_map, hl]
      exact Nat.lt_of_le_of_lt (Nat.le_trans (Nat.le_of_lt hi) hn) (by decide)
    · rcases List.mem_append.mp hz with h | h
      · exact hp z h
      · rw [List.mem_singleton.mp h]
        exact pv
    · have dd := dr.trans d4
      refine ⟨fun b o nb e => ?_, dd.2.upd nD⟩
      rw [upd_ne (ne_of_none e hD)]
      exact dd.1 b o nb e
    · rw [show (ms ++ [v]).map V.int = ms.map V.int ++ [V.int v] from by simp]
      exact upd_same
  · rintro H ⟨ms, hl, hp, dr, hh⟩
    exact hd ms H hl hp dr hh
/-- tuple(x), whatever the frame is -/
def rTupOf (K : PySem.W.Frag) : List V → Hp → VK → Prop := fun xs H Q => ∃ p ys, xs = [V.ref p] ∧ ((SqL K H p ys ∧ ∀ l, H l = none → Q (.ref l) (upd H l (.tup ys))) ∨ (SqT K H p ys ∧ Q (.ref p) H))
theorem seqN {K : PySem.W.Frag} {H H' : Hp} {a : Addr} {xs : List V} (e : LamX.ExtN H H') (h : SqL K H a xs) : SqL K H' a xs := by
  rcases h with (h | ⟨o, h⟩) | h
  · exact .inl (.inl (e _ _ h fun ps z => by cases z))
  · exact .inl (.inr ⟨o, e _ _ h fun ps z => by cases z⟩)
  · exact .inr h
theorem lc_boolsD {te : TE} {σ : L2.St} {H1 : Hp} {D p : Addr} {n j : Nat} {vs : List Nat} {Qd : Hp → Prop} (hn : n ≤ 1000000) (hs : Src H1 p) (hD : H1 D = none)
    (hw : ∀ v, wipe ((wipe σ vs).set j v) vs = wipe σ vs)
    (he : ∀ (k : Nat) (H3 : Hp) (R : VK), k < n → Dn p H1 H3 → (∀ (v : Bool) (H4 : Hp), Dn p H3 H4 → R (.bl v) H4) → te ((wipe σ vs).set j (some (.int (0 + (k : Nat))))) H3 R)
    (hd : ∀ (ms : List Bool) (H' : Hp), ms.length = n → Dn p H1 H' → H' D = some (.lst (ms.map V.bl)) → Qd H') :
    ∃ W : Nat → Nat → Hp → Prop, (∃ m, W 0 m (L2.upd H1 D (.lst []))) ∧ ∀ i m H, W i m H →
      ((Itr 0 n).stop i H ∧ Qd H) ∨ ((Itr 0 n).go i H ∧ ∃ Nx : Hp → Prop, (∀ H', Nx H' → ∃ m', m' < m ∧ W (i + 1) m' H') ∧ ∀ x H', (Itr 0 n).yld i H x H' → gName j x (wipe σ vs) H' fun σ2 H2 => wipe σ2 vs = wipe σ vs ∧ tYes σ2 H2 fun b H3 =>
        if b = true then te σ2 H3 fun y H4 => ∃ acc, H4 D = some (.lst acc) ∧ acc.length < sizeLine ∧ Nx (L2.upd H4 D (.lst (acc ++ [y]))) else Nx H3) := by
  have nD : D ≠ p := hs.ne hD
  refine lc_range (lo := 0) (n := n) (fun i H => ∃ ms : List Bool, ms.length = i ∧ Dn p H1 H ∧ H D = some (.lst (ms.map V.bl))) ⟨[], rfl, (Dn.refl hs).new hD, upd_same⟩ ?_ ?_
  · rintro i H hi ⟨ms, hl, dr, hh⟩
    refine ⟨hw _, ?_⟩
    refine he i H _ hi dr fun v H4 d4 => ?_
    have h4 := d4.1 _ _ nD hh
    refine ⟨_, h4, ?_, ms ++ [v], by simp [hl], ?_, ?_⟩
    · rw [List.length_map, hl]
      exact Nat.lt_of_le_of_lt (Nat.le_trans (Nat.le_of_lt hi) hn) (by decide)
    · have dd := dr.trans d4
      refine ⟨fun b o nb e => ?_, dd.2.upd nD⟩
      rw [upd_ne (ne_of_none e hD)]
      exact dd.1 b o nb e
    · rw [show (ms ++ [v]).map V.bl = ms.map V.bl ++ [V.bl v] from by simp]
      exact upd_same
  · rintro H ⟨ms, hl, dr, hh⟩
    exact hd ms H hl dr hh
end L2

/-! a, b, .. = a list of that length -/
namespace L2
open PySem PySem.Spec PyProof.Rows
section
variable {prog : Program} {w : World} {A : Around} {E : Value → Shared → Prop} {s : Shared}
theorem draw_list {it l : Addr} {items : Array Value} (hne : l ≠ it) : ∀ (n i : Nat) (s : Shared) (Q : List Value → Shared → Prop), s.heap.IsListIter it l i → s.heap.IsList l items → i + n ≤ items.size →
    (∀ h', h'.IsListIter it l (i + n) → Heap.SameBut it s.heap h' → Q ((items.toList.drop i).take n) { s with heap := h' }) → wpAny (model prog w) A (draw (.ref it) n) Q E s
  | 0, i, s, Q, hit, _, _, hQ => by
    show wpAny _ _ (pure []) Q E s
    have q := hQ s.heap hit (Heap.SameBut.refl ..)
    rw [List.take_zero] at q
    exact wpAny_pure q
  | n + 1, i, s, Q, hit, hl, hle, hQ => by
    have hlt : i < items.size := by omega
    show wpAny _ _ (pyNext (.ref it) >>= _) Q E s
    refine wpAny_bind (wpAny_pyNext_list_item hit hl (x := items[i]) (Array.getElem?_eq_getElem hlt) fun h1 hit1 hs1 => ?_)
    refine wpAny_bind (wpAny_holding (draw_list hne n (i + 1) _ _ hit1 (hl.extBut hs1.extBut hne) (by omega) fun h2 hit2 hs2 => wpAny_pure ?_))
    have hd : items.toList.drop i = items[i] :: items.toList.drop (i + 1) := by
      rw [List.drop_eq_getElem_cons (by rw [Array.length_toList]; exact hlt)]
      rfl
    have q := hQ h2 (by rw [show i + (n + 1) = i + 1 + n by omega]; exact hit2) (hs1.trans hs2)
    rw [hd, List.take_succ_cons] at q
    exact q
theorem unpackItems_list {l : Addr} {items : Array Value} {Q : List Value → Shared → Prop} (hh : A.handled = none) (hl : s.heap.IsList l items)
    (hQ : ∀ h', Heap.ExtBut s.heap.objs.size s.heap h' → Q items.toList { s with heap := h' }) : wpAny (model prog w) A (unpackItems (.ref l) items.size none) Q E s := by
  have hlt : l ≠ s.heap.objs.size := by
    obtain ⟨o, ho, _⟩ := hl
    exact Nat.ne_of_lt (Heap.lt_size ho)
  unfold unpackItems
  refine wpAny_bind ?_
  unfold notIterableAtAll
  refine wpAny_bind (wpAny_specialOf hl.typeIs slot_list_iter.lookup ?_)
  refine wpAny_pure ?_
  simp only [Bool.false_eq_true, if_false]
  refine wpAny_bind (wpAny_holding (wpAny_pyIter_list hl ?_))
  refine wpAny_bind (wpAny_holding (draw_list hlt items.size 0 _ _ ⟨_, Heap.get?_push_size _ rfl, rfl, rfl⟩ (hl.push _) (by omega) fun h1 hit1 hs1 => ?_))
  have hall : List.take items.size (List.drop 0 items.toList) = items.toList := by
    rw [List.drop_zero]
    exact List.take_of_length_le (by rw [Array.length_toList]; exact Nat.le_refl _)
  rw [hall]
  rw [if_neg (by simp)]
  have hl1 : h1.IsList l items := (hl.push _).extBut hs1.extBut hlt
  refine wpAny_bind (wpAny_holding (wpAny_pyNext_list_end hh hit1 hl1 (by simp) fun h2 he2 => ?_))
  simp only [Option.isSome_none, Bool.false_eq_true, if_false]
  exact wpAny_pure (hQ h2 fun b o hb e => he2 b o hb (hs1.extBut b o hb (Heap.get?_push_of_some _ e)))
theorem assign_Tuple_list {env : Env} {elts : List Expr} {x1} {pos : Pos} {l : Addr} {items : Array Value} {Q : Unit → Shared → Prop} (hh : A.handled = none) (hl : s.heap.IsList l items)
    (hn : (assignEach elts env).length = items.size) (hstar : (assignEach elts env).findIdx? (·.1) = none)
    (h : ∀ h', Heap.ExtBut s.heap.objs.size s.heap h' → wpAny (model prog w) A (assignInOrder ((assignEach elts env).map (·.2)) items.toList) Q E { s with heap := h' }) :
    wpAny (model prog w) A (assign (.Tuple elts x1 pos) env (.ref l)) Q E s := by
  rw [arm_assign_Tuple]
  refine wpAny_bind (wpAny_standAt ?_)
  unfold unpack
  rw [hn, hstar]
  exact wpAny_bind (wpAny_holding (unpackItems_list hh hl h))
end
/-- (a, b, ..) = a list of that length -/
def gTupL (K : PySem.W.Frag) (n : Nat) (t : TGs) : TG := fun v σ H Q => ∃ a xs, v = .ref a ∧ SqL K H a xs ∧ xs.length = n ∧ t xs σ H Q
theorem pg_tupL {X : Cx} {pos : Pos} {es : List Expr} {k : Nat} {t : TGs} {n : Nat} (hc : X.calm = true) (h : PGs X es t)
    (hn : (assignEach es X.env).length = n := by rfl) (hst : (assignEach es X.env).findIdx? (·.1) = none := by rfl) : PG X (.Tuple es k pos) (gTupL X.K n t) := by
  refine ⟨fun pins s σ H v u Q I r hw => ?_⟩
  obtain ⟨a, xs, e1, hq, hl, hw⟩ := hw
  subst e1
  cases r
  obtain ⟨its, rv, ht, hz⟩ := I.list hq
  refine assign_Tuple_list (I.ok.hd hc) ht.isList (by simp [hn, ← hl, rv.length]) hst fun h' hx => ?_
  have I1 : Inv X pins σ H { s with heap := h' } := I.kept (t' := s.toks) fun b o e => hx b o (Nat.ne_of_lt (Heap.lt_size e)) e
  exact h.run pins _ σ H xs _ Q I1 (by simpa using rv) hw
end L2

namespace K04
open PySem PySem.Spec PyProof.Rows L2 
def topS (i : Nat) : Stmt := PySem.Challenge.pw_askedorder_k04_refused_keys_and_orders.main.body.getD i (.Pass ⟨0, 0, 0, 0⟩)
abbrev s_InvalidKeys___init__ : Stmt := inClass (topS 2) 0
abbrev N_InvalidKeys___init__ : List Str := ["self", "index"]
abbrev P_InvalidKeys___init__ : List Str := ["self", "index"]
theorem sc_InvalidKeys___init__ : FnScope N_InvalidKeys___init__ P_InvalidKeys___init__ (defScope s_InvalidKeys___init__) := ⟨rfl, rfl, rfl, by decide +kernel, rfl, by decide +kernel, by decide +kernel⟩
abbrev s_InvalidQuestion___init__ : Stmt := inClass (topS 3) 0
abbrev N_InvalidQuestion___init__ : List Str := ["self", "question"]
abbrev P_InvalidQuestion___init__ : List Str := ["self", "question"]
theorem sc_InvalidQuestion___init__ : FnScope N_InvalidQuestion___init__ P_InvalidQuestion___init__ (defScope s_InvalidQuestion___init__) := ⟨rfl, rfl, rfl, by decide +kernel, rfl, by decide +kernel, by decide +kernel⟩
abbrev s_InvalidOrder___init__ : Stmt := inClass (topS 4) 0
abbrev N_InvalidOrder___init__ : List Str := ["self", "index"]
abbrev P_InvalidOrder___init__ : List Str := ["self", "index"]
theorem sc_InvalidOrder___init__ : FnScope N_InvalidOrder___init__ P_InvalidOrder___init__ (defScope s_InvalidOrder___init__) := ⟨rfl, rfl, rfl, by decide +kernel, rfl, by decide +kernel, by decide +kernel⟩
abbrev s_InvalidNumber___init__ : Stmt := inClass (topS 5) 0
abbrev N_InvalidNumber___init__ : List Str := ["self", "name"]
abbrev P_InvalidNumber___init__ : List Str := ["self", "name"]
theorem sc_InvalidNumber___init__ : FnScope N_InvalidNumber___init__ P_InvalidNumber___init__ (defScope s_InvalidNumber___init__) := ⟨rfl, rfl, rfl, by decide +kernel, rfl, by decide +kernel, by decide +kernel⟩
abbrev s_is_integer : Stmt := topS 8
abbrev N_is_integer : List Str := ["value"]
abbrev P_is_integer : List Str := ["value"]
theorem sc_is_integer : FnScope N_is_integer P_is_integer (defScope s_is_integer) := ⟨rfl, rfl, rfl, by decide +kernel, rfl, by decide +kernel, by decide +kernel⟩
abbrev s_is_within : Stmt := topS 9
abbrev N_is_within : List Str := ["value", "least", "most"]
abbrev P_is_within : List Str := ["value", "least", "most"]
theorem sc_is_within : FnScope N_is_within P_is_within (defScope s_is_within) := ⟨rfl, rfl, rfl, by decide +kernel, rfl, by decide +kernel, by decide +kernel⟩
abbrev s_is_item : Stmt := topS 10
abbrev N_is_item : List Str := ["value", "many"]
abbrev P_is_item : List Str := ["value", "many"]
theorem sc_is_item : FnScope N_is_item P_is_item (defScope s_is_item) := ⟨rfl, rfl, rfl, by decide +kernel, rfl, by decide +kernel, by decide +kernel⟩
abbrev s_check_keys : Stmt := topS 11
abbrev N_check_keys : List Str := ["keys", "fewest", "most", "index", "key"]
abbrev P_check_keys : List Str := ["keys", "fewest", "most"]
theorem sc_check_keys : FnScope N_check_keys P_check_keys (defScope s_check_keys) := ⟨rfl, rfl, rfl, by decide +kernel, rfl, by decide +kernel, by decide +kernel⟩
abbrev s_is_question : Stmt := topS 12
abbrev N_is_question : List Str := ["value", "many", "one", "other"]
abbrev P_is_question : List Str := ["value", "many"]
theorem sc_is_question : FnScope N_is_question P_is_question (defScope s_is_question) := ⟨rfl, rfl, rfl, by decide +kernel, rfl, by decide +kernel, by decide +kernel⟩
abbrev s_check_question : Stmt := topS 13
abbrev N_check_question : List Str := ["question", "many"]
abbrev P_check_question : List Str := ["question", "many"]
theorem sc_check_question : FnScope N_check_question P_check_question (defScope s_check_question) := ⟨rfl, rfl, rfl, by decide +kernel, rfl, by decide +kernel, by decide +kernel⟩
abbrev s_check_order : Stmt := topS 14
abbrev N_check_order : List Str := ["order", "many", "seen", "index", "item"]
abbrev P_check_order : List Str := ["order", "many"]
theorem sc_check_order : FnScope N_check_order P_check_order (defScope s_check_order) := ⟨rfl, rfl, rfl, by decide +kernel, rfl, by decide +kernel, by decide +kernel⟩
abbrev s_check_bool : Stmt := topS 15
abbrev N_check_bool : List Str := ["name", "value"]
abbrev P_check_bool : List Str := ["name", "value"]
theorem sc_check_bool : FnScope N_check_bool P_check_bool (defScope s_check_bool) := ⟨rfl, rfl, rfl, by decide +kernel, rfl, by decide +kernel, by decide +kernel⟩
abbrev s_honest : Stmt := topS 17
abbrev N_honest : List Str := ["keys", "question", "one", "other"]
abbrev P_honest : List Str := ["keys", "question"]
theorem sc_honest : FnScope N_honest P_honest (defScope s_honest) := ⟨rfl, rfl, rfl, by decide +kernel, rfl, by decide +kernel, by decide +kernel⟩
abbrev s_stable_order : Stmt := topS 18
abbrev N_stable_order : List Str := ["keys", "reverse"]
abbrev P_stable_order : List Str := ["keys", "reverse"]
theorem sc_stable_order : FnScope N_stable_order P_stable_order (defScope s_stable_order) := ⟨rfl, rfl, rfl, by decide +kernel, rfl, by decide +kernel, by decide +kernel⟩
abbrev s_is_order : Stmt := topS 19
abbrev N_is_order : List Str := ["keys", "order", "reverse"]
abbrev P_is_order : List Str := ["keys", "order", "reverse"]
theorem sc_is_order : FnScope N_is_order P_is_order (defScope s_is_order) := ⟨rfl, rfl, rfl, by decide +kernel, rfl, by decide +kernel, by decide +kernel⟩
abbrev s_stable : Stmt := topS 20
abbrev N_stable : List Str := ["keys", "reverse", "sign", "pairs", "item", "key", "_"]
abbrev P_stable : List Str := ["keys", "reverse"]
theorem sc_stable : FnScope N_stable P_stable (defScope s_stable) := ⟨rfl, rfl, rfl, by decide +kernel, rfl, by decide +kernel, by decide +kernel⟩
abbrev s_mixed : Stmt := topS 22
abbrev N_mixed : List Str := ["cell", "draw", "figure"]
abbrev P_mixed : List Str := ["cell", "draw"]
theorem sc_mixed : FnScope N_mixed P_mixed (defScope s_mixed) := ⟨rfl, rfl, rfl, by decide +kernel, rfl, by decide +kernel, by decide +kernel⟩
abbrev s_source : Stmt := topS 23
abbrev N_source : List Str := ["cell"]
abbrev P_source : List Str := ["cell"]
theorem sc_source : FnScope N_source P_source (defScope s_source) := ⟨rfl, rfl, rfl, by decide +kernel, rfl, by decide +kernel, by decide +kernel⟩
abbrev s_take : Stmt := topS 24
abbrev N_take : List Str := ["source", "bound", "drawn"]
abbrev P_take : List Str := ["source", "bound"]
theorem sc_take : FnScope N_take P_take (defScope s_take) := ⟨rfl, rfl, rfl, by decide +kernel, rfl, by decide +kernel, by decide +kernel⟩
abbrev s_pick : Stmt := topS 25
abbrev N_pick : List Str := ["source", "some"]
abbrev P_pick : List Str := ["source", "some"]
theorem sc_pick : FnScope N_pick P_pick (defScope s_pick) := ⟨rfl, rfl, rfl, by decide +kernel, rfl, by decide +kernel, by decide +kernel⟩
abbrev s_said : Stmt := topS 26
abbrev N_said : List Str := ["ask", "error"]
abbrev P_said : List Str := ["ask"]
theorem sc_said : FnScope N_said P_said (defScope s_said) := ⟨rfl, rfl, rfl, by decide +kernel, rfl, by decide +kernel, by decide +kernel⟩
abbrev s_bad_keys : Stmt := topS 27
abbrev N_bad_keys : List Str := ["source", "marks", "at", "odd", "found"]
abbrev P_bad_keys : List Str := ["source", "marks"]
theorem sc_bad_keys : FnScope N_bad_keys P_bad_keys (defScope s_bad_keys) := ⟨rfl, rfl, rfl, by decide +kernel, rfl, by decide +kernel, by decide +kernel⟩
abbrev s_bad_order : Stmt := topS 28
abbrev N_bad_order : List Str := ["source", "order", "many", "at", "odd", "found", "again", "one"]
abbrev P_bad_order : List Str := ["source", "order"]
theorem sc_bad_order : FnScope N_bad_order P_bad_order (defScope s_bad_order) := ⟨rfl, rfl, rfl, by decide +kernel, rfl, by decide +kernel, by decide +kernel⟩
abbrev s_law : Stmt := topS 29
abbrev N_law : List Str := ["script", "cell", "source", "marks", "k", "bad", "at", "asks", "ask", "odd", "order", "place", "saved", "heard", "bound"]
abbrev P_law : List Str := ["script"]
theorem sc_law : FnScope N_law P_law (defScope s_law) := ⟨rfl, rfl, rfl, by decide +kernel, rfl, by decide +kernel, by decide +kernel⟩
def kg_is_order_2_reverse {α : Type} : List α → List α → List α
  | [a, b], [c] => [a, b, c]
  | _, _ => []
theorem kg_vals_is_order_2_reverse : ∀ {vs zs : List V} {us ws : List Value}, Vals vs us → Vals zs ws → Vals (kg_is_order_2_reverse vs zs) (kg_is_order_2_reverse us ws)
  | _, _, _, _, .cons r_a (.cons r_b .nil), .cons r_c .nil => .cons r_a (.cons r_b (.cons r_c .nil))
  | _, _, _, _, .nil, _ => .nil
  | _, _, _, _, .cons _ .nil, _ => .nil
  | _, _, _, _, .cons _ (.cons _ (.cons _ _)), _ => .nil
  | _, _, _, _, .cons _ (.cons _ .nil), .nil => .nil
  | _, _, _, _, .cons _ (.cons _ .nil), .cons _ (.cons _ _) => .nil
def kg_stable_order_1_reverse {α : Type} : List α → List α → List α
  | [a], [b] => [a, b]
  | _, _ => []
theorem kg_vals_stable_order_1_reverse : ∀ {vs zs : List V} {us ws : List Value}, Vals vs us → Vals zs ws → Vals (kg_stable_order_1_reverse vs zs) (kg_stable_order_1_reverse us ws)
  | _, _, _, _, .cons r_a .nil, .cons r_b .nil => .cons r_a (.cons r_b .nil)
  | _, _, _, _, .nil, _ => .nil
  | _, _, _, _, .cons _ (.cons _ _), _ => .nil
  | _, _, _, _, .cons _ .nil, .nil => .nil
  | _, _, _, _, .cons _ .nil, .cons _ (.cons _ _) => .nil
def lq_law : Str := "law.<locals>.<lambda>"
structure Ad where
  (lc_law lp_law : Addr) (InvalidKeys___init__ : Addr) (InvalidQuestion___init__ : Addr) (InvalidOrder___init__ : Addr) (InvalidNumber___init__ : Addr) (is_integer : Addr) (is_within : Addr) (is_item : Addr) (check_keys : Addr) (is_question : Addr) (check_question : Addr) (check_order : Addr) (check_bool : Addr) (honest : Addr) (stable_order : Addr) (is_order : Addr) (stable : Addr) (mixed : Addr) (source : Addr) (take : Addr) (pick : Addr) (said : Addr) (bad_keys : Addr) (bad_order : Addr) (law : Addr) (c_InvalidKeys : Addr) (c_InvalidQuestion : Addr) (c_InvalidOrder : Addr) (c_InvalidNumber : Addr) (c_SortError : Addr)
def LT (a : Ad) : List (Addr × Str) := [(a.lp_law, lq_law)]
structure Fd where
  (InvalidKeys___init__ : FuncData) (InvalidQuestion___init__ : FuncData) (InvalidOrder___init__ : FuncData) (InvalidNumber___init__ : FuncData) (is_integer : FuncData) (is_within : FuncData) (is_item : FuncData) (check_keys : FuncData) (is_question : FuncData) (check_question : FuncData) (check_order : FuncData) (check_bool : FuncData) (honest : FuncData) (stable_order : FuncData) (is_order : FuncData) (stable : FuncData) (mixed : FuncData) (source : FuncData) (take : FuncData) (pick : FuncData) (said : FuncData) (bad_keys : FuncData) (bad_order : FuncData) (law : FuncData)
/-- what the top has written -/
structure Txt (K : PySem.W.Frag) (mg : Str → Option Value) (a : Ad) (d : Fd) : Prop where
  f_InvalidKeys___init__ : Fun K "__init__" "InvalidKeys.__init__" s_InvalidKeys___init__ a.InvalidKeys___init__ d.InvalidKeys___init__
  b_InvalidKeys___init__ : Binds K d.InvalidKeys___init__ P_InvalidKeys___init__ []
  f_InvalidQuestion___init__ : Fun K "__init__" "InvalidQuestion.__init__" s_InvalidQuestion___init__ a.InvalidQuestion___init__ d.InvalidQuestion___init__
  b_InvalidQuestion___init__ : Binds K d.InvalidQuestion___init__ P_InvalidQuestion___init__ []
  f_InvalidOrder___init__ : Fun K "__init__" "InvalidOrder.__init__" s_InvalidOrder___init__ a.InvalidOrder___init__ d.InvalidOrder___init__
  b_InvalidOrder___init__ : Binds K d.InvalidOrder___init__ P_InvalidOrder___init__ []
  f_InvalidNumber___init__ : Fun K "__init__" "InvalidNumber.__init__" s_InvalidNumber___init__ a.InvalidNumber___init__ d.InvalidNumber___init__
  b_InvalidNumber___init__ : Binds K d.InvalidNumber___init__ P_InvalidNumber___init__ []
  g_is_integer : mg "is_integer" = some (.ref a.is_integer)
  k_is_integer : PySem.W.keepIn K (.ref a.is_integer) = true
  f_is_integer : Fun K "is_integer" "is_integer" s_is_integer a.is_integer d.is_integer
  b_is_integer : Binds K d.is_integer P_is_integer []
  g_is_within : mg "is_within" = some (.ref a.is_within)
  k_is_within : PySem.W.keepIn K (.ref a.is_within) = true
  f_is_within : Fun K "is_within" "is_within" s_is_within a.is_within d.is_within
  b_is_within : Binds K d.is_within P_is_within []
  g_is_item : mg "is_item" = some (.ref a.is_item)
  k_is_item : PySem.W.keepIn K (.ref a.is_item) = true
  f_is_item : Fun K "is_item" "is_item" s_is_item a.is_item d.is_item
  b_is_item : Binds K d.is_item P_is_item []
  g_check_keys : mg "check_keys" = some (.ref a.check_keys)
  k_check_keys : PySem.W.keepIn K (.ref a.check_keys) = true
  f_check_keys : FunV K "check_keys" "check_keys" s_check_keys a.check_keys d.check_keys
  b_check_keys_2 : ∃ ds, Vals [.int 0, .int 2000] ds ∧ Binds K d.check_keys P_check_keys ds
  b_check_keys : Binds K d.check_keys P_check_keys []
  g_is_question : mg "is_question" = some (.ref a.is_question)
  k_is_question : PySem.W.keepIn K (.ref a.is_question) = true
  f_is_question : Fun K "is_question" "is_question" s_is_question a.is_question d.is_question
  b_is_question : Binds K d.is_question P_is_question []
  g_check_question : mg "check_question" = some (.ref a.check_question)
  k_check_question : PySem.W.keepIn K (.ref a.check_question) = true
  f_check_question : Fun K "check_question" "check_question" s_check_question a.check_question d.check_question
  b_check_question : Binds K d.check_question P_check_question []
  g_check_order : mg "check_order" = some (.ref a.check_order)
  k_check_order : PySem.W.keepIn K (.ref a.check_order) = true
  f_check_order : Fun K "check_order" "check_order" s_check_order a.check_order d.check_order
  b_check_order : Binds K d.check_order P_check_order []
  g_check_bool : mg "check_bool" = some (.ref a.check_bool)
  k_check_bool : PySem.W.keepIn K (.ref a.check_bool) = true
  f_check_bool : Fun K "check_bool" "check_bool" s_check_bool a.check_bool d.check_bool
  b_check_bool : Binds K d.check_bool P_check_bool []
  g_honest : mg "honest" = some (.ref a.honest)
  k_honest : PySem.W.keepIn K (.ref a.honest) = true
  f_honest : Fun K "honest" "honest" s_honest a.honest d.honest
  b_honest : Binds K d.honest P_honest []
  g_stable_order : mg "stable_order" = some (.ref a.stable_order)
  k_stable_order : PySem.W.keepIn K (.ref a.stable_order) = true
  f_stable_order : Fun K "stable_order" "stable_order" s_stable_order a.stable_order d.stable_order
  b_stable_order : Binds K d.stable_order P_stable_order [.bool false]
  kn_stable_order_1_reverse : KBn K d.stable_order P_stable_order 1 ["reverse"] (fun us ws => kg_stable_order_1_reverse us ws) (fun us ws => kg_stable_order_1_reverse us ws)
  g_is_order : mg "is_order" = some (.ref a.is_order)
  k_is_order : PySem.W.keepIn K (.ref a.is_order) = true
  f_is_order : Fun K "is_order" "is_order" s_is_order a.is_order d.is_order
  b_is_order : Binds K d.is_order P_is_order [.bool false]
  kn_is_order_2_reverse : KBn K d.is_order P_is_order 2 ["reverse"] (fun us ws => kg_is_order_2_reverse us ws) (fun us ws => kg_is_order_2_reverse us ws)
  g_stable : mg "_stable" = some (.ref a.stable)
  k_stable : PySem.W.keepIn K (.ref a.stable) = true
  f_stable : Fun K "_stable" "_stable" s_stable a.stable d.stable
  b_stable : Binds K d.stable P_stable []
  g_mixed : mg "_law_mixed" = some (.ref a.mixed)
  k_mixed : PySem.W.keepIn K (.ref a.mixed) = true
  f_mixed : Fun K "_law_mixed" "_law_mixed" s_mixed a.mixed d.mixed
  b_mixed : Binds K d.mixed P_mixed []
  g_source : mg "_law_source" = some (.ref a.source)
  k_source : PySem.W.keepIn K (.ref a.source) = true
  f_source : Fun K "_law_source" "_law_source" s_source a.source d.source
  b_source : Binds K d.source P_source []
  g_take : mg "_law_take" = some (.ref a.take)
  k_take : PySem.W.keepIn K (.ref a.take) = true
  f_take : Fun K "_law_take" "_law_take" s_take a.take d.take
  b_take : Binds K d.take P_take []
  g_pick : mg "_law_pick" = some (.ref a.pick)
  k_pick : PySem.W.keepIn K (.ref a.pick) = true
  f_pick : Fun K "_law_pick" "_law_pick" s_pick a.pick d.pick
  b_pick : Binds K d.pick P_pick []
  g_said : mg "_law_said" = some (.ref a.said)
  k_said : PySem.W.keepIn K (.ref a.said) = true
  f_said : Fun K "_law_said" "_law_said" s_said a.said d.said
  b_said : Binds K d.said P_said []
  g_bad_keys : mg "_law_bad_keys" = some (.ref a.bad_keys)
  k_bad_keys : PySem.W.keepIn K (.ref a.bad_keys) = true
  f_bad_keys : Fun K "_law_bad_keys" "_law_bad_keys" s_bad_keys a.bad_keys d.bad_keys
  b_bad_keys : Binds K d.bad_keys P_bad_keys []
  g_bad_order : mg "_law_bad_order" = some (.ref a.bad_order)
  k_bad_order : PySem.W.keepIn K (.ref a.bad_order) = true
  f_bad_order : Fun K "_law_bad_order" "_law_bad_order" s_bad_order a.bad_order d.bad_order
  b_bad_order : Binds K d.bad_order P_bad_order []
  g_law : mg "law" = some (.ref a.law)
  k_law : PySem.W.keepIn K (.ref a.law) = true
  f_law : Fun K "law" "law" s_law a.law d.law
  b_law : Binds K d.law P_law []
  lc_law : d.law.code = .ref a.lc_law
  z_abs : mg "abs" = none
  z_bool : mg "bool" = none
  z_enumerate : mg "enumerate" = none
  z_int : mg "int" = none
  z_isinstance : mg "isinstance" = none
  z_len : mg "len" = none
  z_list : mg "list" = none
  z_range : mg "range" = none
  z_repr : mg "repr" = none
  z_sorted : mg "sorted" = none
  z_tuple : mg "tuple" = none
  x_InvalidKeys : ExC K mg a.c_InvalidKeys a.InvalidKeys___init__ "InvalidKeys" "index"
  x_InvalidQuestion : ExC K mg a.c_InvalidQuestion a.InvalidQuestion___init__ "InvalidQuestion" "question"
  x_InvalidOrder : ExC K mg a.c_InvalidOrder a.InvalidOrder___init__ "InvalidOrder" "index"
  x_InvalidNumber : ExC K mg a.c_InvalidNumber a.InvalidNumber___init__ "InvalidNumber" "name"
  xb : ExB K mg a.c_SortError "SortError"
  s_InvalidKeys_InvalidKeys : ExS K a.c_InvalidKeys a.c_InvalidKeys true
  s_InvalidKeys_InvalidQuestion : ExS K a.c_InvalidKeys a.c_InvalidQuestion false
  s_InvalidKeys_InvalidOrder : ExS K a.c_InvalidKeys a.c_InvalidOrder false
  s_InvalidKeys_InvalidNumber : ExS K a.c_InvalidKeys a.c_InvalidNumber false
  s_InvalidKeys_SortError : ExS K a.c_InvalidKeys a.c_SortError true
  s_InvalidQuestion_InvalidKeys : ExS K a.c_InvalidQuestion a.c_InvalidKeys false
  s_InvalidQuestion_InvalidQuestion : ExS K a.c_InvalidQuestion a.c_InvalidQuestion true
  s_InvalidQuestion_InvalidOrder : ExS K a.c_InvalidQuestion a.c_InvalidOrder false
  s_InvalidQuestion_InvalidNumber : ExS K a.c_InvalidQuestion a.c_InvalidNumber false
  s_InvalidQuestion_SortError : ExS K a.c_InvalidQuestion a.c_SortError true
  s_InvalidOrder_InvalidKeys : ExS K a.c_InvalidOrder a.c_InvalidKeys false
  s_InvalidOrder_InvalidQuestion : ExS K a.c_InvalidOrder a.c_InvalidQuestion false
  s_InvalidOrder_InvalidOrder : ExS K a.c_InvalidOrder a.c_InvalidOrder true
  s_InvalidOrder_InvalidNumber : ExS K a.c_InvalidOrder a.c_InvalidNumber false
  s_InvalidOrder_SortError : ExS K a.c_InvalidOrder a.c_SortError true
  s_InvalidNumber_InvalidKeys : ExS K a.c_InvalidNumber a.c_InvalidKeys false
  s_InvalidNumber_InvalidQuestion : ExS K a.c_InvalidNumber a.c_InvalidQuestion false
  s_InvalidNumber_InvalidOrder : ExS K a.c_InvalidNumber a.c_InvalidOrder false
  s_InvalidNumber_InvalidNumber : ExS K a.c_InvalidNumber a.c_InvalidNumber true
  s_InvalidNumber_SortError : ExS K a.c_InvalidNumber a.c_SortError true
  ec_InvalidKeys : ExcC K a.c_InvalidKeys
  ec_InvalidQuestion : ExcC K a.c_InvalidQuestion
  ec_InvalidOrder : ExcC K a.c_InvalidOrder
  ec_InvalidNumber : ExcC K a.c_InvalidNumber
/-! keywords -/
theorem kwb_stable_order {K : PySem.W.Frag} {f D : Addr} {oc : Value} {od an : Option Addr} {osl : Array (Option Value)} {doc pm cdv ct : Value} (l : K.lookup f = some ⟨oc, od, .func (PySem.W.fnOf "stable_order" "stable_order" (defArgs s_stable_order) (defBody s_stable_order) (defScope s_stable_order) .none (.ref D) doc pm an cdv ct), osl⟩)
    (c : PySem.W.codeIn K cdv "stable_order" = true) (k : PySem.W.keepIn K (.ref f) = true) (n : PySem.W.nsIn K D "reverse" = some (some (.bool false))) : Binds K (PySem.W.fnOf "stable_order" "stable_order" (defArgs s_stable_order) (defBody s_stable_order) (defScope s_stable_order) .none (.ref D) doc pm an cdv ct) P_stable_order [.bool false] := by
  have F : FunD K "stable_order" "stable_order" (defArgs s_stable_order) (defBody s_stable_order) (defScope s_stable_order) [] [("reverse", .bl false)] f _ := ⟨⟨_, _, _, _, _, _, _, _, _, _, rfl, l, c, .inl ⟨rfl, rfl⟩, .inr ⟨D, rfl, fun q hq => by
    rw [List.mem_singleton.mp hq]
    exact ⟨_, n, rfl⟩⟩⟩, k⟩
  obtain ⟨ds, r, b⟩ := F.binds0 (ps := P_stable_order) 1 (by simp) rfl fun D doc pm an cdv ct us ks h1 h2 => match us, ks, h1, h2 with
    | [_], [_], _, _ => ⟨_, _, _, _, _, _, rfl, rfl, rfl⟩
  cases r with
  | cons h t =>
    cases t
    cases h
    exact b
theorem kwb_is_order {K : PySem.W.Frag} {f D : Addr} {oc : Value} {od an : Option Addr} {osl : Array (Option Value)} {doc pm cdv ct : Value} (l : K.lookup f = some ⟨oc, od, .func (PySem.W.fnOf "is_order" "is_order" (defArgs s_is_order) (defBody s_is_order) (defScope s_is_order) .none (.ref D) doc pm an cdv ct), osl⟩)
    (c : PySem.W.codeIn K cdv "is_order" = true) (k : PySem.W.keepIn K (.ref f) = true) (n : PySem.W.nsIn K D "reverse" = some (some (.bool false))) : Binds K (PySem.W.fnOf "is_order" "is_order" (defArgs s_is_order) (defBody s_is_order) (defScope s_is_order) .none (.ref D) doc pm an cdv ct) P_is_order [.bool false] := by
  have F : FunD K "is_order" "is_order" (defArgs s_is_order) (defBody s_is_order) (defScope s_is_order) [] [("reverse", .bl false)] f _ := ⟨⟨_, _, _, _, _, _, _, _, _, _, rfl, l, c, .inl ⟨rfl, rfl⟩, .inr ⟨D, rfl, fun q hq => by
    rw [List.mem_singleton.mp hq]
    exact ⟨_, n, rfl⟩⟩⟩, k⟩
  obtain ⟨ds, r, b⟩ := F.binds0 (ps := P_is_order) 2 (by simp) rfl fun D doc pm an cdv ct us ks h1 h2 => match us, ks, h1, h2 with
    | [_, _], [_], _, _ => ⟨_, _, _, _, _, _, rfl, rfl, rfl⟩
  cases r with
  | cons h t =>
    cases t
    cases h
    exact b
theorem kbn_stable_order_1_reverse {K : PySem.W.Frag} {f : Addr} {fd : FuncData} (F : Fun K "stable_order" "stable_order" s_stable_order f fd) : KBn K fd P_stable_order 1 ["reverse"] (fun us ws => kg_stable_order_1_reverse us ws) (fun us ws => kg_stable_order_1_reverse us ws) := by
  obtain ⟨oc, od, kV, doc, pm, an, cdv, ct, osl, rfl, lk, hcd⟩ := F.ex
  refine ⟨fun s us ws _ h1 h2 => ?_, fun {vs us zs ws} r1 r2 => ?_⟩
  · match us, ws, h1, h2 with
    | [_], [_], _, _ => exact .of_eq rfl
  · exact kg_vals_stable_order_1_reverse r1 r2
theorem kbn_is_order_2_reverse {K : PySem.W.Frag} {f : Addr} {fd : FuncData} (F : Fun K "is_order" "is_order" s_is_order f fd) : KBn K fd P_is_order 2 ["reverse"] (fun us ws => kg_is_order_2_reverse us ws) (fun us ws => kg_is_order_2_reverse us ws) := by
  obtain ⟨oc, od, kV, doc, pm, an, cdv, ct, osl, rfl, lk, hcd⟩ := F.ex
  refine ⟨fun s us ws _ h1 h2 => ?_, fun {vs us zs ws} r1 r2 => ?_⟩
  · match us, ws, h1, h2 with
    | [_, _], [_], _, _ => exact .of_eq rfl
  · exact kg_vals_is_order_2_reverse r1 r2
end K04

namespace K04
open PySem PySem.Spec PyProof.Rows L2 
def spIsIntX (K : PySem.W.Frag) : Sp := fun vs H Q _ => ∃ v b, vs = [v] ∧ IntQ K H v b ∧ Q (.bl b) H
def spWithinX (K : PySem.W.Frag) : Sp := fun vs H Q _ => ∃ v lo m ok, vs = [v, .int lo, m] ∧ InB K H v lo m ok ∧ Q (.bl ok) H
section
variable {P : Program} {w : World} {K : PySem.W.Frag} {mg : Str → Option Value} {base : Heap} {a : Ad} {d : Fd}
theorem ok_is_integer (T : Txt K mg a d) : FnOk P w K mg base CX0 1 a.is_integer d.is_integer P_is_integer (spIsIntX K) := by
  refine T.f_is_integer.ok sc_is_integer (fun vs H Q E h => ?_) (fun cdv A outer s H vs Q E hr h => ?_)
  · obtain ⟨v, b, rfl, _⟩ := h
    rfl
  · obtain ⟨v, b, rfl, ⟨t, b1, b2, ty, k1, k2, rfl⟩, q⟩ := h
    refine ⟨_, (pss_one (ps_ret (pe_and (pe_callB call_isi (by rfl) T.z_isinstance (by decide +kernel) (pa_cons (pv 0) (pa_cons (pe_bltn (v := .ty "int") (u := .type "int") (by rfl) T.z_int (by decide +kernel) rfl) pa_nil))) (pe_one (pe_not (pe_callB call_isi (by rfl) T.z_isinstance (by decide +kernel) (pa_cons (pv 0) (pa_cons (pe_bltn (v := .ty "bool") (u := .type "bool") (by rfl) T.z_bool (by decide +kernel) rfl) pa_nil)))))))), ?_⟩
    refine ⟨_, rfl, v, .ty "int", t, .type "int", b1, rfl, .ty _, ty, k1, b1, rfl, ?_⟩
    cases b1 with
    | false => exact iteF q
    | true => exact iteT ⟨_, rfl, v, .ty "bool", t, .type "bool", b2, rfl, .ty _, ty, k2, b2, rfl, q⟩
theorem ok_is_within (T : Txt K mg a d) : FnOk P w K mg base CX0 2 a.is_within d.is_within P_is_within (spWithinX K) := by
  have G_is_integer : FnOk P w K mg base CX0 1 a.is_integer d.is_integer P_is_integer (spIsIntX K) := ok_is_integer T
  refine T.f_is_within.ok sc_is_within (fun vs H Q E h => ?_) (fun cdv A outer s H vs Q E hr h => ?_)
  · obtain ⟨v, lo, m, ok, rfl, _⟩ := h
    rfl
  · obtain ⟨v, lo, m, ok, rfl, hb, q⟩ := h
    refine ⟨_, (pss_one (ps_ret (pe_and (pe_call G_is_integer (hr.mono (by decide)) (by rfl) T.g_is_integer T.k_is_integer T.b_is_integer .nil pass0 (pa_cons (pv 0) pa_nil)) (pe_and (pe_cmpR op_ge (pv 0) (pv 1) (nomark _)) (pe_one (pe_or (pe_cmpR op_isN (pv 2) pe_non (nomark _)) (pe_one (pe_cmpR op_le (pv 0) (pv 2) (nomark _))))))))), ?_⟩
    rcases hb with ⟨hq, rfl⟩ | ⟨i, rfl, hb⟩
    · exact ⟨_, rfl, v, false, rfl, hq, false, rfl, iteF q⟩
    · refine ⟨_, rfl, _, true, rfl, IntQ.int i, true, rfl, iteT ?_⟩
      refine ⟨_, rfl, _, rfl, i, lo, rfl, rfl, decide (lo ≤ i), rfl, ?_⟩
      rcases hb with ⟨rfl, rfl⟩ | ⟨hi, rfl, rfl⟩
      · cases e : decide (lo ≤ i) with
        | false => rw [e] at q; exact iteF q
        | true => rw [e] at q; exact iteT ⟨_, rfl, rfl, true, rfl, iteT q⟩
      · cases e : decide (lo ≤ i) with
        | false => rw [e] at q; exact iteF q
        | true =>
          rw [e] at q
          exact iteT ⟨_, rfl, rfl, false, rfl, iteF ⟨_, rfl, _, rfl, i, hi, rfl, rfl, q⟩⟩
end

def spCheckKeysX (C : Addr) : Sp := fun vs H Q E => ∃ (v : V) (lo hi : Int) (r : Option Int), vs = [v, .int lo, .int hi] ∧ KeysQ H v lo hi r ∧ (r = none → ∀ H', Same H H' → Q .non H') ∧ ∀ i, r = some i → Rz E H C "index" (.int i)
section
variable {P : Program} {w : World} {K : PySem.W.Frag} {mg : Str → Option Value} {base : Heap} {a : Ad} {d : Fd}
theorem ok_err_keys (T : Txt K mg a d) : FnOk P w K mg base CX0 1 a.InvalidKeys___init__ d.InvalidKeys___init__ P_InvalidKeys___init__ (spErr a.c_InvalidKeys "index") := by
  refine T.f_InvalidKeys___init__.ok sc_InvalidKeys___init__ (fun vs H Q E h => ?_) (fun cdv A outer s H vs Q E hr h => ?_)
  · obtain ⟨e, v, rfl, _⟩ := h
    rfl
  · obtain ⟨e, v, rfl, he, q⟩ := h
    refine ⟨_, (pss_cons (ps_expr (pe_baseinit (by rfl) T.xb.g T.xb.r1 T.xb.r2 T.xb.vi (pa_cons (pv 0) (pa_cons pe_str pa_nil))))
    (pss_one (ps_ost (pv 0) (pv 1)))), ?_⟩
    refine ⟨_, rfl, e, a.c_InvalidKeys, _, rfl, by show 1 ≤ 1000; decide, T.x_InvalidKeys.ox, he, ?_⟩
    exact ⟨_, rfl, _, rfl, e, a.c_InvalidKeys, rfl, T.x_InvalidKeys.ox, T.x_InvalidKeys.no, .inl ⟨he, fun dx hd ne => q dx hd ne⟩⟩
theorem ok_check_keys (T : Txt K mg a d) : FnOk P w K mg base (L2.CX P w) 3 a.check_keys d.check_keys P_check_keys (spCheckKeysX a.c_InvalidKeys) := by
  have G_is_integer : FnOk P w K mg base CX0 1 a.is_integer d.is_integer P_is_integer (spIsIntX K) := ok_is_integer T
  have G_InvalidKeys___init__ : FnOk P w K mg base CX0 1 a.InvalidKeys___init__ d.InvalidKeys___init__ P_InvalidKeys___init__ (spErr a.c_InvalidKeys "index") := ok_err_keys T
  refine T.f_check_keys.okX sc_check_keys (fun vs H Q E h => ?_) (fun cdv A outer s H vs Q E hr h => ?_)
  · obtain ⟨v, lo, hi, r, rfl, _⟩ := h
    rfl
  · obtain ⟨v, lo, hi, r, rfl, hq, q, qx⟩ := h
    refine ⟨_, (pss_cons (ps_if (PW.pt (pw_or (pt_not (pt_val (pe_callB call_isiT (by rfl) T.z_isinstance (by decide +kernel) (pa_cons (pv 0) (pa_cons (pe_tup (pa_cons (pe_bltn (v := .ty "list") (u := .type "list") (by rfl) T.z_list (by decide +kernel) rfl) (pa_cons (pe_bltn (v := .ty "tuple") (u := .type "tuple") (by rfl) T.z_tuple (by decide +kernel) rfl) pa_nil))) pa_nil))))) (pw_or1 (pt_not (pt_chain op_le op_le (pv 1) (pe_callB call_len_seq (by rfl) T.z_len PySem.boot_len (pa_cons (pv 0) pa_nil)) (pv 2)))))) (pss_one (ps_raise rfl (takes_of rfl rfl rfl rfl) (pmk_oex T.x_InvalidKeys.ox T.x_InvalidKeys.ii T.x_InvalidKeys.ti G_InvalidKeys___init__ (hr.mono (by decide)) T.b_InvalidKeys___init__ .nil pass0 (by rfl) T.x_InvalidKeys.g (pa_cons (pe_un un_neg pe_int) pa_nil)))) pss_nil)
    (pss_one (ps_for (passes_of rfl) rfl (pi_enumA (by rfl) T.z_enumerate (pa_cons (pv 0) pa_nil)) (pg_tup rfl (pgs_cons (pg_name (i := 3) sc_check_keys.nd rfl (Or.inl rfl)) (pgs_cons (pg_name (i := 4) sc_check_keys.nd rfl (Or.inl rfl)) pgs_nil)))
      (pss_one (ps_if (pt_not (pt_val (pe_call G_is_integer (hr.mono (by decide)) (by rfl) T.g_is_integer T.k_is_integer T.b_is_integer .nil pass0 (pa_cons (pv 4) pa_nil)))) (pss_one (ps_raise rfl (takes_of rfl rfl rfl rfl) (pmk_oex T.x_InvalidKeys.ox T.x_InvalidKeys.ii T.x_InvalidKeys.ti G_InvalidKeys___init__ (hr.mono (by decide)) T.b_InvalidKeys___init__ .nil pass0 (by rfl) T.x_InvalidKeys.g (pa_cons (pv 3) pa_nil)))) pss_nil))))), ?_⟩
    refine ⟨_, rfl, by show 2 ≤ sizeLine; decide, fun tp htp => ?_⟩
    have s1 : Same H (upd H tp (.tup [.ty "list", .ty "tuple"])) := same_upd htp
    have hT : upd H tp (.tup [.ty "list", .ty "tuple"]) tp = some (.tup [.ty "list", .ty "tuple"]) := upd_same
    generalize upd H tp (.tup [.ty "list", .ty "tuple"]) = H1 at s1 hT ⊢
    have cs : Paired ClsV [.ty "list", .ty "tuple"] [.type "list", .type "tuple"] := .cons (.ty _) (.cons (.ty _) .nil)
    have RR : ∀ {i : Int}, r = some i → Rz E H1 a.c_InvalidKeys "index" (.int i) := fun h => (qx _ h).same s1
    rcases hq.go with ⟨Tn, h, n1, n2, er⟩ | ⟨p, xs, rfl, hR, hl, er⟩ | ⟨p, xs, rfl, hR, hl, good, hb⟩
    · have zz := RR er
      refine ⟨v, tp, _, _, _, false, rfl, hT, cs, (h.same s1).ty, kit_lt h n1 n2, false, rfl, iteT ?_⟩
      exact ⟨_, rfl, by show 1 ≤ 1000; decide, fun e heN => ⟨e, _, rfl, upd_same, fun dx hdx ne => ⟨rfl, dx, [("index", .int (-1))], upd_same, by rw [upd_ne ne, upd_same], by rw [upd_ne ne] at hdx; exact hdx, (zz) dx _ (fun b o h => by
          rw [upd_ne ne] at hdx
          have nbd : b ≠ dx := ne_of_none h hdx
          have nbe : b ≠ e := ne_of_none h heN
          rw [upd_ne nbd, del_ne nbe, upd_ne nbe, upd_ne nbd, upd_ne nbe]
          exact h) (by rw [upd_ne ne] at hdx; exact hdx) upd_same⟩⟩⟩
    · have zz := RR er
      have hR1 := hR.same s1
      obtain ⟨t, hty, hkit⟩ := kit_row (K := K) hR1
      have hS : SqL K H1 p xs ∨ SqT K H1 p xs := hR1.imp L2.sq_of L2.st_of
      refine ⟨.ref p, tp, _, t, _, true, rfl, hT, cs, hty, hkit, true, rfl, iteF ?_⟩
      refine ⟨_, rfl, _, rfl, p, _, rfl, hS, _, _, rfl, rfl, decide (lo ≤ (xs.length : Int)), rfl, ?_⟩
      by_cases c : lo ≤ (xs.length : Int)
      · rw [decide_eq_true c]
        refine iteT ⟨_, rfl, _, _, rfl, rfl, false, congrArg V.bl (decide_eq_false fun z => hl ⟨c, z⟩), iteT ?_⟩
        exact ⟨_, rfl, by show 1 ≤ 1000; decide, fun e heN => ⟨e, _, rfl, upd_same, fun dx hdx ne => ⟨rfl, dx, [("index", .int (-1))], upd_same, by rw [upd_ne ne, upd_same], by rw [upd_ne ne] at hdx; exact hdx, (zz) dx _ (fun b o h => by
          rw [upd_ne ne] at hdx
          have nbd : b ≠ dx := ne_of_none h hdx
          have nbe : b ≠ e := ne_of_none h heN
          rw [upd_ne nbd, del_ne nbe, upd_ne nbe, upd_ne nbd, upd_ne nbe]
          exact h) (by rw [upd_ne ne] at hdx; exact hdx) upd_same⟩⟩⟩
      · rw [decide_eq_false c]
        refine iteF ⟨false, rfl, iteT ?_⟩
        exact ⟨_, rfl, by show 1 ≤ 1000; decide, fun e heN => ⟨e, _, rfl, upd_same, fun dx hdx ne => ⟨rfl, dx, [("index", .int (-1))], upd_same, by rw [upd_ne ne, upd_same], by rw [upd_ne ne] at hdx; exact hdx, (zz) dx _ (fun b o h => by
          rw [upd_ne ne] at hdx
          have nbd : b ≠ dx := ne_of_none h hdx
          have nbe : b ≠ e := ne_of_none h heN
          rw [upd_ne nbd, del_ne nbe, upd_ne nbe, upd_ne nbd, upd_ne nbe]
          exact h) (by rw [upd_ne ne] at hdx; exact hdx) upd_same⟩⟩⟩
    · have hR1 := hR.same s1
      obtain ⟨t, hty, hkit⟩ := kit_row (K := K) hR1
      have hS : SqL K H1 p xs ∨ SqT K H1 p xs := hR1.imp L2.sq_of L2.st_of
      refine ⟨.ref p, tp, _, t, _, true, rfl, hT, cs, hty, hkit, true, rfl, iteF ?_⟩
      refine ⟨_, rfl, _, rfl, p, _, rfl, hS, _, _, rfl, rfl, true, congrArg V.bl (decide_eq_true hl.1), iteT ⟨_, rfl, _, _, rfl, rfl, true, congrArg V.bl (decide_eq_true hl.2), iteF ?_⟩⟩
      have turn : ∀ (i : Nat) (y : V) (H2 : Hp), xs[i]? = some y → Same H1 H2 → (∀ z, r = some z → (i : Int) ≤ z) → ((okInt H2 y true ∧ ∀ z, r = some z → ((i + 1 : Nat) : Int) ≤ z) ∨ (okInt H2 y false ∧ Rz E H2 a.c_InvalidKeys "index" (.int (i : Int)))) := fun i y H2 hy sm up => by
        rcases good i y hy up with ⟨h1, h2⟩ | ⟨h1, h2⟩
        · refine .inl ⟨h1.ext (.of (s1.trans sm)), fun z hz => ?_⟩
          have := up z hz
          have : z ≠ (i : Int) := fun e => h2 (by rw [hz, e])
          omega
        · exact .inr ⟨h1.ext (.of (s1.trans sm)), (RR h2).same sm⟩
      have fin : ∀ H', Same H1 H' → (∀ z, r = some z → (xs.length : Int) ≤ z) → Q .non H' := fun H' sm up => by
        refine q ?_ H' (s1.trans sm)
        cases er : r with
        | none => rfl
        | some z =>
          have := hb z er
          have := up z er
          omega
      refine ⟨_, rfl, p, xs, rfl, hS.imp (fun hs => ⟨hs, ?_⟩) (fun hs => ⟨hs, ?_⟩)⟩
      · refine for_iteL (K := K) (a := p) (xs := xs) (fun i σ H' => (∃ u v, σ = [some (.ref p), some (.int lo), some (.int hi), u, v]) ∧ Same H1 H' ∧ ∀ z, r = some z → (i : Int) ≤ z) ⟨⟨_, _, rfl⟩, Same.refl _, fun z hz => (hb z hz).1⟩ (fun i σ H' _ h => h.2.1.seq hs) ?_ (fun σ H' h => fin H' h.2.1 h.2.2)
        rintro i y σ H2 Tp hy ⟨⟨u, v, rfl⟩, sm, up⟩ hn
        have sm2 := sm.trans (same_upd (o := .tup [.int (i : Int), y]) hn)
        have hTp : upd H2 Tp (.tup [.int (i : Int), y]) Tp = some (.tup [.int (i : Int), y]) := upd_same
        refine ⟨Tp, _, rfl, L2.st_of hTp, rfl, _, _, rfl, _, _, rfl, rfl, ?_⟩
        generalize upd H2 Tp (.tup [.int (i : Int), y]) = H3 at sm2
        rcases turn i y _ hy sm2 up with ⟨⟨Ty, h1, h2⟩, up2⟩ | ⟨⟨Ty, h1, h2⟩, zz⟩
        · exact ⟨_, rfl, y, true, rfl, by rw [h2]; exact h1.intQ, true, rfl, iteF ⟨⟨_, _, rfl⟩, sm2, up2⟩⟩
        · exact ⟨_, rfl, y, false, rfl, by rw [h2]; exact h1.intQ, false, rfl, iteT ⟨_, rfl, by show 1 ≤ 1000; decide, fun e heN => ⟨e, _, rfl, upd_same, fun dx hdx ne => ⟨rfl, dx, [("index", .int (i : Int))], upd_same, by rw [upd_ne ne, upd_same], by rw [upd_ne ne] at hdx; exact hdx, (zz) dx _ (fun b o h => by
          rw [upd_ne ne] at hdx
          have nbd : b ≠ dx := ne_of_none h hdx
          have nbe : b ≠ e := ne_of_none h heN
          rw [upd_ne nbd, del_ne nbe, upd_ne nbe, upd_ne nbd, upd_ne nbe]
          exact h) (by rw [upd_ne ne] at hdx; exact hdx) upd_same⟩⟩⟩⟩
      · refine for_iteT (K := K) (a := p) (xs := xs) (fun i σ H' => (∃ u v, σ = [some (.ref p), some (.int lo), some (.int hi), u, v]) ∧ Same H1 H' ∧ ∀ z, r = some z → (i : Int) ≤ z) ⟨⟨_, _, rfl⟩, Same.refl _, fun z hz => (hb z hz).1⟩ (fun i σ H' _ h => Same.tupS h.2.1 hs) ?_ (fun σ H' h => fin H' h.2.1 h.2.2)
        rintro i y σ H2 Tp hy ⟨⟨u, v, rfl⟩, sm, up⟩ hn
        have sm2 := sm.trans (same_upd (o := .tup [.int (i : Int), y]) hn)
        have hTp : upd H2 Tp (.tup [.int (i : Int), y]) Tp = some (.tup [.int (i : Int), y]) := upd_same
        refine ⟨Tp, _, rfl, L2.st_of hTp, rfl, _, _, rfl, _, _, rfl, rfl, ?_⟩
        generalize upd H2 Tp (.tup [.int (i : Int), y]) = H3 at sm2
        rcases turn i y _ hy sm2 up with ⟨⟨Ty, h1, h2⟩, up2⟩ | ⟨⟨Ty, h1, h2⟩, zz⟩
        · exact ⟨_, rfl, y, true, rfl, by rw [h2]; exact h1.intQ, true, rfl, iteF ⟨⟨_, _, rfl⟩, sm2, up2⟩⟩
        · exact ⟨_, rfl, y, false, rfl, by rw [h2]; exact h1.intQ, false, rfl, iteT ⟨_, rfl, by show 1 ≤ 1000; decide, fun e heN => ⟨e, _, rfl, upd_same, fun dx hdx ne => ⟨rfl, dx, [("index", .int (i : Int))], upd_same, by rw [upd_ne ne, upd_same], by rw [upd_ne ne] at hdx; exact hdx, (zz) dx _ (fun b o h => by
          rw [upd_ne ne] at hdx
          have nbd : b ≠ dx := ne_of_none h hdx
          have nbe : b ≠ e := ne_of_none h heN
          rw [upd_ne nbd, del_ne nbe, upd_ne nbe, upd_ne nbd, upd_ne nbe]
          exact h) (by rw [upd_ne ne] at hdx; exact hdx) upd_same⟩⟩⟩⟩
end

/-- keys: a list or a tuple of ints -/
def KeysAt (H : Hp) (p : Addr) (ns : List Int) : Prop := H p = some (.lst (ns.map V.int)) ∨ H p = some (.tup (ns.map V.int))
theorem KeysAt.same {H H' : Hp} {p : Addr} {ns : List Int} (e : Same H H') (h : KeysAt H p ns) : KeysAt H' p ns := h.imp (e _ _) (e _ _)
theorem keys_item {ns : List Int} {i : Nat} {x : V} (h : (ns.map V.int)[i]? = some x) : ∃ z, ns[i]? = some z ∧ x = .int z := by
  rw [List.getElem?_map] at h
  cases e : ns[i]? with
  | none => rw [e] at h; cases h
  | some z => rw [e] at h; exact ⟨z, rfl, (Option.some.inj h).symm⟩

def OrdAt (H : Hp) (q : Addr) (bs : List Nat) : Prop := H q = some (.lst (nV bs)) ∨ H q = some (.tup (nV bs))
theorem OrdAt.same {H H' : Hp} {q : Addr} {bs : List Nat} (e : Same H H') (h : OrdAt H q bs) : OrdAt H' q bs := h.imp (e _ _) (e _ _)
def spCheckBool : Sp := fun vs H Q _ => ∃ (x : V) (b : Bool), vs = [x, .bl b] ∧ Q .non H
def spCheckOrder : Sp := fun vs H Q _ => ∃ (q : Addr) (bs : List Nat) (n : Nat), vs = [.ref q, .int (n : Int)] ∧ OrdAt H q bs ∧ bs.Perm (List.range n) ∧ n ≤ 2000 ∧ ∀ H', Same H H' → Q .non H'
def spStable : Sp := fun vs H Q _ => ∃ (p : Addr) (ks : List Int) (rev : Bool), vs = [.ref p, .bl rev] ∧ KeysAt H p ks ∧ ks.length ≤ 2000 ∧ ∀ (r : Addr) (os : List Nat) (H' : Hp), Stab (keyf ks rev) ks.length os → H r = none → Same H H' → H' r = some (.lst (nV os)) → Q (.ref r) H'
def spIsOrder : Sp := fun vs H Q _ => ∃ (p q : Addr) (ks : List Int) (bs : List Nat) (rev : Bool), vs = [.ref p, .ref q, .bl rev] ∧ KeysAt H p ks ∧ ks.length ≤ 2000 ∧ OrdAt H q bs ∧ bs.Perm (List.range ks.length) ∧ ∀ (os : List Nat) (H' : Hp), Stab (keyf ks rev) ks.length os → Same H H' → Q (.bl (decide (bs = os))) H'
theorem rep_flatV (x : V) : ∀ n : Nat, (List.replicate n [x]).flatten = List.replicate n x
  | 0 => rfl
  | n + 1 => by
    rw [List.replicate_succ, List.replicate_succ, List.flatten_cons, rep_flatV x n]
    rfl
/-- which items have been seen -/
def seenAt (n : Nat) (l : List Nat) : List V := (List.range n).map fun k => V.bl (decide (k ∈ l))
theorem seen_nil (n : Nat) : List.replicate n (V.bl false) = seenAt n [] := by
  refine List.ext_getElem? fun i => ?_
  unfold seenAt
  rw [List.getElem?_replicate, List.getElem?_map]
  by_cases h : i < n
  · rw [if_pos h, List.getElem?_range h]
    rfl
  · rw [if_neg h, List.getElem?_eq_none (by rw [List.length_range]; omega)]
    rfl
theorem seen_at {n b : Nat} {l : List Nat} (h : b < n) : (seenAt n l)[b]? = some (.bl (decide (b ∈ l))) := by
  unfold seenAt
  rw [List.getElem?_map, List.getElem?_range h]
  rfl
theorem seen_len (n : Nat) (l : List Nat) : (seenAt n l).length = n := by
  unfold seenAt
  rw [List.length_map, List.length_range]
theorem seen_set {n b : Nat} {l : List Nat} (h : b < n) : (seenAt n l).set b (.bl true) = seenAt n (l ++ [b]) := by
  refine List.ext_getElem? fun i => ?_
  rw [List.getElem?_set, seen_len]
  by_cases e : b = i
  · subst e
    rw [if_pos rfl, if_pos h, seen_at h]
    simp
  · rw [if_neg e]
    by_cases hi : i < n
    · rw [seen_at hi, seen_at hi]
      have ne : ¬ i = b := fun z => e z.symm
      simp [ne]
    · rw [List.getElem?_eq_none (by rw [seen_len]; omega), List.getElem?_eq_none (by rw [seen_len]; omega)]
theorem take_more {α : Type} {l : List α} {i : Nat} {x : α} (h : l[i]? = some x) : l.take (i + 1) = l.take i ++ [x] := by
  rw [List.take_add_one, h]
  rfl
theorem not_before {l : List Nat} {i b : Nat} (nd : l.Nodup) (h : l[i]? = some b) : b ∉ l.take i := by
  intro hm
  have e : l = l.take i ++ l.drop i := (List.take_append_drop i l).symm
  rw [e] at nd
  have hb : b ∈ l.drop i := by
    have q : (l.drop i)[0]? = some b := by
      rw [List.getElem?_drop]
      exact h
    exact List.mem_of_getElem? q
  exact (List.nodup_append.mp nd).2.2 b hm b hb rfl
theorem nV_item {bs : List Nat} {i : Nat} {x : V} (h : (nV bs)[i]? = some x) : ∃ b, bs[i]? = some b ∧ x = .int (b : Int) := by
  rw [List.getElem?_map] at h
  cases e : bs[i]? with
  | none => rw [e] at h; cases h
  | some z => rw [e] at h; exact ⟨z, rfl, (Option.some.inj h).symm⟩
/-- what two ints a value is a pair of -/
def pairOf (H : Hp) (x : V) : Int × Int := match x with
  | .ref t => match H t with
    | some (.tup [.int i, .int j]) => (i, j)
    | _ => (0, 0)
  | _ => (0, 0)
theorem pairOf_at {H : Hp} {t : Addr} {i j : Int} (h : H t = some (.tup [.int i, .int j])) : pairOf H (.ref t) = (i, j) := by
  unfold pairOf
  simp only [h]

def spIsItemX (K : PySem.W.Frag) : Sp := fun vs H Q _ => ∃ v n ok, vs = [v, .int n] ∧ InB K H v 0 (.int (n - 1)) ok ∧ Q (.bl ok) H
/-- a question that is none -/
def BadQ (H : Hp) (v : V) (n : Int) : Prop := (∃ T, AnyV H v T ∧ T ≠ "tuple") ∨ (∃ t xs, v = .ref t ∧ H t = some (.tup xs) ∧ xs.length ≠ 2) ∨
  ∃ t x y, v = .ref t ∧ H t = some (.tup [x, y]) ∧ ((∃ T, AnyV H x T ∧ inR 0 (some (n - 1)) x = false) ∨ (∃ (i : Int) (T : String), x = .int i ∧ inR 0 (some (n - 1)) x = true ∧ AnyV H y T ∧ inR 0 (some (n - 1)) y = false) ∨ ∃ i : Int, x = .int i ∧ y = .int i ∧ inR 0 (some (n - 1)) x = true)
theorem BadQ.ext {H H' : Hp} {v : V} {n : Int} (e : LamX.ExtN H H') (h : BadQ H v n) : BadQ H' v n := by
  rcases h with ⟨T, h, n1⟩ | ⟨t, xs, rfl, h, hl⟩ | ⟨t, x, y, rfl, h, hb⟩
  · exact .inl ⟨T, h.ext e, n1⟩
  · exact .inr (.inl ⟨t, xs, rfl, e _ _ h (fun ps z => by cases z), hl⟩)
  · refine .inr (.inr ⟨t, x, y, rfl, e _ _ h (fun ps z => by cases z), ?_⟩)
    rcases hb with ⟨T, a, b⟩ | ⟨i, T, a, b, c, d⟩ | h
    · exact .inl ⟨T, a.ext e, b⟩
    · exact .inr (.inl ⟨i, T, a, b, c.ext e, d⟩)
    · exact .inr (.inr h)
def spIsQX : Sp := fun vs H Q _ => ∃ v n, vs = [v, .int n] ∧ BadQ H v n ∧ Q (.bl false) H
def spCheckQX (C : Addr) : Sp := fun vs H _ E => ∃ v n, vs = [v, .int n] ∧ BadQ H v n ∧ Rz E H C "question" v
def spCheckBoolX (C : Addr) : Sp := fun vs H Q E => ∃ nm v T, vs = [.str nm, v] ∧ AnyV H v T ∧ (T = "bool" → Q .non H) ∧ (T ≠ "bool" → Rz E H C "name" (.str nm))
/-- what is told of an order: the first entry that is none, or -1 -/
inductive OrdQ (H : Hp) (v : V) (n : Nat) : Option Int → Prop
  | odd {T : String} (h : AnyV H v T) (n1 : T ≠ "list") (n2 : T ≠ "tuple") : OrdQ H v n (some (-1))
  | len {p : Addr} {xs : List V} (e : v = .ref p) (h : RowAt H p xs) (hl : xs.length ≠ n) : OrdQ H v n (some (-1))
  | fine {p : Addr} {bs : List Nat} (e : v = .ref p) (h : RowAt H p (nV bs)) (hl : bs.length = n) (nd : bs.Nodup) (lt : ∀ b ∈ bs, b < n) : OrdQ H v n none
  | item {p : Addr} {bs : List Nat} {x : V} {rest : List V} (e : v = .ref p) (h : RowAt H p (nV bs ++ x :: rest)) (hl : bs.length + 1 + rest.length = n) (nd : bs.Nodup) (lt : ∀ b ∈ bs, b < n) (bad : (∃ T, AnyV H x T ∧ inR 0 (some ((n : Int) - 1)) x = false) ∨ ∃ b ∈ bs, x = .int (b : Nat)) : OrdQ H v n (some (bs.length : Int))
theorem OrdQ.ext {H H' : Hp} {v : V} {n : Nat} {r : Option Int} (e : LamX.ExtN H H') (h : OrdQ H v n r) : OrdQ H' v n r := by
  cases h with
  | odd h n1 n2 => exact .odd (h.ext e) n1 n2
  | len e1 h hl => exact .len e1 (h.ext e) hl
  | fine e1 h hl nd lt => exact .fine e1 (h.ext e) hl nd lt
  | item e1 h hl nd lt bad => exact .item e1 (h.ext e) hl nd lt (bad.imp (fun ⟨T, a, b⟩ => ⟨T, a.ext e, b⟩) id)
/-- as one: a row of items, and what follows -/
theorem OrdQ.go {H : Hp} {v : V} {n : Nat} {r : Option Int} (h : OrdQ H v n r) : (∃ T, AnyV H v T ∧ T ≠ "list" ∧ T ≠ "tuple" ∧ r = some (-1)) ∨ (∃ p xs, v = .ref p ∧ RowAt H p xs ∧ xs.length ≠ n ∧ r = some (-1)) ∨
    ∃ (p : Addr) (bs : List Nat) (tl : List V), v = .ref p ∧ RowAt H p (nV bs ++ tl) ∧ (nV bs ++ tl).length = n ∧ bs.Nodup ∧ (∀ b ∈ bs, b < n) ∧ ((tl = [] ∧ r = none) ∨ ∃ x rest, tl = x :: rest ∧ r = some (bs.length : Int) ∧ ((∃ T, AnyV H x T ∧ inR 0 (some ((n : Int) - 1)) x = false) ∨ ∃ b ∈ bs, x = .int (b : Nat))) := by
  cases h with
  | odd h n1 n2 => exact .inl ⟨_, h, n1, n2, rfl⟩
  | len e h hl => exact .inr (.inl ⟨_, _, e, h, hl, rfl⟩)
  | @fine p bs e h hl nd lt => exact .inr (.inr ⟨p, bs, [], e, by rw [List.append_nil]; exact h, by rw [List.append_nil, List.length_map]; exact hl, nd, lt, .inl ⟨rfl, rfl⟩⟩)
  | @item p bs x rest e h hl nd lt bad => exact .inr (.inr ⟨p, bs, x :: rest, e, h, by rw [List.length_append, List.length_map, List.length_cons]; omega, nd, lt, .inr ⟨x, rest, rfl, rfl, bad⟩⟩)
def spCheckOrderX (C : Addr) : Sp := fun vs H Q E => ∃ (v : V) (n : Nat) (r : Option Int), vs = [v, .int (n : Int)] ∧ n ≤ 2000 ∧ OrdQ H v n r ∧ (r = none → ∀ H', Same H H' → Q .non H') ∧ ∀ i, r = some i → Rz E H C "index" (.int i)
section
variable {P : Program} {w : World} {K : PySem.W.Frag} {mg : Str → Option Value} {base : Heap} {a : Ad} {d : Fd}
theorem ok_err_question (T : Txt K mg a d) : FnOk P w K mg base CX0 1 a.InvalidQuestion___init__ d.InvalidQuestion___init__ P_InvalidQuestion___init__ (spErr a.c_InvalidQuestion "question") := by
  refine T.f_InvalidQuestion___init__.ok sc_InvalidQuestion___init__ (fun vs H Q E h => ?_) (fun cdv A outer s H vs Q E hr h => ?_)
  · obtain ⟨e, v, rfl, _⟩ := h
    rfl
  · obtain ⟨e, v, rfl, he, q⟩ := h
    refine ⟨_, (pss_cons (ps_expr (pe_baseinit (by rfl) T.xb.g T.xb.r1 T.xb.r2 T.xb.vi (pa_cons (pv 0) (pa_cons pe_str pa_nil))))
    (pss_one (ps_ost (pv 0) (pv 1)))), ?_⟩
    refine ⟨_, rfl, e, a.c_InvalidQuestion, _, rfl, by show 1 ≤ 1000; decide, T.x_InvalidQuestion.ox, he, ?_⟩
    exact ⟨_, rfl, _, rfl, e, a.c_InvalidQuestion, rfl, T.x_InvalidQuestion.ox, T.x_InvalidQuestion.no, .inl ⟨he, fun dx hd ne => q dx hd ne⟩⟩
theorem ok_err_order (T : Txt K mg a d) : FnOk P w K mg base CX0 1 a.InvalidOrder___init__ d.InvalidOrder___init__ P_InvalidOrder___init__ (spErr a.c_InvalidOrder "index") := by
  refine T.f_InvalidOrder___init__.ok sc_InvalidOrder___init__ (fun vs H Q E h => ?_) (fun cdv A outer s H vs Q E hr h => ?_)
  · obtain ⟨e, v, rfl, _⟩ := h
    rfl
  · obtain ⟨e, v, rfl, he, q⟩ := h
    refine ⟨_, (pss_cons (ps_expr (pe_baseinit (by rfl) T.xb.g T.xb.r1 T.xb.r2 T.xb.vi (pa_cons (pv 0) (pa_cons pe_str pa_nil))))
    (pss_one (ps_ost (pv 0) (pv 1)))), ?_⟩
    refine ⟨_, rfl, e, a.c_InvalidOrder, _, rfl, by show 1 ≤ 1000; decide, T.x_InvalidOrder.ox, he, ?_⟩
    exact ⟨_, rfl, _, rfl, e, a.c_InvalidOrder, rfl, T.x_InvalidOrder.ox, T.x_InvalidOrder.no, .inl ⟨he, fun dx hd ne => q dx hd ne⟩⟩
theorem ok_err_number (T : Txt K mg a d) : FnOk P w K mg base CX0 1 a.InvalidNumber___init__ d.InvalidNumber___init__ P_InvalidNumber___init__ (spErr a.c_InvalidNumber "name") := by
  refine T.f_InvalidNumber___init__.ok sc_InvalidNumber___init__ (fun vs H Q E h => ?_) (fun cdv A outer s H vs Q E hr h => ?_)
  · obtain ⟨e, v, rfl, _⟩ := h
    rfl
  · obtain ⟨e, v, rfl, he, q⟩ := h
    refine ⟨_, (pss_cons (ps_expr (pe_baseinit (by rfl) T.xb.g T.xb.r1 T.xb.r2 T.xb.vi (pa_cons (pv 0) (pa_cons pe_str pa_nil))))
    (pss_one (ps_ost (pv 0) (pv 1)))), ?_⟩
    refine ⟨_, rfl, e, a.c_InvalidNumber, _, rfl, by show 1 ≤ 1000; decide, T.x_InvalidNumber.ox, he, ?_⟩
    exact ⟨_, rfl, _, rfl, e, a.c_InvalidNumber, rfl, T.x_InvalidNumber.ox, T.x_InvalidNumber.no, .inl ⟨he, fun dx hd ne => q dx hd ne⟩⟩
theorem ok_is_item (T : Txt K mg a d) : FnOk P w K mg base CX0 3 a.is_item d.is_item P_is_item (spIsItemX K) := by
  have G_is_within : FnOk P w K mg base CX0 2 a.is_within d.is_within P_is_within (spWithinX K) := ok_is_within T
  refine T.f_is_item.ok sc_is_item (fun vs H Q E h => ?_) (fun cdv A outer s H vs Q E hr h => ?_)
  · obtain ⟨v, n, ok, rfl, _⟩ := h
    rfl
  · obtain ⟨v, n, ok, rfl, hb, q⟩ := h
    refine ⟨_, (pss_one (ps_ret (pe_call G_is_within (hr.mono (by decide)) (by rfl) T.g_is_within T.k_is_within T.b_is_within .nil pass0 (pa_cons (pv 0) (pa_cons pe_int (pa_cons (pe_op op_sub (pv 1) pe_int) pa_nil)))))), ?_⟩
    exact ⟨_, rfl, _, rfl, _, _, rfl, rfl, v, 0, .int (n - 1), ok, rfl, hb, q⟩
theorem kit_tup {v : V} {H : Hp} {T : String} (h : AnyV H v T) : PySem.W.kitOne K (.type T) (.type "tuple") = some (decide (T = "tuple")) := by
  cases h <;> exact kit_ty (by decide +kernel)
theorem ok_is_question (T : Txt K mg a d) : FnOk P w K mg base CX0 4 a.is_question d.is_question P_is_question spIsQX := by
  have G_is_item : FnOk P w K mg base CX0 3 a.is_item d.is_item P_is_item (spIsItemX K) := ok_is_item T
  refine T.f_is_question.ok sc_is_question (fun vs H Q E h => ?_) (fun cdv A outer s H vs Q E hr h => ?_)
  · obtain ⟨v, n, rfl, _⟩ := h
    rfl
  · obtain ⟨v, n, rfl, hb, q⟩ := h
    refine ⟨_, (pss_cons (ps_if (PW.pt (pw_or (pt_not (pt_val (pe_callB call_isi (by rfl) T.z_isinstance (by decide +kernel) (pa_cons (pv 0) (pa_cons (pe_bltn (v := .ty "tuple") (u := .type "tuple") (by rfl) T.z_tuple (by decide +kernel) rfl) pa_nil))))) (pw_or1 (pt_cmpR op_ne (pe_callB call_len_seq (by rfl) T.z_len PySem.boot_len (pa_cons (pv 0) pa_nil)) pe_int (nomark _))))) (pss_one (ps_ret pe_bl)) pss_nil)
    (pss_cons (ps_asg (pv 0) (pg_tup rfl (pgs_cons (pg_name (i := 2) sc_is_question.nd rfl (Or.inl rfl)) (pgs_cons (pg_name (i := 3) sc_is_question.nd rfl (Or.inl rfl)) pgs_nil))))
    (pss_one (ps_ret (pe_and (pe_call G_is_item (hr.mono (by decide)) (by rfl) T.g_is_item T.k_is_item T.b_is_item .nil pass0 (pa_cons (pv 2) (pa_cons (pv 1) pa_nil))) (pe_and (pe_call G_is_item (hr.mono (by decide)) (by rfl) T.g_is_item T.k_is_item T.b_is_item .nil pass0 (pa_cons (pv 3) (pa_cons (pv 1) pa_nil))) (pe_one (pe_cmpR op_ne (pv 2) (pv 3) (nomark _))))))))), ?_⟩
    rcases hb with ⟨Tv, h, n1⟩ | ⟨t, xs, rfl, h, hl⟩ | ⟨t, x, y, rfl, h, hb⟩
    · exact ⟨_, rfl, v, .ty "tuple", _, _, false, rfl, .ty _, h.ty, by rw [kit_tup h, decide_eq_false n1], false, rfl, iteT q⟩
    · refine ⟨_, rfl, .ref t, .ty "tuple", _, _, true, rfl, .ty _, (AnyV.tup h).ty, kit_tup (AnyV.tup h), true, rfl, iteF ?_⟩
      exact ⟨_, rfl, t, xs, rfl, .inr (L2.st_of h), rfl, true, congrArg V.bl (by rw [Bool.not_eq_true']; exact decide_eq_false fun e => hl (by have := V.int.inj e; omega)), iteT q⟩
    · refine ⟨_, rfl, .ref t, .ty "tuple", _, _, true, rfl, .ty _, (AnyV.tup h).ty, kit_tup (AnyV.tup h), true, rfl, iteF ?_⟩
      refine ⟨_, rfl, t, _, rfl, .inr (L2.st_of h), rfl, false, rfl, iteF ?_⟩
      refine ⟨_, rfl, t, _, rfl, L2.st_of h, rfl, _, _, rfl, _, _, rfl, rfl, ?_⟩
      rcases hb with ⟨Tx, a1, b1⟩ | ⟨i, Ty, rfl, a1, c1, b1⟩ | ⟨i, rfl, rfl, a1⟩
      · exact ⟨_, rfl, _, rfl, x, n, false, rfl, by rw [← b1]; exact a1.inB 0 (some (n - 1)), false, rfl, iteF q⟩
      · refine ⟨_, rfl, _, rfl, _, n, true, rfl, by rw [← a1]; exact (AnyV.int i).inB 0 (some (n - 1)), true, rfl, iteT ?_⟩
        exact ⟨_, rfl, _, rfl, y, n, false, rfl, by rw [← b1]; exact c1.inB 0 (some (n - 1)), false, rfl, iteF q⟩
      · refine ⟨_, rfl, _, rfl, _, n, true, rfl, by rw [← a1]; exact (AnyV.int i).inB 0 (some (n - 1)), true, rfl, iteT ?_⟩
        refine ⟨_, rfl, _, rfl, _, n, true, rfl, by rw [← a1]; exact (AnyV.int i).inB 0 (some (n - 1)), true, rfl, iteT ?_⟩
        refine ⟨_, rfl, _, rfl, rfl, ?_⟩
        rw [decide_eq_true rfl]
        exact q
theorem ok_check_question (T : Txt K mg a d) : FnOk P w K mg base (L2.CX P w) 5 a.check_question d.check_question P_check_question (spCheckQX a.c_InvalidQuestion) := by
  have G_is_question : FnOk P w K mg base CX0 4 a.is_question d.is_question P_is_question spIsQX := ok_is_question T
  have G_InvalidQuestion___init__ : FnOk P w K mg base CX0 1 a.InvalidQuestion___init__ d.InvalidQuestion___init__ P_InvalidQuestion___init__ (spErr a.c_InvalidQuestion "question") := ok_err_question T
  refine T.f_check_question.okX sc_check_question (fun vs H Q E h => ?_) (fun cdv A outer s H vs Q E hr h => ?_)
  · obtain ⟨v, n, rfl, _⟩ := h
    rfl
  · obtain ⟨v, n, rfl, hb, zz⟩ := h
    refine ⟨_, (pss_one (ps_if (pt_not (pt_val (pe_call G_is_question (hr.mono (by decide)) (by rfl) T.g_is_question T.k_is_question T.b_is_question .nil pass0 (pa_cons (pv 0) (pa_cons (pv 1) pa_nil))))) (pss_one (ps_raise rfl (takes_of rfl rfl rfl rfl) (pmk_oex T.x_InvalidQuestion.ox T.x_InvalidQuestion.ii T.x_InvalidQuestion.ti G_InvalidQuestion___init__ (hr.mono (by decide)) T.b_InvalidQuestion___init__ .nil pass0 (by rfl) T.x_InvalidQuestion.g (pa_cons (pv 0) pa_nil)))) pss_nil)), ?_⟩
    exact ⟨_, rfl, _, rfl, v, n, rfl, hb, false, rfl, iteT ⟨_, rfl, by show 1 ≤ 1000; decide, fun e heN => ⟨e, _, rfl, upd_same, fun dx hdx ne => ⟨rfl, dx, [("question", v)], upd_same, by rw [upd_ne ne, upd_same], by rw [upd_ne ne] at hdx; exact hdx, (zz) dx _ (fun b o h => by
          rw [upd_ne ne] at hdx
          have nbd : b ≠ dx := ne_of_none h hdx
          have nbe : b ≠ e := ne_of_none h heN
          rw [upd_ne nbd, del_ne nbe, upd_ne nbe, upd_ne nbd, upd_ne nbe]
          exact h) (by rw [upd_ne ne] at hdx; exact hdx) upd_same⟩⟩⟩⟩
theorem ok_check_bool (T : Txt K mg a d) : FnOk P w K mg base (L2.CX P w) 3 a.check_bool d.check_bool P_check_bool (spCheckBoolX a.c_InvalidNumber) := by
  have G_InvalidNumber___init__ : FnOk P w K mg base CX0 1 a.InvalidNumber___init__ d.InvalidNumber___init__ P_InvalidNumber___init__ (spErr a.c_InvalidNumber "name") := ok_err_number T
  refine T.f_check_bool.okX sc_check_bool (fun vs H Q E h => ?_) (fun cdv A outer s H vs Q E hr h => ?_)
  · obtain ⟨nm, v, Tv, rfl, _⟩ := h
    rfl
  · obtain ⟨nm, v, Tv, rfl, hv, q, qx⟩ := h
    refine ⟨_, (pss_one (ps_if (pt_not (pt_val (pe_callB call_isi (by rfl) T.z_isinstance (by decide +kernel) (pa_cons (pv 1) (pa_cons (pe_bltn (v := .ty "bool") (u := .type "bool") (by rfl) T.z_bool (by decide +kernel) rfl) pa_nil))))) (pss_one (ps_raise rfl (takes_of rfl rfl rfl rfl) (pmk_oex T.x_InvalidNumber.ox T.x_InvalidNumber.ii T.x_InvalidNumber.ti G_InvalidNumber___init__ (hr.mono (by decide)) T.b_InvalidNumber___init__ .nil pass0 (by rfl) T.x_InvalidNumber.g (pa_cons (pv 0) pa_nil)))) pss_nil)), ?_⟩
    by_cases c : Tv = "bool"
    · exact ⟨_, rfl, v, .ty "bool", _, _, true, rfl, .ty _, hv.ty, by rw [hv.kitBool, decide_eq_true c], true, rfl, iteF (q c)⟩
    · have zz := qx c
      exact ⟨_, rfl, v, .ty "bool", _, _, false, rfl, .ty _, hv.ty, by rw [hv.kitBool, decide_eq_false c], false, rfl, iteT ⟨_, rfl, by show 1 ≤ 1000; decide, fun e heN => ⟨e, _, rfl, upd_same, fun dx hdx ne => ⟨rfl, dx, [("name", .str nm)], upd_same, by rw [upd_ne ne, upd_same], by rw [upd_ne ne] at hdx; exact hdx, (zz) dx _ (fun b o h => by
          rw [upd_ne ne] at hdx
          have nbd : b ≠ dx := ne_of_none h hdx
          have nbe : b ≠ e := ne_of_none h heN
          rw [upd_ne nbd, del_ne nbe, upd_ne nbe, upd_ne nbd, upd_ne nbe]
          exact h) (by rw [upd_ne ne] at hdx; exact hdx) upd_same⟩⟩⟩⟩
theorem ok_check_order (T : Txt K mg a d) : FnOk P w K mg base (L2.CX P w) 4 a.check_order d.check_order P_check_order (spCheckOrderX a.c_InvalidOrder) := by
  have G_is_item : FnOk P w K mg base CX0 3 a.is_item d.is_item P_is_item (spIsItemX K) := ok_is_item T
  have G_InvalidOrder___init__ : FnOk P w K mg base CX0 1 a.InvalidOrder___init__ d.InvalidOrder___init__ P_InvalidOrder___init__ (spErr a.c_InvalidOrder "index") := ok_err_order T
  refine T.f_check_order.okX sc_check_order (fun vs H Q E h => ?_) (fun cdv A outer s H vs Q E hr h => ?_)
  · obtain ⟨v, n, r, rfl, _⟩ := h
    rfl
  · obtain ⟨v, n, r, rfl, hn, hq, q, qx⟩ := h
    refine ⟨_, (pss_cons (ps_if (PW.pt (pw_or (pt_not (pt_val (pe_callB call_isiT (by rfl) T.z_isinstance (by decide +kernel) (pa_cons (pv 0) (pa_cons (pe_tup (pa_cons (pe_bltn (v := .ty "list") (u := .type "list") (by rfl) T.z_list (by decide +kernel) rfl) (pa_cons (pe_bltn (v := .ty "tuple") (u := .type "tuple") (by rfl) T.z_tuple (by decide +kernel) rfl) pa_nil))) pa_nil))))) (pw_or1 (pt_cmpR op_ne (pe_callB call_len_seq (by rfl) T.z_len PySem.boot_len (pa_cons (pv 0) pa_nil)) (pv 1) (nomark _))))) (pss_one (ps_raise rfl (takes_of rfl rfl rfl rfl) (pmk_oex T.x_InvalidOrder.ox T.x_InvalidOrder.ii T.x_InvalidOrder.ti G_InvalidOrder___init__ (hr.mono (by decide)) T.b_InvalidOrder___init__ .nil pass0 (by rfl) T.x_InvalidOrder.g (pa_cons (pe_un un_neg pe_int) pa_nil)))) pss_nil)
    (pss_cons (ps_set (i := 2) sc_check_order.nd rfl (Or.inl rfl) (pe_op op_rep (pe_lst (pa_cons pe_bl pa_nil)) (pv 1)))
    (pss_one (ps_for (passes_of rfl) rfl (pi_enumA (by rfl) T.z_enumerate (pa_cons (pv 0) pa_nil)) (pg_tup rfl (pgs_cons (pg_name (i := 3) sc_check_order.nd rfl (Or.inl rfl)) (pgs_cons (pg_name (i := 4) sc_check_order.nd rfl (Or.inl rfl)) pgs_nil)))
      (pss_cons (ps_if (PW.pt (pw_or (pt_not (pt_val (pe_call G_is_item (hr.mono (by decide)) (by rfl) T.g_is_item T.k_is_item T.b_is_item .nil pass0 (pa_cons (pv 4) (pa_cons (pv 1) pa_nil))))) (pw_or1 (pt_val (pe_ix ix_list (pv 2) (pv 4) (fun _ _ => rfl)))))) (pss_one (ps_raise rfl (takes_of rfl rfl rfl rfl) (pmk_oex T.x_InvalidOrder.ox T.x_InvalidOrder.ii T.x_InvalidOrder.ti G_InvalidOrder___init__ (hr.mono (by decide)) T.b_InvalidOrder___init__ .nil pass0 (by rfl) T.x_InvalidOrder.g (pa_cons (pv 3) pa_nil)))) pss_nil)
        (pss_one (ps_asg pe_bl (pg_sub (pv 2) (pv 4) set_list)))))))), ?_⟩
    refine ⟨_, rfl, by show 2 ≤ sizeLine; decide, fun tp htp => ?_⟩
    have s1 : Same H (upd H tp (.tup [.ty "list", .ty "tuple"])) := same_upd htp
    have hT : upd H tp (.tup [.ty "list", .ty "tuple"]) tp = some (.tup [.ty "list", .ty "tuple"]) := upd_same
    generalize upd H tp (.tup [.ty "list", .ty "tuple"]) = H1 at s1 hT ⊢
    have cs : Paired ClsV [.ty "list", .ty "tuple"] [.type "list", .type "tuple"] := .cons (.ty _) (.cons (.ty _) .nil)
    have RR : ∀ {i : Int}, r = some i → Rz E H1 a.c_InvalidOrder "index" (.int i) := fun h => (qx _ h).same s1
    rcases hq.go with ⟨Tn, h, n1, n2, er⟩ | ⟨p, xs, rfl, hR, hl, er⟩ | ⟨p, bs, tl, rfl, hR, hl, nd, lt, htl⟩
    · have zz := RR er
      refine ⟨v, tp, _, _, _, false, rfl, hT, cs, (h.same s1).ty, kit_lt h n1 n2, false, rfl, iteT ?_⟩
      exact ⟨_, rfl, by show 1 ≤ 1000; decide, fun e heN => ⟨e, _, rfl, upd_same, fun dx hdx ne => ⟨rfl, dx, [("index", .int (-1))], upd_same, by rw [upd_ne ne, upd_same], by rw [upd_ne ne] at hdx; exact hdx, (zz) dx _ (fun b o h => by
          rw [upd_ne ne] at hdx
          have nbd : b ≠ dx := ne_of_none h hdx
          have nbe : b ≠ e := ne_of_none h heN
          rw [upd_ne nbd, del_ne nbe, upd_ne nbe, upd_ne nbd, upd_ne nbe]
          exact h) (by rw [upd_ne ne] at hdx; exact hdx) upd_same⟩⟩⟩
    · have zz := RR er
      have hR1 := hR.same s1
      obtain ⟨t, hty, hkit⟩ := kit_row (K := K) hR1
      refine ⟨.ref p, tp, _, t, _, true, rfl, hT, cs, hty, hkit, true, rfl, iteF ?_⟩
      refine ⟨_, rfl, p, _, rfl, hR1.imp L2.sq_of L2.st_of, _, rfl, rfl, true, congrArg V.bl (by rw [Bool.not_eq_true']; exact decide_eq_false fun e => hl (by have := V.int.inj e; omega)), iteT ?_⟩
      exact ⟨_, rfl, by show 1 ≤ 1000; decide, fun e heN => ⟨e, _, rfl, upd_same, fun dx hdx ne => ⟨rfl, dx, [("index", .int (-1))], upd_same, by rw [upd_ne ne, upd_same], by rw [upd_ne ne] at hdx; exact hdx, (zz) dx _ (fun b o h => by
          rw [upd_ne ne] at hdx
          have nbd : b ≠ dx := ne_of_none h hdx
          have nbe : b ≠ e := ne_of_none h heN
          rw [upd_ne nbd, del_ne nbe, upd_ne nbe, upd_ne nbd, upd_ne nbe]
          exact h) (by rw [upd_ne ne] at hdx; exact hdx) upd_same⟩⟩⟩
    · have hR1 := hR.same s1
      obtain ⟨t, hty, hkit⟩ := kit_row (K := K) hR1
      have hS : SqL K H1 p (nV bs ++ tl) ∨ SqT K H1 p (nV bs ++ tl) := hR1.imp L2.sq_of L2.st_of
      refine ⟨.ref p, tp, _, t, _, true, rfl, hT, cs, hty, hkit, true, rfl, iteF ?_⟩
      refine ⟨_, rfl, p, _, rfl, hS, _, rfl, rfl, false, congrArg V.bl (by rw [hl]; simp), iteF ?_⟩
      refine ⟨by show 1 ≤ sizeLine; decide, fun l hl0 => ⟨_, rfl, l, n, _, rfl, rfl, upd_same, by omega, by omega, ?_, fun sn hsn => ?_⟩⟩
      · show 1 * (n : Int).toNat ≤ sizeLine
        exact Nat.le_trans (by omega) (by decide : 2000 ≤ sizeLine)
      have s2 : Same H1 (upd H1 l (.lst [.bl false])) := same_upd hl0
      generalize upd H1 l (.lst [.bl false]) = H2 at s2 hsn ⊢
      have hS2 : SqL K H2 p (nV bs ++ tl) ∨ SqT K H2 p (nV bs ++ tl) := hS.imp s2.seq (Same.tupS s2)
      have hs0 : upd H2 sn (.lst (List.replicate (n : Int).toNat [V.bl false]).flatten) sn = some (.lst (seenAt n [])) := by
        rw [upd_same, rep_flatV, Int.toNat_natCast, seen_nil]
      have s3 : Same H2 (upd H2 sn (.lst (List.replicate (n : Int).toNat [V.bl false]).flatten)) := same_upd hsn
      have s02 := s1.trans s2
      -- an item that is one: what the turn does
      have step : ∀ (i b : Nat) (H3 : Hp), bs[i]? = some b → H3 sn = some (.lst (seenAt n (bs.take i))) →
          b < n ∧ atI (seenAt n (bs.take i)) (b : Int) = some (.bl false) ∧ ixN (seenAt n (bs.take i)).length (b : Int) = some b ∧ (seenAt n (bs.take i)).set b (.bl true) = seenAt n (bs.take (i + 1)) := by
        intro i b H3 hb hs
        have lb : b < n := lt b (List.mem_of_getElem? hb)
        refine ⟨lb, atI_nat ?_, ?_, ?_⟩
        · rw [seen_at lb]
          simp [not_before nd hb]
        · rw [seen_len]
          unfold ixN
          rw [if_pos (by omega), if_pos (by omega), Int.toNat_natCast]
        · rw [seen_set lb, take_more hb]
      have ln : (nV bs).length = bs.length := List.length_map _
      -- which item stands at i
      have which : ∀ (i : Nat) (y : V), (nV bs ++ tl)[i]? = some y → i ≤ bs.length → (∃ b, bs[i]? = some b ∧ y = .int (b : Nat) ∧ i < bs.length) ∨ (i = bs.length ∧ r = some (i : Int) ∧ ((∃ T, AnyV H y T ∧ inR 0 (some ((n : Int) - 1)) y = false) ∨ ∃ b ∈ bs, y = .int (b : Nat))) := fun i y hy hi => by
        rcases Nat.lt_or_ge i bs.length with c | c
        · rw [List.getElem?_append_left (by omega)] at hy
          obtain ⟨b, hb, rfl⟩ := nV_item hy
          exact .inl ⟨b, hb, rfl, c⟩
        · obtain rfl : i = bs.length := by omega
          rw [List.getElem?_append_right (by omega), ln, Nat.sub_self] at hy
          rcases htl with ⟨rfl, _⟩ | ⟨x, rest, rfl, er, hb⟩
          · cases hy
          · cases hy
            exact .inr ⟨rfl, er, hb⟩
      have fin : ∀ (k : Nat) H', (k = (nV bs ++ tl).length) → k ≤ bs.length → Same H2 H' → Q .non H' := fun k H' ek hk sm => by
        refine q ?_ H' (s02.trans sm)
        rcases htl with ⟨_, er⟩ | ⟨x, rest, rfl, _, _⟩
        · exact er
        · rw [List.length_append, ln, List.length_cons] at ek
          omega
      refine ⟨_, rfl, p, nV bs ++ tl, rfl, ?_⟩
      rcases hS2 with hs | hs
      · refine .inl ⟨s3.seq hs, for_iteL (K := K) (a := p) (xs := nV bs ++ tl) (fun i σ H' => (∃ u v, σ = [some (.ref p), some (.int n), some (.ref sn), u, v]) ∧ i ≤ bs.length ∧ Same H2 H' ∧ H' sn = some (.lst (seenAt n (bs.take i)))) ⟨⟨_, _, rfl⟩, Nat.zero_le _, s3, hs0⟩ (fun i σ H' _ h => h.2.2.1.seq hs) ?_ (fun σ H' h => fin _ H' rfl h.2.1 h.2.2.1)⟩
        rintro i y σ H3 Tp hy ⟨⟨u, v, rfl⟩, hi, sm, hs3⟩ hn
        have hs4 : upd H3 Tp (.tup [.int (i : Nat), y]) sn = some (.lst (seenAt n (bs.take i))) := (same_upd hn) _ _ hs3
        have sm4 := sm.trans (same_upd (o := .tup [.int (i : Nat), y]) hn)
        refine ⟨Tp, _, rfl, L2.st_of upd_same, rfl, _, _, rfl, _, _, rfl, rfl, ?_⟩
        generalize upd H3 Tp (.tup [.int (i : Nat), y]) = H4 at hs4 sm4 ⊢
        rcases which i y hy hi with ⟨b, hb, rfl, hlt⟩ | ⟨ei, er, ⟨Ty, a1, b1⟩ | ⟨b, hb, rfl⟩⟩
        · obtain ⟨lb, g1, g2, g3⟩ := step i b H4 hb hs4
          refine ⟨_, rfl, _, rfl, _, n, true, rfl, .yes (by omega) (by omega), true, rfl, iteF ?_⟩
          refine ⟨_, rfl, _, rfl, sn, _, _, _, rfl, rfl, L2.sq_of hs4, g1, false, rfl, iteF ?_⟩
          refine ⟨_, rfl, _, rfl, sn, _, _, b, rfl, rfl, hs4, g2, ⟨_, _, rfl⟩, hlt, fun c o e => ?_, ?_⟩
          · rw [upd_ne (ne_of_none e hsn)]
            exact sm4 _ _ e
          · rw [upd_same, g3]
        · have zz := (RR er).same (s2.trans sm4)
          exact ⟨_, rfl, _, rfl, y, n, false, rfl, by rw [← b1]; exact (a1.same (s02.trans sm4)).inB 0 (some ((n : Int) - 1)), false, rfl, iteT ⟨_, rfl, by show 1 ≤ 1000; decide, fun e heN => ⟨e, _, rfl, upd_same, fun dx hdx ne => ⟨rfl, dx, [("index", .int (i : Int))], upd_same, by rw [upd_ne ne, upd_same], by rw [upd_ne ne] at hdx; exact hdx, (zz) dx _ (fun b o h => by
          rw [upd_ne ne] at hdx
          have nbd : b ≠ dx := ne_of_none h hdx
          have nbe : b ≠ e := ne_of_none h heN
          rw [upd_ne nbd, del_ne nbe, upd_ne nbe, upd_ne nbd, upd_ne nbe]
          exact h) (by rw [upd_ne ne] at hdx; exact hdx) upd_same⟩⟩⟩⟩
        · have zz := (RR er).same (s2.trans sm4)
          have lb := lt b hb
          refine ⟨_, rfl, _, rfl, _, n, true, rfl, .yes (by omega) (by omega), true, rfl, iteF ?_⟩
          refine ⟨_, rfl, _, rfl, sn, _, _, .bl true, rfl, rfl, L2.sq_of hs4, atI_nat ?_, true, rfl, iteT ⟨_, rfl, by show 1 ≤ 1000; decide, fun e heN => ⟨e, _, rfl, upd_same, fun dx hdx ne => ⟨rfl, dx, [("index", .int (i : Int))], upd_same, by rw [upd_ne ne, upd_same], by rw [upd_ne ne] at hdx; exact hdx, (zz) dx _ (fun b o h => by
          rw [upd_ne ne] at hdx
          have nbd : b ≠ dx := ne_of_none h hdx
          have nbe : b ≠ e := ne_of_none h heN
          rw [upd_ne nbd, del_ne nbe, upd_ne nbe, upd_ne nbd, upd_ne nbe]
          exact h) (by rw [upd_ne ne] at hdx; exact hdx) upd_same⟩⟩⟩⟩
          rw [seen_at lb, ei, List.take_length, decide_eq_true hb]
      · refine .inr ⟨Same.tupS s3 hs, for_iteT (K := K) (a := p) (xs := nV bs ++ tl) (fun i σ H' => (∃ u v, σ = [some (.ref p), some (.int n), some (.ref sn), u, v]) ∧ i ≤ bs.length ∧ Same H2 H' ∧ H' sn = some (.lst (seenAt n (bs.take i)))) ⟨⟨_, _, rfl⟩, Nat.zero_le _, s3, hs0⟩ (fun i σ H' _ h => Same.tupS h.2.2.1 hs) ?_ (fun σ H' h => fin _ H' rfl h.2.1 h.2.2.1)⟩
        rintro i y σ H3 Tp hy ⟨⟨u, v, rfl⟩, hi, sm, hs3⟩ hn
        have hs4 : upd H3 Tp (.tup [.int (i : Nat), y]) sn = some (.lst (seenAt n (bs.take i))) := (same_upd hn) _ _ hs3
        have sm4 := sm.trans (same_upd (o := .tup [.int (i : Nat), y]) hn)
        refine ⟨Tp, _, rfl, L2.st_of upd_same, rfl, _, _, rfl, _, _, rfl, rfl, ?_⟩
        generalize upd H3 Tp (.tup [.int (i : Nat), y]) = H4 at hs4 sm4 ⊢
        rcases which i y hy hi with ⟨b, hb, rfl, hlt⟩ | ⟨ei, er, ⟨Ty, a1, b1⟩ | ⟨b, hb, rfl⟩⟩
        · obtain ⟨lb, g1, g2, g3⟩ := step i b H4 hb hs4
          refine ⟨_, rfl, _, rfl, _, n, true, rfl, .yes (by omega) (by omega), true, rfl, iteF ?_⟩
          refine ⟨_, rfl, _, rfl, sn, _, _, _, rfl, rfl, L2.sq_of hs4, g1, false, rfl, iteF ?_⟩
          refine ⟨_, rfl, _, rfl, sn, _, _, b, rfl, rfl, hs4, g2, ⟨_, _, rfl⟩, hlt, fun c o e => ?_, ?_⟩
          · rw [upd_ne (ne_of_none e hsn)]
            exact sm4 _ _ e
          · rw [upd_same, g3]
        · have zz := (RR er).same (s2.trans sm4)
          exact ⟨_, rfl, _, rfl, y, n, false, rfl, by rw [← b1]; exact (a1.same (s02.trans sm4)).inB 0 (some ((n : Int) - 1)), false, rfl, iteT ⟨_, rfl, by show 1 ≤ 1000; decide, fun e heN => ⟨e, _, rfl, upd_same, fun dx hdx ne => ⟨rfl, dx, [("index", .int (i : Int))], upd_same, by rw [upd_ne ne, upd_same], by rw [upd_ne ne] at hdx; exact hdx, (zz) dx _ (fun b o h => by
          rw [upd_ne ne] at hdx
          have nbd : b ≠ dx := ne_of_none h hdx
          have nbe : b ≠ e := ne_of_none h heN
          rw [upd_ne nbd, del_ne nbe, upd_ne nbe, upd_ne nbd, upd_ne nbe]
          exact h) (by rw [upd_ne ne] at hdx; exact hdx) upd_same⟩⟩⟩⟩
        · have zz := (RR er).same (s2.trans sm4)
          have lb := lt b hb
          refine ⟨_, rfl, _, rfl, _, n, true, rfl, .yes (by omega) (by omega), true, rfl, iteF ?_⟩
          refine ⟨_, rfl, _, rfl, sn, _, _, .bl true, rfl, rfl, L2.sq_of hs4, atI_nat ?_, true, rfl, iteT ⟨_, rfl, by show 1 ≤ 1000; decide, fun e heN => ⟨e, _, rfl, upd_same, fun dx hdx ne => ⟨rfl, dx, [("index", .int (i : Int))], upd_same, by rw [upd_ne ne, upd_same], by rw [upd_ne ne] at hdx; exact hdx, (zz) dx _ (fun b o h => by
          rw [upd_ne ne] at hdx
          have nbd : b ≠ dx := ne_of_none h hdx
          have nbe : b ≠ e := ne_of_none h heN
          rw [upd_ne nbd, del_ne nbe, upd_ne nbe, upd_ne nbd, upd_ne nbe]
          exact h) (by rw [upd_ne ne] at hdx; exact hdx) upd_same⟩⟩⟩⟩
          rw [seen_at lb, ei, List.take_length, decide_eq_true hb]
end

end K04

namespace K04
open PySem PySem.Spec PyProof.Rows L2 
section
variable {P : Program} {w : World} {K : PySem.W.Frag} {mg : Str → Option Value} {base : Heap} {a : Ad} {d : Fd}
theorem ok_stable (T : Txt K mg a d) : FnOk P w K mg base CX0 1 a.stable d.stable P_stable spStable := by
  refine T.f_stable.ok sc_stable (fun vs H Q E h => ?_) (fun cdv A outer s H vs Q E hr h => ?_)
  · obtain ⟨p, ks, rev, rfl, _⟩ := h
    rfl
  · obtain ⟨p, ks, rev, rfl, hK, hlen, q⟩ := h
    refine ⟨_, (pss_cons (ps_set (i := 2) sc_stable.nd rfl (Or.inr rfl) (pe_ifExp (pt_val (pv 1)) (pe_un un_neg pe_int) pe_int))
    (pss_cons (ps_set (i := 3) sc_stable.nd rfl (Or.inl rfl) (pe_callB cr_sortedPO (by rfl) T.z_sorted (by decide +kernel) (pa_cons (pe_lc (own := [("item", 4), ("key", 5)]) (g := gTup K 2 (gCons (gName 4) (gCons (gName 5) gNil))) (tt := tYes) rfl sc_stable.nd (pi_enumA (by rfl) T.z_enumerate (pa_cons (pv 0) pa_nil)) (blkOk_by (N := N_stable) (sc := defScope s_stable) (by decide +kernel)) (fun _ _ _ _ _ => pg_tup rfl (pgs_cons (pg_name (i := 4) sc_stable.nd rfl (Or.inl rfl)) (pgs_cons (pg_name (i := 5) sc_stable.nd rfl (Or.inl rfl)) pgs_nil))) (fun _ _ _ _ _ => pts_nil) (fun _ _ _ _ _ => (pe_tup (pa_cons (pe_op op_mul (pv 2) (pv 5)) (pa_cons (pv 4) pa_nil))))) pa_nil)))
    (pss_one (ps_ret (pe_lc (own := [("_", 6), ("item", 4)]) (g := gTup K 2 (gCons (gName 6) (gCons (gName 4) gNil))) (tt := tYes) rfl sc_stable.nd (pi_list (pv 3)) (blkOk_by (N := N_stable) (sc := defScope s_stable) (by decide +kernel)) (fun _ _ _ _ _ => pg_tup rfl (pgs_cons (pg_name (i := 6) sc_stable.nd rfl (Or.inl rfl)) (pgs_cons (pg_name (i := 4) sc_stable.nd rfl (Or.inl rfl)) pgs_nil))) (fun _ _ _ _ _ => pts_nil) (fun _ _ _ _ _ => (pv 4))))))), ?_⟩
    have hS : SqL K H p (ks.map V.int) ∨ SqT K H p (ks.map V.int) := hK.imp L2.sq_of L2.st_of
    cases rev with
    | true =>
      refine ⟨_, rfl, true, rfl, iteT ?_⟩
      refine ⟨_, rfl, ?_⟩
      have hsg : ∀ j, keyf ks true j = -1 * ks.getD j 0 := fun j => by unfold keyf; rw [if_pos rfl]; omega
      refine ⟨_, rfl, p, ks.map V.int, rfl, ?_⟩
      rcases hS with hs | hs
      · refine .inl ⟨hs, fun D0 fD => ?_⟩
        refine lc_iteL (K := K) (a := p) (xs := ks.map V.int) (fun i H' => ∃ ts : List Addr, ts.length = i ∧ H' D0 = some (.lst (ts.map V.ref)) ∧ (∀ j t, ts[j]? = some t → ∃ z, ks[j]? = some z ∧ H' t = some (.tup [.int ((-1) * z), .int (j : Nat)])) ∧ Same H H') ⟨[], rfl, upd_same, fun j t h => (by cases h), same_upd fD⟩ (fun i H' _ ⟨_, _, _, _, h⟩ => h.seq hs) ?_ ?_
        · rintro i x H3 T1 hx ⟨ts, hl, hD, hh, sm⟩ hT1
          obtain ⟨z, hz, rfl⟩ := keys_item hx
          refine ⟨T1, _, rfl, L2.st_of upd_same, rfl, _, _, rfl, _, _, rfl, rfl, rfl, ?_⟩
          refine ⟨_, rfl, _, rfl, _, _, rfl, rfl, .inl (by first | exact ⟨by decide, by decide⟩ | omega), _, rfl, by show 2 ≤ sizeLine; decide, fun t ht => ?_⟩
          have sA : Same H3 (upd H3 T1 (.tup [.int (i : Nat), .int z])) := same_upd hT1
          have sB := sA.trans (same_upd (o := .tup [.int ((-1) * z), .int (i : Nat)]) ht)
          refine ⟨_, sB _ _ hD, ?_, ts ++ [t], by simp [hl], ?_, ?_, ?_⟩
          · rw [List.length_map, hl]
            have q1 := (List.getElem?_eq_some_iff.mp hz).1
            exact Nat.lt_of_lt_of_le q1 (Nat.le_trans hlen (by decide : 2000 ≤ sizeLine))
          · rw [upd_same, List.map_append]
            rfl
          · intro j u hu
            have nD : u ≠ D0 := fun e => by
              subst e
              by_cases hj : j < ts.length
              · rw [List.getElem?_append_left hj] at hu
                obtain ⟨z2, _, e2⟩ := hh j _ hu
                rw [hD] at e2
                cases e2
              · rw [List.getElem?_append_right (by omega)] at hu
                have e3 : u = t := (List.mem_singleton.mp (List.mem_of_getElem? hu))
                rw [← e3, sA _ _ hD] at ht
                cases ht
            rw [upd_ne nD]
            by_cases hj : j < ts.length
            · rw [List.getElem?_append_left hj] at hu
              obtain ⟨z2, e1, e2⟩ := hh j _ hu
              exact ⟨z2, e1, sB _ _ e2⟩
            · rw [List.getElem?_append_right (by omega)] at hu
              have q1 := (List.getElem?_eq_some_iff.mp hu).1
              have ej : j = i := by
                rw [List.length_singleton] at q1
                omega
              subst ej
              have e3 : u = t := (List.mem_singleton.mp (List.mem_of_getElem? hu))
              rw [e3]
              exact ⟨z, hz, upd_same⟩
          · intro b o e
            rw [upd_ne (ne_of_none e fD)]
            exact sB _ _ (sm _ _ e)
        · rintro H5 ⟨ts, hl, hD, hh, sm⟩
          obtain ⟨hD5, hts, sm5, lts⟩ : H5 D0 = some (.lst (ts.map V.ref)) ∧ (∀ j t, ts[j]? = some t → ∃ z, ks[j]? = some z ∧ H5 t = some (.tup [.int ((-1) * z), .int (j : Nat)])) ∧ Same H H5 ∧ ts.length = ks.length := ⟨hD, hh, sm, by rw [hl, List.length_map]⟩
          have hpr : ∀ x ∈ ts.map V.ref, ∃ t, x = V.ref t ∧ H5 t = some (.tup [.int (pairOf H5 x).1, .int (pairOf H5 x).2]) := fun x hx => by
            obtain ⟨t, ht, rfl⟩ := List.mem_map.mp hx
            obtain ⟨j, hj⟩ := List.getElem?_of_mem ht
            obtain ⟨z, _, e⟩ := hts j t hj
            exact ⟨t, rfl, by rw [pairOf_at e]; exact e⟩
          refine ⟨D0, ts.map V.ref, pairOf H5, rfl, L2.sq_of hD5, hpr, fun ys r srt stb hr0 => ?_⟩
          have sm6 : Same H5 (upd H5 r (.lst ys)) := same_upd hr0
          have ep : ((ts.map V.ref).map (pairOf H5)) = (List.range ks.length).map fun (i : Nat) => (keyf ks true i, (i : Int)) := by
            refine List.ext_getElem? fun j => ?_
            rw [List.getElem?_map, List.getElem?_map, List.getElem?_map]
            by_cases hj : j < ts.length
            · rw [List.getElem?_eq_getElem hj, List.getElem?_range (by omega)]
              obtain ⟨z, hz, e⟩ := hts j _ (List.getElem?_eq_getElem hj)
              show some (pairOf H5 (.ref ts[j])) = some (keyf ks true j, (j : Int))
              rw [pairOf_at e]
              have e2 : ks.getD j 0 = z := by rw [List.getD_eq_getElem?_getD, hz]; rfl
              rw [hsg, e2]
            · rw [List.getElem?_eq_none (by omega), List.getElem?_eq_none (by rw [List.length_range]; omega)]
              rfl
          obtain ⟨os, so, eo⟩ := stab_of_pairs (f := keyf ks true) (n := ks.length) (ps := ys.map (pairOf H5)) (by rw [← ep]; exact stb.perm.map _) (by
            rw [List.pairwise_map]
            exact srt.imp fun {x y} h => SrtO.lexB_no.mp h)
          have hy : ∀ x ∈ ys, ∃ t, x = V.ref t ∧ H5 t = some (.tup [.int (pairOf H5 x).1, .int (pairOf H5 x).2]) := fun x hx => hpr x (stb.perm.mem_iff.mp hx)
          have ly : ys.length ≤ 2000 := by
            rw [stb.perm.length_eq, List.length_map]
            omega
          -- [item for _, item in pairs]
          refine ⟨_, rfl, r, rfl, ⟨_, L2.sq_of upd_same⟩, fun D2 hD2 => ?_⟩
          refine lc_list (K := K) (a := r) (xs := ys) (fun i H' => Same (upd H5 r (.lst ys)) H' ∧ H' D2 = some (.lst ((ys.take i).map fun x => V.int (pairOf H5 x).2))) ⟨same_upd hD2, upd_same⟩ (fun i H' _ h => L2.sq_of (h.1 _ _ upd_same)) ?_ ?_
          · rintro i x H6 hx ⟨s6, h6⟩
            obtain ⟨t, rfl, ht⟩ := hy x (List.mem_of_getElem? hx)
            refine ⟨t, _, rfl, L2.st_of (s6 _ _ (sm6 _ _ ht)), rfl, _, _, rfl, _, _, rfl, rfl, rfl, ?_⟩
            refine ⟨_, rfl, _, h6, ?_, ?_, ?_⟩
            · rw [List.length_map, List.length_take]
              exact Nat.lt_of_le_of_lt (Nat.le_trans (Nat.min_le_right _ _) ly) (by decide)
            · intro b o e
              rw [upd_ne (ne_of_none e hD2)]
              exact s6 _ _ e
            · rw [upd_same, take_more hx, List.map_append]
              rfl
          · rintro H6 ⟨s6, h6⟩
            have e6 : (ys.take ys.length).map (fun x => V.int (pairOf H5 x).2) = nV os := by
              rw [List.take_length]
              have e7 : (ys.map (pairOf H5)).map (fun q => V.int q.2) = nV os := by
                rw [eo, List.map_map]
                rfl
              rw [List.map_map] at e7
              exact e7
            rw [e6] at h6
            exact q D2 os H6 so (sm5.free (sm6.free hD2)) ((sm5.trans sm6).trans s6) h6

      · refine .inr ⟨hs, fun D0 fD => ?_⟩
        refine lc_iteT (K := K) (a := p) (xs := ks.map V.int) (fun i H' => ∃ ts : List Addr, ts.length = i ∧ H' D0 = some (.lst (ts.map V.ref)) ∧ (∀ j t, ts[j]? = some t → ∃ z, ks[j]? = some z ∧ H' t = some (.tup [.int ((-1) * z), .int (j : Nat)])) ∧ Same H H') ⟨[], rfl, upd_same, fun j t h => (by cases h), same_upd fD⟩ (fun i H' _ ⟨_, _, _, _, h⟩ => Same.tupS h hs) ?_ ?_
        · rintro i x H3 T1 hx ⟨ts, hl, hD, hh, sm⟩ hT1
          obtain ⟨z, hz, rfl⟩ := keys_item hx
          refine ⟨T1, _, rfl, L2.st_of upd_same, rfl, _, _, rfl, _, _, rfl, rfl, rfl, ?_⟩
          refine ⟨_, rfl, _, rfl, _, _, rfl, rfl, .inl (by first | exact ⟨by decide, by decide⟩ | omega), _, rfl, by show 2 ≤ sizeLine; decide, fun t ht => ?_⟩
          have sA : Same H3 (upd H3 T1 (.tup [.int (i : Nat), .int z])) := same_upd hT1
          have sB := sA.trans (same_upd (o := .tup [.int ((-1) * z), .int (i : Nat)]) ht)
          refine ⟨_, sB _ _ hD, ?_, ts ++ [t], by simp [hl], ?_, ?_, ?_⟩
          · rw [List.length_map, hl]
            have q1 := (List.getElem?_eq_some_iff.mp hz).1
            exact Nat.lt_of_lt_of_le q1 (Nat.le_trans hlen (by decide : 2000 ≤ sizeLine))
          · rw [upd_same, List.map_append]
            rfl
          · intro j u hu
            have nD : u ≠ D0 := fun e => by
              subst e
              by_cases hj : j < ts.length
              · rw [List.getElem?_append_left hj] at hu
                obtain ⟨z2, _, e2⟩ := hh j _ hu
                rw [hD] at e2
                cases e2
              · rw [List.getElem?_append_right (by omega)] at hu
                have e3 : u = t := (List.mem_singleton.mp (List.mem_of_getElem? hu))
                rw [← e3, sA _ _ hD] at ht
                cases ht
            rw [upd_ne nD]
            by_cases hj : j < ts.length
            · rw [List.getElem?_append_left hj] at hu
              obtain ⟨z2, e1, e2⟩ := hh j _ hu
              exact ⟨z2, e1, sB _ _ e2⟩
            · rw [List.getElem?_append_right (by omega)] at hu
              have q1 := (List.getElem?_eq_some_iff.mp hu).1
              have ej : j = i := by
                rw [List.length_singleton] at q1
                omega
              subst ej
              have e3 : u = t := (List.mem_singleton.mp (List.mem_of_getElem? hu))
              rw [e3]
              exact ⟨z, hz, upd_same⟩
          · intro b o e
            rw [upd_ne (ne_of_none e fD)]
            exact sB _ _ (sm _ _ e)
        · rintro H5 ⟨ts, hl, hD, hh, sm⟩
          obtain ⟨hD5, hts, sm5, lts⟩ : H5 D0 = some (.lst (ts.map V.ref)) ∧ (∀ j t, ts[j]? = some t → ∃ z, ks[j]? = some z ∧ H5 t = some (.tup [.int ((-1) * z), .int (j : Nat)])) ∧ Same H H5 ∧ ts.length = ks.length := ⟨hD, hh, sm, by rw [hl, List.length_map]⟩
          have hpr : ∀ x ∈ ts.map V.ref, ∃ t, x = V.ref t ∧ H5 t = some (.tup [.int (pairOf H5 x).1, .int (pairOf H5 x).2]) := fun x hx => by
            obtain ⟨t, ht, rfl⟩ := List.mem_map.mp hx
            obtain ⟨j, hj⟩ := List.getElem?_of_mem ht
            obtain ⟨z, _, e⟩ := hts j t hj
            exact ⟨t, rfl, by rw [pairOf_at e]; exact e⟩
          refine ⟨D0, ts.map V.ref, pairOf H5, rfl, L2.sq_of hD5, hpr, fun ys r srt stb hr0 => ?_⟩
          have sm6 : Same H5 (upd H5 r (.lst ys)) := same_upd hr0
          have ep : ((ts.map V.ref).map (pairOf H5)) = (List.range ks.length).map fun (i : Nat) => (keyf ks true i, (i : Int)) := by
            refine List.ext_getElem? fun j => ?_
            rw [List.getElem?_map, List.getElem?_map, List.getElem?_map]
            by_cases hj : j < ts.length
            · rw [List.getElem?_eq_getElem hj, List.getElem?_range (by omega)]
              obtain ⟨z, hz, e⟩ := hts j _ (List.getElem?_eq_getElem hj)
              show some (pairOf H5 (.ref ts[j])) = some (keyf ks true j, (j : Int))
              rw [pairOf_at e]
              have e2 : ks.getD j 0 = z := by rw [List.getD_eq_getElem?_getD, hz]; rfl
              rw [hsg, e2]
            · rw [List.getElem?_eq_none (by omega), List.getElem?_eq_none (by rw [List.length_range]; omega)]
              rfl
          obtain ⟨os, so, eo⟩ := stab_of_pairs (f := keyf ks true) (n := ks.length) (ps := ys.map (pairOf H5)) (by rw [← ep]; exact stb.perm.map _) (by
            rw [List.pairwise_map]
            exact srt.imp fun {x y} h => SrtO.lexB_no.mp h)
          have hy : ∀ x ∈ ys, ∃ t, x = V.ref t ∧ H5 t = some (.tup [.int (pairOf H5 x).1, .int (pairOf H5 x).2]) := fun x hx => hpr x (stb.perm.mem_iff.mp hx)
          have ly : ys.length ≤ 2000 := by
            rw [stb.perm.length_eq, List.length_map]
            omega
          -- [item for _, item in pairs]
          refine ⟨_, rfl, r, rfl, ⟨_, L2.sq_of upd_same⟩, fun D2 hD2 => ?_⟩
          refine lc_list (K := K) (a := r) (xs := ys) (fun i H' => Same (upd H5 r (.lst ys)) H' ∧ H' D2 = some (.lst ((ys.take i).map fun x => V.int (pairOf H5 x).2))) ⟨same_upd hD2, upd_same⟩ (fun i H' _ h => L2.sq_of (h.1 _ _ upd_same)) ?_ ?_
          · rintro i x H6 hx ⟨s6, h6⟩
            obtain ⟨t, rfl, ht⟩ := hy x (List.mem_of_getElem? hx)
            refine ⟨t, _, rfl, L2.st_of (s6 _ _ (sm6 _ _ ht)), rfl, _, _, rfl, _, _, rfl, rfl, rfl, ?_⟩
            refine ⟨_, rfl, _, h6, ?_, ?_, ?_⟩
            · rw [List.length_map, List.length_take]
              exact Nat.lt_of_le_of_lt (Nat.le_trans (Nat.min_le_right _ _) ly) (by decide)
            · intro b o e
              rw [upd_ne (ne_of_none e hD2)]
              exact s6 _ _ e
            · rw [upd_same, take_more hx, List.map_append]
              rfl
          · rintro H6 ⟨s6, h6⟩
            have e6 : (ys.take ys.length).map (fun x => V.int (pairOf H5 x).2) = nV os := by
              rw [List.take_length]
              have e7 : (ys.map (pairOf H5)).map (fun q => V.int q.2) = nV os := by
                rw [eo, List.map_map]
                rfl
              rw [List.map_map] at e7
              exact e7
            rw [e6] at h6
            exact q D2 os H6 so (sm5.free (sm6.free hD2)) ((sm5.trans sm6).trans s6) h6

    | false =>
      refine ⟨_, rfl, false, rfl, iteF ?_⟩
      have hsg : ∀ j, keyf ks false j = 1 * ks.getD j 0 := fun j => by unfold keyf; rw [if_neg Bool.false_ne_true]; omega
      refine ⟨_, rfl, p, ks.map V.int, rfl, ?_⟩
      rcases hS with hs | hs
      · refine .inl ⟨hs, fun D0 fD => ?_⟩
        refine lc_iteL (K := K) (a := p) (xs := ks.map V.int) (fun i H' => ∃ ts : List Addr, ts.length = i ∧ H' D0 = some (.lst (ts.map V.ref)) ∧ (∀ j t, ts[j]? = some t → ∃ z, ks[j]? = some z ∧ H' t = some (.tup [.int (1 * z), .int (j : Nat)])) ∧ Same H H') ⟨[], rfl, upd_same, fun j t h => (by cases h), same_upd fD⟩ (fun i H' _ ⟨_, _, _, _, h⟩ => h.seq hs) ?_ ?_
        · rintro i x H3 T1 hx ⟨ts, hl, hD, hh, sm⟩ hT1
          obtain ⟨z, hz, rfl⟩ := keys_item hx
          refine ⟨T1, _, rfl, L2.st_of upd_same, rfl, _, _, rfl, _, _, rfl, rfl, rfl, ?_⟩
          refine ⟨_, rfl, _, rfl, _, _, rfl, rfl, .inl (by first | exact ⟨by decide, by decide⟩ | omega), _, rfl, by show 2 ≤ sizeLine; decide, fun t ht => ?_⟩
          have sA : Same H3 (upd H3 T1 (.tup [.int (i : Nat), .int z])) := same_upd hT1
          have sB := sA.trans (same_upd (o := .tup [.int (1 * z), .int (i : Nat)]) ht)
          refine ⟨_, sB _ _ hD, ?_, ts ++ [t], by simp [hl], ?_, ?_, ?_⟩
          · rw [List.length_map, hl]
            have q1 := (List.getElem?_eq_some_iff.mp hz).1
            exact Nat.lt_of_lt_of_le q1 (Nat.le_trans hlen (by decide : 2000 ≤ sizeLine))
          · rw [upd_same, List.map_append]
            rfl
          · intro j u hu
            have nD : u ≠ D0 := fun e => by
              subst e
              by_cases hj : j < ts.length
              · rw [List.getElem?_append_left hj] at hu
                obtain ⟨z2, _, e2⟩ := hh j _ hu
                rw [hD] at e2
                cases e2
              · rw [List.getElem?_append_right (by omega)] at hu
                have e3 : u = t := (List.mem_singleton.mp (List.mem_of_getElem? hu))
                rw [← e3, sA _ _ hD] at ht
                cases ht
            rw [upd_ne nD]
            by_cases hj : j < ts.length
            · rw [List.getElem?_append_left hj] at hu
              obtain ⟨z2, e1, e2⟩ := hh j _ hu
              exact ⟨z2, e1, sB _ _ e2⟩
            · rw [List.getElem?_append_right (by omega)] at hu
              have q1 := (List.getElem?_eq_some_iff.mp hu).1
              have ej : j = i := by
                rw [List.length_singleton] at q1
                omega
              subst ej
              have e3 : u = t := (List.mem_singleton.mp (List.mem_of_getElem? hu))
              rw [e3]
              exact ⟨z, hz, upd_same⟩
          · intro b o e
            rw [upd_ne (ne_of_none e fD)]
            exact sB _ _ (sm _ _ e)
        · rintro H5 ⟨ts, hl, hD, hh, sm⟩
          obtain ⟨hD5, hts, sm5, lts⟩ : H5 D0 = some (.lst (ts.map V.ref)) ∧ (∀ j t, ts[j]? = some t → ∃ z, ks[j]? = some z ∧ H5 t = some (.tup [.int (1 * z), .int (j : Nat)])) ∧ Same H H5 ∧ ts.length = ks.length := ⟨hD, hh, sm, by rw [hl, List.length_map]⟩
          have hpr : ∀ x ∈ ts.map V.ref, ∃ t, x = V.ref t ∧ H5 t = some (.tup [.int (pairOf H5 x).1, .int (pairOf H5 x).2]) := fun x hx => by
            obtain ⟨t, ht, rfl⟩ := List.mem_map.mp hx
            obtain ⟨j, hj⟩ := List.getElem?_of_mem ht
            obtain ⟨z, _, e⟩ := hts j t hj
            exact ⟨t, rfl, by rw [pairOf_at e]; exact e⟩
          refine ⟨D0, ts.map V.ref, pairOf H5, rfl, L2.sq_of hD5, hpr, fun ys r srt stb hr0 => ?_⟩
          have sm6 : Same H5 (upd H5 r (.lst ys)) := same_upd hr0
          have ep : ((ts.map V.ref).map (pairOf H5)) = (List.range ks.length).map fun (i : Nat) => (keyf ks false i, (i : Int)) := by
            refine List.ext_getElem? fun j => ?_
            rw [List.getElem?_map, List.getElem?_map, List.getElem?_map]
            by_cases hj : j < ts.length
            · rw [List.getElem?_eq_getElem hj, List.getElem?_range (by omega)]
              obtain ⟨z, hz, e⟩ := hts j _ (List.getElem?_eq_getElem hj)
              show some (pairOf H5 (.ref ts[j])) = some (keyf ks false j, (j : Int))
              rw [pairOf_at e]
              have e2 : ks.getD j 0 = z := by rw [List.getD_eq_getElem?_getD, hz]; rfl
              rw [hsg, e2]
            · rw [List.getElem?_eq_none (by omega), List.getElem?_eq_none (by rw [List.length_range]; omega)]
              rfl
          obtain ⟨os, so, eo⟩ := stab_of_pairs (f := keyf ks false) (n := ks.length) (ps := ys.map (pairOf H5)) (by rw [← ep]; exact stb.perm.map _) (by
            rw [List.pairwise_map]
            exact srt.imp fun {x y} h => SrtO.lexB_no.mp h)
          have hy : ∀ x ∈ ys, ∃ t, x = V.ref t ∧ H5 t = some (.tup [.int (pairOf H5 x).1, .int (pairOf H5 x).2]) := fun x hx => hpr x (stb.perm.mem_iff.mp hx)
          have ly : ys.length ≤ 2000 := by
            rw [stb.perm.length_eq, List.length_map]
            omega
          -- [item for _, item in pairs]
          refine ⟨_, rfl, r, rfl, ⟨_, L2.sq_of upd_same⟩, fun D2 hD2 => ?_⟩
          refine lc_list (K := K) (a := r) (xs := ys) (fun i H' => Same (upd H5 r (.lst ys)) H' ∧ H' D2 = some (.lst ((ys.take i).map fun x => V.int (pairOf H5 x).2))) ⟨same_upd hD2, upd_same⟩ (fun i H' _ h => L2.sq_of (h.1 _ _ upd_same)) ?_ ?_
          · rintro i x H6 hx ⟨s6, h6⟩
            obtain ⟨t, rfl, ht⟩ := hy x (List.mem_of_getElem? hx)
            refine ⟨t, _, rfl, L2.st_of (s6 _ _ (sm6 _ _ ht)), rfl, _, _, rfl, _, _, rfl, rfl, rfl, ?_⟩
            refine ⟨_, rfl, _, h6, ?_, ?_, ?_⟩
            · rw [List.length_map, List.length_take]
              exact Nat.lt_of_le_of_lt (Nat.le_trans (Nat.min_le_right _ _) ly) (by decide)
            · intro b o e
              rw [upd_ne (ne_of_none e hD2)]
              exact s6 _ _ e
            · rw [upd_same, take_more hx, List.map_append]
              rfl
          · rintro H6 ⟨s6, h6⟩
            have e6 : (ys.take ys.length).map (fun x => V.int (pairOf H5 x).2) = nV os := by
              rw [List.take_length]
              have e7 : (ys.map (pairOf H5)).map (fun q => V.int q.2) = nV os := by
                rw [eo, List.map_map]
                rfl
              rw [List.map_map] at e7
              exact e7
            rw [e6] at h6
            exact q D2 os H6 so (sm5.free (sm6.free hD2)) ((sm5.trans sm6).trans s6) h6

      · refine .inr ⟨hs, fun D0 fD => ?_⟩
        refine lc_iteT (K := K) (a := p) (xs := ks.map V.int) (fun i H' => ∃ ts : List Addr, ts.length = i ∧ H' D0 = some (.lst (ts.map V.ref)) ∧ (∀ j t, ts[j]? = some t → ∃ z, ks[j]? = some z ∧ H' t = some (.tup [.int (1 * z), .int (j : Nat)])) ∧ Same H H') ⟨[], rfl, upd_same, fun j t h => (by cases h), same_upd fD⟩ (fun i H' _ ⟨_, _, _, _, h⟩ => Same.tupS h hs) ?_ ?_
        · rintro i x H3 T1 hx ⟨ts, hl, hD, hh, sm⟩ hT1
          obtain ⟨z, hz, rfl⟩ := keys_item hx
          refine ⟨T1, _, rfl, L2.st_of upd_same, rfl, _, _, rfl, _, _, rfl, rfl, rfl, ?_⟩
          refine ⟨_, rfl, _, rfl, _, _, rfl, rfl, .inl (by first | exact ⟨by decide, by decide⟩ | omega), _, rfl, by show 2 ≤ sizeLine; decide, fun t ht => ?_⟩
          have sA : Same H3 (upd H3 T1 (.tup [.int (i : Nat), .int z])) := same_upd hT1
          have sB := sA.trans (same_upd (o := .tup [.int (1 * z), .int (i : Nat)]) ht)
          refine ⟨_, sB _ _ hD, ?_, ts ++ [t], by simp [hl], ?_, ?_, ?_⟩
          · rw [List.length_map, hl]
            have q1 := (List.getElem?_eq_some_iff.mp hz).1
            exact Nat.lt_of_lt_of_le q1 (Nat.le_trans hlen (by decide : 2000 ≤ sizeLine))
          · rw [upd_same, List.map_append]
            rfl
          · intro j u hu
            have nD : u ≠ D0 := fun e => by
              subst e
              by_cases hj : j < ts.length
              · rw [List.getElem?_append_left hj] at hu
                obtain ⟨z2, _, e2⟩ := hh j _ hu
                rw [hD] at e2
                cases e2
              · rw [List.getElem?_append_right (by omega)] at hu
                have e3 : u = t := (List.mem_singleton.mp (List.mem_of_getElem? hu))
                rw [← e3, sA _ _ hD] at ht
                cases ht
            rw [upd_ne nD]
            by_cases hj : j < ts.length
            · rw [List.getElem?_append_left hj] at hu
              obtain ⟨z2, e1, e2⟩ := hh j _ hu
              exact ⟨z2, e1, sB _ _ e2⟩
            · rw [List.getElem?_append_right (by omega)] at hu
              have q1 := (List.getElem?_eq_some_iff.mp hu).1
              have ej : j = i := by
                rw [List.length_singleton] at q1
                omega
              subst ej
              have e3 : u = t := (List.mem_singleton.mp (List.mem_of_getElem? hu))
              rw [e3]
              exact ⟨z, hz, upd_same⟩
          · intro b o e
            rw [upd_ne (ne_of_none e fD)]
            exact sB _ _ (sm _ _ e)
        · rintro H5 ⟨ts, hl, hD, hh, sm⟩
          obtain ⟨hD5, hts, sm5, lts⟩ : H5 D0 = some (.lst (ts.map V.ref)) ∧ (∀ j t, ts[j]? = some t → ∃ z, ks[j]? = some z ∧ H5 t = some (.tup [.int (1 * z), .int (j : Nat)])) ∧ Same H H5 ∧ ts.length = ks.length := ⟨hD, hh, sm, by rw [hl, List.length_map]⟩
          have hpr : ∀ x ∈ ts.map V.ref, ∃ t, x = V.ref t ∧ H5 t = some (.tup [.int (pairOf H5 x).1, .int (pairOf H5 x).2]) := fun x hx => by
            obtain ⟨t, ht, rfl⟩ := List.mem_map.mp hx
            obtain ⟨j, hj⟩ := List.getElem?_of_mem ht
            obtain ⟨z, _, e⟩ := hts j t hj
            exact ⟨t, rfl, by rw [pairOf_at e]; exact e⟩
          refine ⟨D0, ts.map V.ref, pairOf H5, rfl, L2.sq_of hD5, hpr, fun ys r srt stb hr0 => ?_⟩
          have sm6 : Same H5 (upd H5 r (.lst ys)) := same_upd hr0
          have ep : ((ts.map V.ref).map (pairOf H5)) = (List.range ks.length).map fun (i : Nat) => (keyf ks false i, (i : Int)) := by
            refine List.ext_getElem? fun j => ?_
            rw [List.getElem?_map, List.getElem?_map, List.getElem?_map]
            by_cases hj : j < ts.length
            · rw [List.getElem?_eq_getElem hj, List.getElem?_range (by omega)]
              obtain ⟨z, hz, e⟩ := hts j _ (List.getElem?_eq_getElem hj)
              show some (pairOf H5 (.ref ts[j])) = some (keyf ks false j, (j : Int))
              rw [pairOf_at e]
              have e2 : ks.getD j 0 = z := by rw [List.getD_eq_getElem?_getD, hz]; rfl
              rw [hsg, e2]
            · rw [List.getElem?_eq_none (by omega), List.getElem?_eq_none (by rw [List.length_range]; omega)]
              rfl
          obtain ⟨os, so, eo⟩ := stab_of_pairs (f := keyf ks false) (n := ks.length) (ps := ys.map (pairOf H5)) (by rw [← ep]; exact stb.perm.map _) (by
            rw [List.pairwise_map]
            exact srt.imp fun {x y} h => SrtO.lexB_no.mp h)
          have hy : ∀ x ∈ ys, ∃ t, x = V.ref t ∧ H5 t = some (.tup [.int (pairOf H5 x).1, .int (pairOf H5 x).2]) := fun x hx => hpr x (stb.perm.mem_iff.mp hx)
          have ly : ys.length ≤ 2000 := by
            rw [stb.perm.length_eq, List.length_map]
            omega
          -- [item for _, item in pairs]
          refine ⟨_, rfl, r, rfl, ⟨_, L2.sq_of upd_same⟩, fun D2 hD2 => ?_⟩
          refine lc_list (K := K) (a := r) (xs := ys) (fun i H' => Same (upd H5 r (.lst ys)) H' ∧ H' D2 = some (.lst ((ys.take i).map fun x => V.int (pairOf H5 x).2))) ⟨same_upd hD2, upd_same⟩ (fun i H' _ h => L2.sq_of (h.1 _ _ upd_same)) ?_ ?_
          · rintro i x H6 hx ⟨s6, h6⟩
            obtain ⟨t, rfl, ht⟩ := hy x (List.mem_of_getElem? hx)
            refine ⟨t, _, rfl, L2.st_of (s6 _ _ (sm6 _ _ ht)), rfl, _, _, rfl, _, _, rfl, rfl, rfl, ?_⟩
            refine ⟨_, rfl, _, h6, ?_, ?_, ?_⟩
            · rw [List.length_map, List.length_take]
              exact Nat.lt_of_le_of_lt (Nat.le_trans (Nat.min_le_right _ _) ly) (by decide)
            · intro b o e
              rw [upd_ne (ne_of_none e hD2)]
              exact s6 _ _ e
            · rw [upd_same, take_more hx, List.map_append]
              rfl
          · rintro H6 ⟨s6, h6⟩
            have e6 : (ys.take ys.length).map (fun x => V.int (pairOf H5 x).2) = nV os := by
              rw [List.take_length]
              have e7 : (ys.map (pairOf H5)).map (fun q => V.int q.2) = nV os := by
                rw [eo, List.map_map]
                rfl
              rw [List.map_map] at e7
              exact e7
            rw [e6] at h6
            exact q D2 os H6 so (sm5.free (sm6.free hD2)) ((sm5.trans sm6).trans s6) h6

end

end K04

namespace K04
open PySem PySem.Spec PyProof.Rows L2 
theorem keys_fine {H : Hp} {p : Addr} {ns : List Int} (h : RowAt H p (ns.map V.int)) (hl : ns.length ≤ 2000) : KeysQ H (.ref p) 0 2000 none := by
  refine .fine rfl h (by rw [List.length_map]; omega) fun j y hy => ?_
  obtain ⟨z, _, rfl⟩ := keys_item hy
  exact ⟨_, .int z, rfl⟩
def KBad (aK : Addr) (H : Hp) (E : XK) (keys : V) : Prop := ∃ i, KeysQ H keys 0 2000 (some i) ∧ Rz E H aK "index" (.int i)
def KFine (H : Hp) (keys : V) (p : Addr) (ns : List Int) : Prop := keys = .ref p ∧ KeysAt H p ns ∧ ns.length ≤ 2000
def RevBad (aN : Addr) (H : Hp) (E : XK) (rev : V) : Prop := ∃ T, AnyV H rev T ∧ T ≠ "bool" ∧ Rz E H aN "name" (.str "reverse")
def spHonestX (aK aQ : Addr) : Sp := fun vs H _ E => ∃ keys q, vs = [keys, q] ∧ (KBad aK H E keys ∨ ∃ p ns, KFine H keys p ns ∧ BadQ H q (ns.length : Int) ∧ Rz E H aQ "question" q)
def spStabX (aK aN : Addr) : Sp := fun vs H Q E => ∃ keys rev, vs = [keys, rev] ∧ (KBad aK H E keys ∨ ∃ p ns, KFine H keys p ns ∧ (RevBad aN H E rev ∨ ∃ b, rev = .bl b ∧
  ∀ (r : Addr) (os : List Nat) (H' : Hp), Stab (keyf ns b) ns.length os → H r = none → Same H H' → H' r = some (.lst (nV os)) → Q (.ref r) H'))
def spIsOrdX (aK aO aN : Addr) : Sp := fun vs H Q E => ∃ keys order rev, vs = [keys, order, rev] ∧ (KBad aK H E keys ∨ ∃ p ns, KFine H keys p ns ∧ ((∃ i, OrdQ H order ns.length (some i) ∧ Rz E H aO "index" (.int i)) ∨
  (OrdQ H order ns.length none ∧ RevBad aN H E rev) ∨ ∃ (q : Addr) (bs : List Nat) (b : Bool), order = .ref q ∧ OrdAt H q bs ∧ bs.Perm (List.range ns.length) ∧ rev = .bl b ∧ ∀ (os : List Nat) (H' : Hp), Stab (keyf ns b) ns.length os → Same H H' → Q (.bl (decide (bs = os))) H'))
section
variable {P : Program} {w : World} {K : PySem.W.Frag} {mg : Str → Option Value} {base : Heap} {a : Ad} {d : Fd}
theorem ok_honest (T : Txt K mg a d) : FnOk P w K mg base (L2.CX P w) 6 a.honest d.honest P_honest (spHonestX a.c_InvalidKeys a.c_InvalidQuestion) := by
  have G_check_keys : FnOk P w K mg base (L2.CX P w) 3 a.check_keys d.check_keys P_check_keys (spCheckKeysX a.c_InvalidKeys) := ok_check_keys T
  have G_check_question : FnOk P w K mg base (L2.CX P w) 5 a.check_question d.check_question P_check_question (spCheckQX a.c_InvalidQuestion) := ok_check_question T
  refine T.f_honest.okX sc_honest (fun vs H Q E h => ?_) (fun cdv A outer s0 H vs Q E hr h => ?_)
  · obtain ⟨keys, q, rfl, _⟩ := h
    rfl
  · obtain ⟨keys, qu, rfl, h⟩ := h
    refine ⟨_, (pss_cons (ps_expr (pe_call (dvs := [.int 0, .int 2000]) G_check_keys (hr.mono (by decide)) (by rfl) T.g_check_keys T.k_check_keys T.b_check_keys_2.choose_spec.2 T.b_check_keys_2.choose_spec.1 (passY rfl rfl rfl rfl) (pa_cons (pv 0) pa_nil)))
    (pss_cons (ps_expr (pe_callS G_check_question (hr.mono (by decide)) (by rfl) T.g_check_question T.k_check_question T.b_check_question (fun σ => passAt (takes_of rfl rfl rfl rfl) σ) (pa_cons (pv 1) (pa_cons (pe_callB call_len_seq (by rfl) T.z_len PySem.boot_len (pa_cons (pv 0) pa_nil)) pa_nil))))
    (pss_cons ps_never
    (pss_one ps_never)))), ?_⟩
    rcases h with ⟨i, hk, z⟩ | ⟨p, ns, ⟨rfl, hK, hl⟩, hb, z⟩
    · exact ⟨_, rfl, keys, 0, 2000, some i, rfl, hk, (fun z => nomatch z), fun j e => by cases e; exact z⟩
    · refine ⟨_, rfl, .ref p, 0, 2000, none, rfl, keys_fine hK hl, fun _ H1 s1 => ?_, fun i e => nomatch e⟩
      refine ⟨_, rfl, _, rfl, p, _, rfl, (hK.same s1).imp L2.sq_of L2.st_of, ?_⟩
      rw [show (ns.map V.int).length = ns.length from List.length_map _]
      exact ⟨qu, (ns.length : Int), rfl, hb.ext (.of s1), z.same s1⟩
theorem ok_stable_order (T : Txt K mg a d) : FnOk P w K mg base (L2.CX P w) 4 a.stable_order d.stable_order P_stable_order (spStabX a.c_InvalidKeys a.c_InvalidNumber) := by
  have G_check_keys : FnOk P w K mg base (L2.CX P w) 3 a.check_keys d.check_keys P_check_keys (spCheckKeysX a.c_InvalidKeys) := ok_check_keys T
  have G_check_bool : FnOk P w K mg base (L2.CX P w) 3 a.check_bool d.check_bool P_check_bool (spCheckBoolX a.c_InvalidNumber) := ok_check_bool T
  have G_stable : FnOk P w K mg base CX0 1 a.stable d.stable P_stable spStable := ok_stable T
  refine T.f_stable_order.okX sc_stable_order (fun vs H Q E h => ?_) (fun cdv A outer s0 H vs Q E hr h => ?_)
  · obtain ⟨keys, rev, rfl, _⟩ := h
    rfl
  · obtain ⟨keys, rev, rfl, h⟩ := h
    refine ⟨_, (pss_cons (ps_expr (pe_call (dvs := [.int 0, .int 2000]) G_check_keys (hr.mono (by decide)) (by rfl) T.g_check_keys T.k_check_keys T.b_check_keys_2.choose_spec.2 T.b_check_keys_2.choose_spec.1 (passY rfl rfl rfl rfl) (pa_cons (pv 0) pa_nil)))
    (pss_cons (ps_expr (pe_callS G_check_bool (hr.mono (by decide)) (by rfl) T.g_check_bool T.k_check_bool T.b_check_bool (fun σ => passAt (takes_of rfl rfl rfl rfl) σ) (pa_cons pe_str (pa_cons (pv 1) pa_nil))))
    (pss_one (ps_ret (pe_call G_stable (hr.mono (by decide)) (by rfl) T.g_stable T.k_stable T.b_stable .nil pass0 (pa_cons (pv 0) (pa_cons (pv 1) pa_nil))))))), ?_⟩
    rcases h with ⟨i, hk, z⟩ | ⟨p, ns, ⟨rfl, hK, hl⟩, h⟩
    · exact ⟨_, rfl, keys, 0, 2000, some i, rfl, hk, (fun z => nomatch z), fun j e => by cases e; exact z⟩
    · refine ⟨_, rfl, .ref p, 0, 2000, none, rfl, keys_fine hK hl, fun _ H1 s1 => ?_, fun i e => nomatch e⟩
      rcases h with ⟨Tr, h, n1, z⟩ | ⟨b, rfl, q⟩
      · exact ⟨_, rfl, "reverse", rev, Tr, rfl, h.same s1, fun e => absurd e n1, fun _ => z.same s1⟩
      · refine ⟨_, rfl, "reverse", .bl b, "bool", rfl, .bl b, fun _ => ?_, fun n => absurd rfl n⟩
        exact ⟨_, rfl, _, rfl, p, ns, b, rfl, hK.same s1, hl, fun r os H2 so hr2 s2 h2 => q r os H2 so (s1.free hr2) (s1.trans s2) h2⟩
theorem ok_is_order (T : Txt K mg a d) : FnOk P w K mg base (L2.CX P w) 5 a.is_order d.is_order P_is_order (spIsOrdX a.c_InvalidKeys a.c_InvalidOrder a.c_InvalidNumber) := by
  have G_check_keys : FnOk P w K mg base (L2.CX P w) 3 a.check_keys d.check_keys P_check_keys (spCheckKeysX a.c_InvalidKeys) := ok_check_keys T
  have G_check_bool : FnOk P w K mg base (L2.CX P w) 3 a.check_bool d.check_bool P_check_bool (spCheckBoolX a.c_InvalidNumber) := ok_check_bool T
  have G_check_order : FnOk P w K mg base (L2.CX P w) 4 a.check_order d.check_order P_check_order (spCheckOrderX a.c_InvalidOrder) := ok_check_order T
  have G_stable : FnOk P w K mg base CX0 1 a.stable d.stable P_stable spStable := ok_stable T
  refine T.f_is_order.okX sc_is_order (fun vs H Q E h => ?_) (fun cdv A outer s0 H vs Q E hr h => ?_)
  · obtain ⟨keys, order, rev, rfl, _⟩ := h
    rfl
  · obtain ⟨keys, order, rev, rfl, h⟩ := h
    refine ⟨_, (pss_cons (ps_expr (pe_call (dvs := [.int 0, .int 2000]) G_check_keys (hr.mono (by decide)) (by rfl) T.g_check_keys T.k_check_keys T.b_check_keys_2.choose_spec.2 T.b_check_keys_2.choose_spec.1 (passY rfl rfl rfl rfl) (pa_cons (pv 0) pa_nil)))
    (pss_cons (ps_expr (pe_callS G_check_order (hr.mono (by decide)) (by rfl) T.g_check_order T.k_check_order T.b_check_order (fun σ => passAt (takes_of rfl rfl rfl rfl) σ) (pa_cons (pv 1) (pa_cons (pe_callB call_len_seq (by rfl) T.z_len PySem.boot_len (pa_cons (pv 0) pa_nil)) pa_nil))))
    (pss_cons (ps_expr (pe_callS G_check_bool (hr.mono (by decide)) (by rfl) T.g_check_bool T.k_check_bool T.b_check_bool (fun σ => passAt (takes_of rfl rfl rfl rfl) σ) (pa_cons pe_str (pa_cons (pv 2) pa_nil))))
    (pss_one (ps_ret (pe_cmpR (op_eqD hr.units) (pe_callTy call_list_of (by rfl) T.z_list (by decide +kernel) (pa_cons (pv 1) pa_nil)) (pe_call G_stable (hr.mono (by decide)) (by rfl) T.g_stable T.k_stable T.b_stable .nil pass0 (pa_cons (pv 0) (pa_cons (pv 2) pa_nil))) (nomark _))))))), ?_⟩
    rcases h with ⟨i, hk, z⟩ | ⟨p, ns, ⟨rfl, hK, hl⟩, h⟩
    · exact ⟨_, rfl, keys, 0, 2000, some i, rfl, hk, (fun z => nomatch z), fun j e => by cases e; exact z⟩
    · refine ⟨_, rfl, .ref p, 0, 2000, none, rfl, keys_fine hK hl, fun _ H1 s1 => ?_, fun i e => nomatch e⟩
      refine ⟨_, rfl, _, rfl, p, _, rfl, (hK.same s1).imp L2.sq_of L2.st_of, ?_⟩
      rw [show (ns.map V.int).length = ns.length from List.length_map _]
      rcases h with ⟨i, ho, z⟩ | ⟨ho, Tr, h, n1, z⟩ | ⟨r, bs, b, rfl, hO, pm, rfl, q⟩
      · exact ⟨order, ns.length, some i, rfl, hl, ho.ext (.of s1), (fun z => nomatch z), fun j e => by cases e; exact z.same s1⟩
      · refine ⟨order, ns.length, none, rfl, hl, ho.ext (.of s1), fun _ H2 s2 => ?_, fun i e => nomatch e⟩
        exact ⟨_, rfl, "reverse", rev, Tr, rfl, h.same (s1.trans s2), fun e => absurd e n1, fun _ => z.same (s1.trans s2)⟩
      · refine ⟨.ref r, ns.length, none, rfl, hl, .fine rfl (hO.same s1) (by rw [pm.length_eq, List.length_range]) (pm.nodup_iff.mpr List.nodup_range) (fun b hb => List.mem_range.mp (pm.mem_iff.mp hb)), fun _ H2 s2 => ?_, fun i e => nomatch e⟩
        refine ⟨_, rfl, "reverse", .bl b, "bool", rfl, .bl b, fun _ => ?_, fun n => absurd rfl n⟩
        have s12 := s1.trans s2
        refine ⟨_, rfl, r, nV bs, rfl, (hO.same s12).imp L2.sq_of L2.st_of, fun l hl2 => ?_⟩
        have s3 : Same H2 (upd H2 l (.lst (nV bs))) := same_upd hl2
        have s123 := s12.trans s3
        refine ⟨_, rfl, _, rfl, p, ns, b, rfl, hK.same s123, hl, fun t os H4 so ht s4 h4 => ?_⟩
        have hl4 : SqL K H4 l ((bs.map fun (i : Nat) => (i : Int)).map V.int) := by
          rw [← nV_map]
          exact L2.sq_of (s4 _ _ upd_same)
        have ht4 : SqL K H4 t ((os.map fun (i : Nat) => (i : Int)).map V.int) := by
          rw [← nV_map]
          exact L2.sq_of h4
        refine ⟨_, _, dp_ints hl4, dp_ints ht4, shaped_ints _, shaped_ints _, ?_⟩
        have e : PyData.eqv (.list ((bs.map fun (i : Nat) => (i : Int)).map PyData.int)) (.list ((os.map fun (i : Nat) => (i : Int)).map PyData.int)) = decide (bs = os) := by
          rw [eqv_lists]
          exact decide_eq_decide.mpr cast_inj
        rw [e]
        exact q os H4 so (s123.trans s4)
end

end K04

/-! lambdas handed to a def that is called where nothing is being shown -/
namespace L2
open PySem PySem.Spec PyProof.Rows PySem.W LamX
def GivesTo1G (P : Program) (w : World) (K : PySem.W.Frag) (mg : Str → Option Value) (base : Heap) (k : Nat) (Ng : List Str) (x : Str) (sg : Scope) (g : Addr) (bg : List Stmt) (a : Str) (TT : (XK → Hp → VK → Prop) → Hp → VK → Prop) : Prop :=
  ∀ (cdg : Value) (A : Around) (outer : List Env) (f : Addr) (L : LamD) (s : Shared) (H : Hp) (Q : VK) (tl : XK → Hp → VK → Prop), A.guards = some [] → Room k (A.deeper (envOfC x sg s.heap.objs.size g cdg)) →
    (∀ (W : WX) (pn : List (Addr × Obj)) (xe : Value → Shared → Prop) (p1 p2 : Pos), Takes ((cxOf C8.CX0 P w K mg base Ng x sg g cdg A outer s H C8.E0).tr pn xe) W →
      PE ((cxOf C8.CX0 P w K mg base Ng x sg g cdg A outer s H C8.E0).tr pn xe) (.Call (.Name a p1) [] [] p2) (fun σZ HZ Q => σZ[0]? = some (some (.ref f)) ∧ LamAt HZ f L ∧ ∃ E : XK, (∀ cls d H', E cls d H' → W cls d σZ H') ∧ tl E HZ Q)) →
    LamAt H f L → TT tl H Q →
    ∃ t, PSs (cxOf C8.CX0 P w K mg base Ng x sg g cdg A outer s H C8.E0).nox bg t ∧ t { nx := fun _ H' => Q .non H', rt := Q } (L2.start Ng [.ref f]) H
section
variable {X : Cx}
theorem run_lamOG {pins : List (Addr × Obj)} {σ : L2.St} {H : Hp} {s : Shared} {Q : VK} {TT : (XK → Hp → VK → Prop) → Hp → VK → Prop} {x a : Str} {st : Stmt} {g f : Addr} {k : Nat} {fd : FuncData} {Ng : List Str} {params : Arguments} {body : Expr} {scope : Scope} {t : XK → TE}
    (F : Fun X.K x x st g fd) (hb : L2.Binds X.K fd [a] []) (Sg : FnScope Ng [a] (defScope st)) (hNg : Ng[0]? = some a) (hva : Vis (defScope st) a) (hG : GivesTo1G X.prog X.w X.K X.mg X.base (k + 1) Ng x (defScope st) g (defBody st) a TT)
    (LG : LamGood X k params body scope t) (gd : X.A.guards = some []) (hr : Room (k + 2) X.A) (I : Inv X pins σ H s) (hL : LamAt H f (lamD X params body scope)) (h : TT (fun E H' Q' => t E σ H' Q') H Q)
    (hd : (a == ("__debug__" : Str)) = false := by decide) (hcd : (a == ("__classdict__" : Str)) = false := by decide) :
    codeAny (model X.prog X.w) X.A (.call (.ref g) ⟨[.ref f], []⟩) (CR C8.CX0 X.stack X.prog X.w H s Q C8.E0) s := by
  obtain ⟨oc, od, kV, doc, pm, an, cdv, ct, osl, rfl, lk, hcg⟩ := F.ex
  refine run_ofS (N := Ng) (ps := [a]) (us := [.ref f]) (vs := [.ref f]) lk hcg Sg hr I.env0 (hb s [.ref f] I.kIn rfl) (.cons rfl .nil) rfl fun hr' => ?_
  refine Exists.elim (hG cdv X.A X.stack f _ s H Q (fun E H' Q' => t E σ H' Q') gd hr' (fun W pn xe p1 p2 tk => ⟨fun pinsZ sZ σZ HZ QZ IZ hz => ?_⟩) hL h) fun t' h' => ⟨t', h'.1.nox, h'.2⟩
  obtain ⟨z1, z2, E, hW, z3⟩ := hz
  exact (pe_actO (i := 0) I LG tk hr' hNg hva hd hcd).run pinsZ sZ σZ HZ QZ IZ ⟨z1, z2, E, hW, z3⟩
theorem pe_lamcallGG {T : List (Addr × Str)} {TT : (XK → Hp → VK → Prop) → Hp → VK → Prop} {x a : Str} {st : Stmt} {g c P : Addr} {k : Nat} {fd : FuncData} {Ng : List Str} {params : Arguments} {body : Expr} {scope : Scope} {t : XK → TE} {p lpos pos : Pos}
    (F : Fun X.K x x st g fd) (hg : Gl X x) (hm : X.mg x = some (.ref g)) (hk : PySem.W.keepIn X.K (.ref g) = true) (hb : L2.Binds X.K fd [a] []) (Sg : FnScope Ng [a] (defScope st)) (hNg : Ng[0]? = some a) (hva : Vis (defScope st) a)
    (hG : GivesTo1G X.prog X.w X.K X.mg X.base (k + 1) Ng x (defScope st) g (defBody st) a TT) (gd : X.A.guards = some [])
    (TB : TabB X.base X.mg c P) (hcode : X.env.code = .ref c) (hmT : (P, X.env.qual ++ "<lambda>") ∈ T) (hu : ∀ p ∈ T, p.1 = P → p.2 = X.env.qual ++ "<lambda>") (hr : Room (k + 2) X.A)
    (hfree : ∀ y ∈ scope.names, y.2 = .free → X.env.scope.names.lookup y.1 = some .cell ∨ X.env.scope.names.lookup y.1 = some .free) (hk0 : params.kw_defaults = []) (hdef : params.defaults = [] ∨ ∃ j pc, params.defaults = [.Constant (.int 0) j pc]) (LG : LamGood X k params body scope t)
    (hdb : (x == ("__debug__" : Str)) = false := by decide) (hd : (a == ("__debug__" : Str)) = false := by decide) (hcd : (a == ("__classdict__" : Str)) = false := by decide) :
    PE X (.Call (.Name x p) [.Lambda params body scope lpos] [] pos) (tLamG T TT t) := by
  refine ⟨fun pins s σ H Q I h => ?_⟩
  obtain ⟨hT, h⟩ := h
  refine wpAny_Call_Name_kw (ld_glob I hg hm ?_ hdb)
  refine PySem.W.callWith_K (h₀ := X.base) I.ok.mod.kin hk ?_ (by rfl) (by rfl)
  show wpAny _ _ (spliced ((false, eval (.Lambda params body scope lpos) X.env) :: backTo pos (starEach [] X.env))) _ _ s
  refine Calls.spliced_cons (thn ((pe_lamO (pos := lpos) TB hcode hmT hu hfree hk0 hdef).run pins s σ H (fun v H1 => ∃ f, v = .ref f ∧ ExtN H H1 ∧ Tabs T H1 ∧ LamAt H1 f (lamD X params body scope)) I ⟨hT, fun H1 f e1 T1 _ hL => ⟨f, rfl, e1, T1, hL⟩⟩) fun u s1 ⟨v, H1, I1, r1, f, ev, e1, T1, hL⟩ => ?_)
  subst ev
  obtain rfl : u = Value.ref f := r1
  refine Calls.spliced_nil ⟨I1.kIn, ?_⟩
  refine wpAny_call (codeAny_mono (run_lamOG F hb Sg hNg hva hG LG gd hr I1 hL (h H1 e1 T1) hd hcd) fun r s2 hq => ?_)
  cases r with
  | error e => exact (show False from hq).elim
  | ok fl =>
    cases fl with
    | ret u => exact I1.after hq
    | next => exact False.elim hq
    | brk => exact False.elim hq
    | cont => exact False.elim hq
end
end L2

namespace K04
open PySem PySem.Spec PyProof.Rows L2 
abbrev EL (a : Ad) : List (Addr × Str × Str) := [(a.c_InvalidKeys, "index", "keys"), (a.c_InvalidOrder, "index", "order"), (a.c_InvalidNumber, "name", "number")]
/-- the errors of keys, orders and numbers tell their word, that of a question how it is shown -/
def E04 (K : PySem.W.Frag) (a : Ad) (Q : VK) : XK := fun cls d H' => EErr (EL a) Q cls d H' ∨ ∃ dx v pd, d = some dx ∧ cls = .ref a.c_InvalidQuestion ∧ H' dx = some (.xd [("question", v)]) ∧ ShD K H' v pd ∧ Shw (2 ^ 19) 64 pd ∧ ∀ t H'', Same H' H'' → H'' t = some (.tup [.str "question", .str pd.shown]) → Q (.ref t) H''
def TT04 (K : PySem.W.Frag) (a : Ad) : (XK → Hp → VK → Prop) → Hp → VK → Prop := fun tl H Q => tl (E04 K a Q) H fun _ H' => Q (.str "heard") H'
theorem e04 {K : PySem.W.Frag} {a : Ad} {Q : VK} {C : Addr} {f w : Str} {v : V} {H : Hp} (h : (C, f, w) ∈ EL a) (q : ∀ t H', Same H H' → H' t = some (.tup [.str w, v]) → Q (.ref t) H') : Rz (E04 K a Q) H C f v := fun dx H' s n e => .inl (eErr h q dx H' s n e)
theorem e04q {K : PySem.W.Frag} {a : Ad} {Q : VK} {v : V} {pd : PyData} {H : Hp} (sh : ∀ H', Same H H' → ShD K H' v pd) (sw : Shw (2 ^ 19) 64 pd) (q : ∀ t H', Same H H' → H' t = some (.tup [.str "question", .str pd.shown]) → Q (.ref t) H') : Rz (E04 K a Q) H a.c_InvalidQuestion "question" v := fun dx H' s n e =>
  .inr ⟨dx, v, pd, rfl, rfl, e, sh H' s, sw, fun t H'' s2 ht => q t H'' (s.trans s2) ht⟩
theorem units65 {k : Nat} {A : Around} (r : Room k A) : A.units + 65 < cLine := by have := r.un; omega
section
variable {P : Program} {w : World} {K : PySem.W.Frag} {mg : Str → Option Value} {base : Heap} {a : Ad} {d : Fd}
theorem gives_said {k : Nat} (T : Txt K mg a d) : GivesTo1G P w K mg base k N_said "_law_said" (defScope s_said) a.said (defBody s_said) "ask" (TT04 K a) := by
  intro cdg A outer f L s H Q tl gd hr act hL h
  have hu65 := units65 hr
  refine ⟨_, (pss_cons (ps_try_as (i := 1) rfl rfl sc_said.nd rfl rfl ⟨rfl, by decide, Or.inl T.xb.g⟩ takes0 (fun W pn xe tk _ => (pss_one (ps_expr (act W pn xe _ _ tk)))) (fun a1 oe cls d pn hz hf => (pss_cons (ps_if (pt_val (pe_callB (call_isX hz hf) (by rfl) T.z_isinstance (by decide +kernel) (pa_cons (pv 1) (pa_cons (pe_glob (v := .ref a.c_InvalidKeys) (by rfl) T.x_InvalidKeys.g rfl) pa_nil)))) (pss_one (ps_ret (pe_tup (pa_cons pe_str (pa_cons (pe_xfA hz hf (pv 1)) pa_nil))))) pss_nil)
      (pss_cons (ps_if (pt_val (pe_callB (call_isX hz hf) (by rfl) T.z_isinstance (by decide +kernel) (pa_cons (pv 1) (pa_cons (pe_glob (v := .ref a.c_InvalidQuestion) (by rfl) T.x_InvalidQuestion.g rfl) pa_nil)))) (pss_one (ps_ret (pe_tup (pa_cons pe_str (pa_cons (pe_callB (show CallR _ (.builtin "repr") (rReprS K) from call_reprS gd hu65) (by rfl) T.z_repr (by decide +kernel) (pa_cons (pe_xf T.x_InvalidQuestion.xf T.x_InvalidQuestion.no hz hf (pv 1)) pa_nil)) pa_nil))))) pss_nil)
      (pss_cons (ps_if (pt_val (pe_callB (call_isX hz hf) (by rfl) T.z_isinstance (by decide +kernel) (pa_cons (pv 1) (pa_cons (pe_glob (v := .ref a.c_InvalidOrder) (by rfl) T.x_InvalidOrder.g rfl) pa_nil)))) (pss_one (ps_ret (pe_tup (pa_cons pe_str (pa_cons (pe_xfA hz hf (pv 1)) pa_nil))))) pss_nil)
      (pss_one (ps_ret (pe_ifExp (pt_val (pe_callB (call_isX hz hf) (by rfl) T.z_isinstance (by decide +kernel) (pa_cons (pv 1) (pa_cons (pe_glob (v := .ref a.c_InvalidNumber) (by rfl) T.x_InvalidNumber.g rfl) pa_nil)))) (pe_tup (pa_cons pe_str (pa_cons (pe_xf T.x_InvalidNumber.xf T.x_InvalidNumber.no hz hf (pv 1)) pa_nil))) pe_str))))))))
    (pss_one (ps_ret pe_str))), ?_⟩
  refine ⟨rfl, hL, E04 K a Q, fun cls d H' hE => ?_, h⟩
  rcases hE with ⟨dx, C, fl, w1, v, rfl, hm, rfl, hx, q⟩ | ⟨dx, v, pd, rfl, rfl, hx, sh, sw, q⟩
  · rcases List.mem_cons.mp hm with hm | hm
    · cases hm
      refine ⟨true, T.s_InvalidKeys_SortError.exm, fun _ a1 ha1 => ?_, fun z => nomatch z⟩
      refine ⟨_, rfl, _, dx, _, _, _, true, rfl, T.ec_InvalidKeys, rfl, hx, rfl, .own _, T.s_InvalidKeys_InvalidKeys.kit, true, rfl, iteT ?_⟩
      exact ⟨_, T.x_InvalidKeys.xf, T.x_InvalidKeys.no, _, rfl, rfl, rfl, dx, _, v, rfl, hx, rfl, by show 2 ≤ sizeLine; decide, fun t ht => q t _ (same_upd ht) upd_same⟩
    rcases List.mem_cons.mp hm with hm | hm
    · cases hm
      refine ⟨true, T.s_InvalidOrder_SortError.exm, fun _ a1 ha1 => ?_, fun z => nomatch z⟩
      refine ⟨_, rfl, _, dx, _, _, _, false, rfl, T.ec_InvalidOrder, rfl, hx, rfl, .own _, T.s_InvalidOrder_InvalidKeys.kit, false, rfl, iteF ?_⟩
      refine ⟨_, rfl, _, dx, _, _, _, false, rfl, T.ec_InvalidOrder, rfl, hx, rfl, .own _, T.s_InvalidOrder_InvalidQuestion.kit, false, rfl, iteF ?_⟩
      refine ⟨_, rfl, _, dx, _, _, _, true, rfl, T.ec_InvalidOrder, rfl, hx, rfl, .own _, T.s_InvalidOrder_InvalidOrder.kit, true, rfl, iteT ?_⟩
      exact ⟨_, T.x_InvalidOrder.xf, T.x_InvalidOrder.no, _, rfl, rfl, rfl, dx, _, v, rfl, hx, rfl, by show 2 ≤ sizeLine; decide, fun t ht => q t _ (same_upd ht) upd_same⟩
    · cases List.mem_singleton.mp hm
      refine ⟨true, T.s_InvalidNumber_SortError.exm, fun _ a1 ha1 => ?_, fun z => nomatch z⟩
      refine ⟨_, rfl, _, dx, _, _, _, false, rfl, T.ec_InvalidNumber, rfl, hx, rfl, .own _, T.s_InvalidNumber_InvalidKeys.kit, false, rfl, iteF ?_⟩
      refine ⟨_, rfl, _, dx, _, _, _, false, rfl, T.ec_InvalidNumber, rfl, hx, rfl, .own _, T.s_InvalidNumber_InvalidQuestion.kit, false, rfl, iteF ?_⟩
      refine ⟨_, rfl, _, dx, _, _, _, false, rfl, T.ec_InvalidNumber, rfl, hx, rfl, .own _, T.s_InvalidNumber_InvalidOrder.kit, false, rfl, iteF ?_⟩
      refine ⟨_, rfl, _, dx, _, _, _, true, rfl, T.ec_InvalidNumber, rfl, hx, rfl, .own _, T.s_InvalidNumber_InvalidNumber.kit, true, rfl, iteT ?_⟩
      exact ⟨_, rfl, rfl, rfl, dx, _, v, rfl, hx, rfl, by show 2 ≤ sizeLine; decide, fun t ht => q t _ (same_upd ht) upd_same⟩
  · refine ⟨true, T.s_InvalidQuestion_SortError.exm, fun _ a1 ha1 => ?_, fun z => nomatch z⟩
    refine ⟨_, rfl, _, dx, _, _, _, false, rfl, T.ec_InvalidQuestion, rfl, hx, rfl, .own _, T.s_InvalidQuestion_InvalidKeys.kit, false, rfl, iteF ?_⟩
    refine ⟨_, rfl, _, dx, _, _, _, true, rfl, T.ec_InvalidQuestion, rfl, hx, rfl, .own _, T.s_InvalidQuestion_InvalidQuestion.kit, true, rfl, iteT ?_⟩
    exact ⟨_, rfl, rfl, rfl, dx, _, v, rfl, hx, rfl, v, pd, rfl, sh, sw.sh, sw.dp, sw.fits (Nat.le_refl _), by show 2 ≤ sizeLine; decide, fun t ht => q t _ (same_upd ht) upd_same⟩
end

end K04

namespace K04
open PySem PySem.Spec PyProof.Rows L2 
def spMixed : Sp := fun vs H Q _ => ∃ c e, vs = [.int c, .int e] ∧ ∀ v : Int, Q (.int v) H
def spSource : Sp := fun vs H Q _ => ∃ c, vs = [.int c] ∧ ∀ p x y z, 0 ≤ x → H p = none → Q (.ref p) (upd H p (.lst [.int x, .int y, .int z]))
def spTake : Sp := fun vs H Q _ => ∃ p b, vs = [.ref p, .int b] ∧ Src H p ∧ 0 < b ∧ b.natAbs < 2 ^ 64 ∧ ∀ v x y z : Int, 0 ≤ v → v < b → 0 ≤ x → Q (.int v) (upd H p (.lst [.int x, .int y, .int z]))
section
variable {P : Program} {w : World} {K : PySem.W.Frag} {mg : Str → Option Value} {base : Heap} {a : Ad} {d : Fd}
theorem ok_mixed (T : Txt K mg a d) : FnOk P w K mg base CX0 1 a.mixed d.mixed P_mixed spMixed := by
  refine T.f_mixed.ok sc_mixed (fun vs H Q E h => ?_) (fun cdv A outer s H vs Q E hr h => ?_)
  · obtain ⟨c, e, rfl, _⟩ := h
    rfl
  · obtain ⟨c, e, rfl, q⟩ := h
    refine ⟨_, (pss_cons (ps_set (i := 2) sc_mixed.nd rfl (Or.inl rfl) (pe_op op_mod (pe_callTy call_int1 (by rfl) T.z_int (by decide +kernel) (pa_cons (pe_op op_mul (pe_op op_add (pe_op op_mod (pe_callTy call_int1 (by rfl) T.z_int (by decide +kernel) (pa_cons (pv 0) pa_nil)) pe_int) pe_int) (pe_op op_add (pe_op op_mul (pv 1) pe_int) pe_int)) pa_nil)) pe_int))
    (pss_cons (ps_set (i := 2) sc_mixed.nd rfl (Or.inl rfl) (pe_op op_mod (pe_callTy call_int1 (by rfl) T.z_int (by decide +kernel) (pa_cons (pe_op op_mul (pe_op op_add (pv 2) (pe_op op_mul (pe_op op_mod (pe_callTy call_int1 (by rfl) T.z_int (by decide +kernel) (pa_cons (pe_op op_fdivW (pv 0) pe_int) pa_nil)) pe_int) (pe_op op_add (pv 1) pe_int))) pe_int) pa_nil)) pe_int))
    (pss_cons (ps_set (i := 2) sc_mixed.nd rfl (Or.inl rfl) (pe_op op_mod (pe_callTy call_int1 (by rfl) T.z_int (by decide +kernel) (pa_cons (pe_op op_mul (pv 2) (pe_op op_add (pe_op op_add (pe_op op_fdivW (pv 2) pe_int) pe_int) (pv 1))) pa_nil)) pe_int))
    (pss_one (ps_ret (pe_op op_mod (pe_callTy call_int1 (by rfl) T.z_int (by decide +kernel) (pa_cons (pe_op op_mul (pv 2) (pe_op op_add (pe_op op_fdivW (pv 2) pe_int) pe_int)) pa_nil)) pe_int)))))), ?_⟩
    have k1 := mb c (c := 2147483646) (by decide)
    refine ⟨_, rfl, .inl ⟨_, rfl, _, _, rfl, rfl, (by show (0 : Int) < 2147483646; decide), _, _, rfl, rfl, _, rfl, _, _, rfl, rfl, .inr ⟨by decide, by decide⟩, _, _, rfl, rfl, _, _, rfl, rfl, .inl (lt64 (c := 2147483647) (by omega) (by omega) (by decide)), .inl ⟨_, rfl, _, _, rfl, rfl, (by show (0 : Int) < 2147483647; decide), ?_⟩⟩⟩
    have k2 := mb (c / 2147483646) (c := 1000003) (by decide)
    refine ⟨_, rfl, _, rfl, _, _, rfl, rfl, ⟨by decide, by decide⟩, .inl ⟨_, rfl, _, _, rfl, rfl, (by show (0 : Int) < 1000003; decide), _, rfl, _, _, rfl, rfl, _, _, rfl, rfl, .inl (lt64 (c := 1000003) (by omega) (by omega) (by decide)), _, _, rfl, rfl, _, _, rfl, rfl, .inr ⟨by decide, by decide⟩, .inl ⟨_, rfl, _, _, rfl, rfl, (by show (0 : Int) < 2147483629; decide), ?_⟩⟩⟩
    refine ⟨_, rfl, _, rfl, _, _, rfl, rfl, ⟨by decide, by decide⟩, _, _, rfl, rfl, _, rfl, _, _, rfl, rfl, _, _, rfl, rfl, .inl (mbw _ (c := 2147483629) (by decide) (by decide)), .inl ⟨_, rfl, _, _, rfl, rfl, (by show (0 : Int) < 2147483587; decide), ?_⟩⟩
    refine ⟨_, rfl, _, rfl, _, _, rfl, rfl, ⟨by decide, by decide⟩, _, _, rfl, rfl, _, _, rfl, rfl, .inl (mbw _ (c := 2147483587) (by decide) (by decide)), .inl ⟨_, rfl, _, _, rfl, rfl, (by show (0 : Int) < 2147483563; decide), q _⟩⟩
theorem ok_source (T : Txt K mg a d) : FnOk P w K mg base CX0 1 a.source d.source P_source spSource := by
  refine T.f_source.ok sc_source (fun vs H Q E h => ?_) (fun cdv A outer s H vs Q E hr h => ?_)
  · obtain ⟨c, rfl, _⟩ := h
    rfl
  · obtain ⟨c, rfl, q⟩ := h
    refine ⟨_, (pss_cons (ps_if (pt_cmpR op_ge (pe_callB call_abs (by rfl) T.z_abs (by decide +kernel) (pa_cons (pv 0) pa_nil)) (pe_op op_powW pe_int pe_int) (nomark _)) (pss_one (ps_ret (pe_lst (pa_cons (pe_callB call_abs (by rfl) T.z_abs (by decide +kernel) (pa_cons (pv 0) pa_nil)) (pa_cons (pe_callB call_abs (by rfl) T.z_abs (by decide +kernel) (pa_cons (pv 0) pa_nil)) (pa_cons pe_int pa_nil)))))) pss_nil)
    (pss_one (ps_ret (pe_lst (pa_cons pe_int (pa_cons (pe_callB call_abs (by rfl) T.z_abs (by decide +kernel) (pa_cons (pv 0) pa_nil)) (pa_cons pe_int pa_nil))))))), ?_⟩
    have nn : 0 ≤ (if c < 0 then -c else c) := by split <;> omega
    refine ⟨_, rfl, _, rfl, _, _, rfl, rfl, ⟨by decide, by decide⟩, _, _, rfl, rfl, _, rfl, ite2 (fun _ => ?_) (fun _ => ?_)⟩
    · exact ⟨_, rfl, _, rfl, _, rfl, _, rfl, by show 3 ≤ sizeLine; decide, fun p hp => q p _ _ _ nn hp⟩
    · exact ⟨_, rfl, _, rfl, by show 3 ≤ sizeLine; decide, fun p hp => q p _ _ _ (Int.le_refl 0) hp⟩
theorem ok_take (T : Txt K mg a d) : FnOk P w K mg base CX0 2 a.take d.take P_take spTake := by
  have G_mixed : FnOk P w K mg base CX0 1 a.mixed d.mixed P_mixed spMixed := ok_mixed T
  refine T.f_take.ok sc_take (fun vs H Q E h => ?_) (fun cdv A outer s H vs Q E hr h => ?_)
  · obtain ⟨p, b, rfl, _⟩ := h
    rfl
  · obtain ⟨p, b, rfl, ⟨x, y, z, x0, hp⟩, b0, b64, q⟩ := h
    refine ⟨_, (pss_cons (ps_if (pt_cmpR op_gt (pe_ix ix_list (pv 0) pe_int (fun _ _ => rfl)) pe_int (nomark _)) (pss_cons (ps_set (i := 2) sc_take.nd rfl (Or.inl rfl) (pe_op op_mod (pe_callTy call_int1 (by rfl) T.z_int (by decide +kernel) (pa_cons (pe_ix ix_list (pv 0) pe_int (fun _ _ => rfl)) pa_nil)) (pv 1)))
      (pss_cons (ps_asg (pe_op op_fdivW (pe_ix ix_list (pv 0) pe_int (fun _ _ => rfl)) (pv 1)) (pg_sub (pv 0) pe_int set_list))
      (pss_one (ps_ret (pv 2))))) pss_nil)
    (pss_cons (ps_asg (pe_op op_add (pe_ix ix_list (pv 0) pe_int (fun _ _ => rfl)) pe_int) (pg_sub (pv 0) pe_int set_list))
    (pss_one (ps_ret (pe_op op_mod (pe_callTy call_int1 (by rfl) T.z_int (by decide +kernel) (pa_cons (pe_call G_mixed (hr.mono (by decide)) (by rfl) T.g_mixed T.k_mixed T.b_mixed .nil pass0 (pa_cons (pe_ix ix_list (pv 0) pe_int (fun _ _ => rfl)) (pa_cons (pe_ix ix_list (pv 0) pe_int (fun _ _ => rfl)) pa_nil))) pa_nil)) (pv 1)))))), ?_⟩
    have hS := L2.sq_of (K := K) hp
    have g0 : atI [V.int x, V.int y, V.int z] 0 = some (.int x) := atI_nat (j := 0) rfl
    have g1 : atI [V.int x, V.int y, V.int z] 1 = some (.int y) := atI_nat (j := 1) rfl
    have g2 : atI [V.int x, V.int y, V.int z] 2 = some (.int z) := atI_nat (j := 2) rfl
    refine ⟨_, rfl, p, _, _, _, rfl, rfl, hS, g0, _, _, rfl, rfl, _, rfl, ite2 (fun _ => ?_) (fun _ => ?_)⟩
    · refine ⟨_, rfl, p, _, _, _, rfl, rfl, hS, g0, .inl ⟨_, rfl, _, rfl, _, _, rfl, rfl, b0, ?_⟩⟩
      refine ⟨_, rfl, p, _, _, _, rfl, rfl, hS, g0, _, rfl, _, _, rfl, rfl, wide_div b0 b64 (by decide) (by decide), ?_⟩
      refine ⟨_, rfl, p, _, _, 0, rfl, rfl, hp, rfl, ?_⟩
      exact ⟨_, rfl, q _ _ _ _ (mb x b0).1 (mb x b0).2 (Int.ediv_nonneg x0 (by omega))⟩
    · refine ⟨_, rfl, p, _, _, _, rfl, rfl, hS, g2, _, _, rfl, rfl, ?_⟩
      refine ⟨_, rfl, p, _, _, 2, rfl, rfl, hp, rfl, ?_⟩
      have hp' : upd H p (.lst ([V.int x, V.int y, V.int z].set 2 (.int (z + 1)))) p = some (.lst [V.int x, V.int y, V.int (z + 1)]) := upd_same
      have hS' := L2.sq_of (K := K) hp'
      have g1' : atI [V.int x, V.int y, V.int (z + 1)] 1 = some (.int y) := atI_nat (j := 1) rfl
      have g2' : atI [V.int x, V.int y, V.int (z + 1)] 2 = some (.int (z + 1)) := atI_nat (j := 2) rfl
      refine ⟨_, rfl, p, _, _, _, rfl, rfl, hS', g1', _, rfl, p, _, _, _, rfl, rfl, hS', g2', y, z + 1, rfl, fun v => ?_⟩
      exact .inl ⟨_, rfl, _, rfl, _, _, rfl, rfl, b0, q _ _ _ _ (mb v b0).1 (mb v b0).2 x0⟩
end

def spPick (K : PySem.W.Frag) : Sp := fun vs H Q _ => ∃ p r xs, vs = [.ref p, .ref r] ∧ Src H p ∧ r ≠ p ∧ SqL K H r xs ∧ 0 < xs.length ∧ xs.length < 2 ^ 60 ∧ ∀ (v : V) (H' : Hp), v ∈ xs → Dn p H H' → Q v H'
section
variable {P : Program} {w : World} {K : PySem.W.Frag} {mg : Str → Option Value} {base : Heap} {a : Ad} {d : Fd}
theorem ok_pick (T : Txt K mg a d) : FnOk P w K mg base CX0 3 a.pick d.pick P_pick (spPick K) := by
  have G_take : FnOk P w K mg base CX0 2 a.take d.take P_take spTake := ok_take T
  refine T.f_pick.ok sc_pick (fun vs H Q E h => ?_) (fun cdv A outer s H vs Q E hr h => ?_)
  · obtain ⟨p, r, xs, rfl, _⟩ := h
    rfl
  · obtain ⟨p, r, xs, rfl, hs, ne, hx, l0, l1, q⟩ := h
    refine ⟨_, (pss_one (ps_ret (pe_ix ix_list (pv 1) (pe_call G_take (hr.mono (by decide)) (by rfl) T.g_take T.k_take T.b_take .nil pass0 (pa_cons (pv 0) (pa_cons (pe_callB call_len_seq (by rfl) T.z_len PySem.boot_len (pa_cons (pv 1) pa_nil)) pa_nil))) (fun _ _ => rfl)))), ?_⟩
    refine ⟨_, rfl, _, rfl, _, rfl, r, xs, rfl, .inl hx, p, _, rfl, hs, by omega, ?_, fun v x y z v0 v1 x0 => ?_⟩
    · have e : ((xs.length : Nat) : Int).natAbs = xs.length := Int.natAbs_natCast _
      rw [e]
      exact Nat.lt_trans l1 (by decide)
    · obtain ⟨i, rfl⟩ : ∃ i : Nat, v = (i : Int) := ⟨v.toNat, (Int.toNat_of_nonneg v0).symm⟩
      have hi : i < xs.length := by omega
      have gi : xs[i]? = some xs[i] := List.getElem?_eq_getElem hi
      exact ⟨r, xs, _, xs[i], rfl, rfl, SB.seq SB.put ne hx, atI_nat gi, q _ _ (List.getElem_mem hi) (.put x0)⟩
end

end K04

/-! readings of a row with something put in: xs[:i] + ys + xs[j:] -/
namespace L2
open PySem PySem.Spec PyProof.Rows LamX
section
variable {K : PySem.W.Frag} {σ : St} {H : Hp} {Q : VK}
/-- a part that is a number -/
def PartIs (σ : St) (t : TO) (o : Option Int) : Prop := ∀ H Q, Q o H → t σ H Q
theorem partNone : PartIs σ tNoPart none := fun _ _ q => q
theorem partVar {j : Nat} {i : Int} (h : σ[j]? = some (some (.int i))) : PartIs σ (tPart (tVar j)) (some i) := fun _ _ q => ⟨_, h, _, rfl, q⟩
/-- a slice of a list -/
theorem sl_go {i : Nat} {m : Addr} {xs : List V} {lo hi : TO} {l u : Option Int} (h1 : σ[i]? = some (some (.ref m))) (hm : H m = some (.lst xs)) (hl : PartIs σ lo l) (hu : PartIs σ hi u)
    (q : ∀ p H', H p = none → Same H H' → H' p = some (.lst (cutV xs l u)) → Q (.ref p) H') : tSl (rSlL K) (tVar i) lo hi σ H Q :=
  ⟨_, h1, hl _ _ (hu _ _ ⟨m, xs, rfl, L2.sq_of hm, fun p hp => q p _ hp (same_upd hp) upd_same⟩)⟩
/-- a displayed list of things that lie in the slots -/
def LstIs (σ : St) (t : TE) (ys : List V) : Prop := ∀ (H : Hp) (Q : VK), (∀ p H', Same H H' → H' p = some (.lst ys) → Q (.ref p) H') → t σ H Q
theorem cat_go {ta tb : TE} {xs ys : List V} {H : Hp} {Q : VK} (ha : ∀ Q1 : VK, (∀ p H', Same H H' → H' p = some (.lst xs) → Q1 (.ref p) H') → ta σ H Q1) (hb : ∀ (H1 : Hp) (Q1 : VK), Same H H1 → (∀ p H', Same H1 H' → H' p = some (.lst ys) → Q1 (.ref p) H') → tb σ H1 Q1)
    (sz : xs.length + ys.length ≤ sizeLine) (q : ∀ p H', H p = none → Same H H' → H' p = some (.lst (xs ++ ys)) → Q (.ref p) H') : tOp (rCatS K) ta tb σ H Q :=
  ha _ fun p1 H1 s1 k1 => hb H1 _ s1 fun p2 H2 s2 k2 => ⟨p1, p2, _, _, rfl, rfl, L2.sq_of (s2 _ _ k1), L2.sq_of k2, sz, fun p3 hp3 => q p3 _ ((s1.trans s2).free hp3) ((s1.trans s2).trans (same_upd hp3)) upd_same⟩
theorem cat3r {i : Nat} {m : Addr} {xs ys : List V} {k j : Nat} {tl : TE} {hi lo : TO} (h1 : σ[i]? = some (some (.ref m))) (hm : H m = some (.lst xs)) (hu : PartIs σ hi (some (k : Int))) (hlo : PartIs σ lo (some (j : Int))) (hl : ∀ (H1 : Hp) (Q1 : VK), Same H H1 → (∀ p H', Same H1 H' → H' p = some (.lst ys) → Q1 (.ref p) H') → tl σ H1 Q1)
    (sz : xs.length + ys.length + xs.length ≤ sizeLine) (q : ∀ p H', H p = none → Same H H' → H' p = some (.lst (xs.take k ++ ys ++ xs.drop j)) → Q (.ref p) H') :
    tOp (rCatS K) (tOp (rCatS K) (tSl (rSlL K) (tVar i) tNoPart hi) tl) (tSl (rSlL K) (tVar i) lo tNoPart) σ H Q := by
  have t1 : (xs.take k).length ≤ xs.length := by rw [List.length_take]; exact Nat.min_le_right _ _
  have t2 : (xs.drop j).length ≤ xs.length := by rw [List.length_drop]; exact Nat.sub_le _ _
  refine cat_go (xs := xs.take k ++ ys) (ys := xs.drop j) (fun Q1 q1 => cat_go (xs := xs.take k) (ys := ys) (fun Q2 q2 => sl_go h1 hm partNone hu fun p H' _ s e => q2 p H' s (by rw [← cut_take]; exact e)) (fun H1 Q2 s2 q2 => hl H1 Q2 s2 q2) (by omega) fun p H' _ => q1 p H')
    (fun H1 Q2 s1 q2 => sl_go h1 (s1 _ _ hm) hlo partNone fun p H' _ s e => q2 p H' s (by rw [← cut_drop]; exact e)) (by rw [List.length_append]; omega) q
theorem cat3 {i : Nat} {m : Addr} {xs ys : List V} {k j : Nat} {tl : TE} {hi lo : TO} (h1 : σ[i]? = some (some (.ref m))) (hm : H m = some (.lst xs)) (hu : PartIs σ hi (some (k : Int))) (hlo : PartIs σ lo (some (j : Int))) (hl : LstIs σ tl ys)
    (sz : xs.length + ys.length + xs.length ≤ sizeLine) (q : ∀ p H', H p = none → Same H H' → H' p = some (.lst (xs.take k ++ ys ++ xs.drop j)) → Q (.ref p) H') :
    tOp (rCatS K) (tOp (rCatS K) (tSl (rSlL K) (tVar i) tNoPart hi) tl) (tSl (rSlL K) (tVar i) lo tNoPart) σ H Q :=
  cat3r h1 hm hu hlo (fun H1 Q1 _ q1 => hl H1 Q1 q1) sz q
/-- xs + ys, xs a row in a slot -/
theorem cat2 {i : Nat} {m : Addr} {xs ys : List V} {tl : TE} (h1 : σ[i]? = some (some (.ref m))) (hm : H m = some (.lst xs)) (hl : LstIs σ tl ys) (sz : xs.length + ys.length ≤ sizeLine)
    (q : ∀ p H', H p = none → Same H H' → H' p = some (.lst (xs ++ ys)) → Q (.ref p) H') : tOp (rCatS K) (tVar i) tl σ H Q :=
  ⟨_, h1, hl _ _ fun p2 H2 s2 k2 => ⟨m, p2, _, _, rfl, rfl, L2.sq_of (s2 _ _ hm), L2.sq_of k2, sz, fun p3 hp3 => q p3 _ (s2.free hp3) (s2.trans (same_upd hp3)) upd_same⟩⟩
theorem lst1 {j : Nat} {v : V} (h : σ[j]? = some (some v)) : LstIs σ (tLst (tCons (tVar j) tNil)) [v] := fun H Q q => ⟨_, h, by show 1 ≤ sizeLine; decide, fun p hp => q p _ (same_upd hp) upd_same⟩
/-! ### displayed rows, item by item -/
def Stb (G : V → Hp → Prop) : Prop := ∀ v H H', Same H H' → G v H → G v H'
/-- each of the n things is one of G -/
def AllG (σ : St) (ta : TA) (G : V → Hp → Prop) (n : Nat) (H : Hp) : Prop := ∀ Q : List V → Hp → Prop, (∀ vs H', Same H H' → vs.length = n → (∀ y ∈ vs, G y H') → Q vs H') → ta σ H Q
def OneG (σ : St) (te : TE) (G : V → Hp → Prop) (H : Hp) : Prop := ∀ Q : VK, (∀ v H', Same H H' → G v H' → Q v H') → te σ H Q
theorem all_nil {G : V → Hp → Prop} {H : Hp} : AllG σ tNil G 0 H := fun Q q => q [] H (Same.refl H) rfl fun y hy => nomatch hy
theorem all_cons {G : V → Hp → Prop} (st : Stb G) {n : Nat} {te : TE} {ta : TA} {H : Hp} (h : OneG σ te G H) (t : ∀ H1, Same H H1 → AllG σ ta G n H1) : AllG σ (tCons te ta) G (n + 1) H := fun Q q =>
  h _ fun v H1 s1 g1 => t H1 s1 _ fun vs H2 s2 l2 g2 => q (v :: vs) H2 (s1.trans s2) (by rw [List.length_cons, l2]) fun y hy => by
    rcases List.mem_cons.mp hy with rfl | hy
    · exact st _ _ _ s2 g1
    · exact g2 y hy
theorem lst_all {G : V → Hp → Prop} (st : Stb G) {n : Nat} {ta : TA} (h : AllG σ ta G n H) (hn : n ≤ sizeLine) (q : ∀ p vs H', H p = none → Same H H' → H' p = some (.lst vs) → vs.length = n → (∀ y ∈ vs, G y H') → Q (.ref p) H') : tLst ta σ H Q :=
  h _ fun vs H1 s1 l1 g1 => ⟨by rw [l1]; exact hn, fun p hp => q p vs _ (s1.free hp) (s1.trans (same_upd hp)) upd_same l1 fun y hy => st _ _ _ (same_upd hp) (g1 y hy)⟩
theorem tup_all {G : V → Hp → Prop} (st : Stb G) {n : Nat} {ta : TA} (h : AllG σ ta G n H) (hn : n ≤ sizeLine) (q : ∀ p vs H', H p = none → Same H H' → H' p = some (.tup vs) → vs.length = n → (∀ y ∈ vs, G y H') → Q (.ref p) H') : tTup ta σ H Q :=
  h _ fun vs H1 s1 l1 g1 => ⟨by rw [l1]; exact hn, fun p hp => q p vs _ (s1.free hp) (s1.trans (same_upd hp)) upd_same l1 fun y hy => st _ _ _ (same_upd hp) (g1 y hy)⟩
/-- the same, each thing at its place told: what the row is, exactly -/
theorem lst_now {ta : TA} {xs : List V} (h : ∀ Q : List V → Hp → Prop, (∀ H', Same H H' → Q xs H') → ta σ H Q) (hn : xs.length ≤ sizeLine) (q : ∀ p H', Same H H' → H' p = some (.lst xs) → Q (.ref p) H') : tLst ta σ H Q :=
  h _ fun H1 s1 => ⟨hn, fun p hp => q p _ (s1.trans (same_upd hp)) upd_same⟩
theorem rep_of {te tn : TE} {xs : List V} {n : Int} (ht : ∀ Q1 : VK, (∀ p H', Same H H' → H' p = some (.lst xs) → Q1 (.ref p) H') → te σ H Q1) (hn : ∀ (H1 : Hp) (Q1 : VK), Q1 (.int n) H1 → tn σ H1 Q1) (h0 : 0 ≤ n) (h63 : n < 2 ^ 63) (sz : xs.length * n.toNat ≤ sizeLine)
    (q : ∀ p H', Same H H' → H' p = some (.lst (List.replicate n.toNat xs).flatten) → Q (.ref p) H') : tOp rRep te tn σ H Q :=
  ht _ fun p H1 s1 k1 => hn _ _ ⟨p, n, xs, rfl, rfl, k1, by omega, h63, sz, fun p2 hp => q p2 _ (s1.trans (same_upd hp)) upd_same⟩
/-- a pair: a thing, and where it is wrong -/
def PairG (R : V → Int → Hp → Prop) : V → Hp → Prop := fun y H => ∃ t v i, y = .ref t ∧ H t = some (.tup [v, .int i]) ∧ R v i H
theorem pair_stb {R : V → Int → Hp → Prop} (st : ∀ v i H H', Same H H' → R v i H → R v i H') : Stb (PairG R) := fun y H H' s h => by
  obtain ⟨t, v, i, e, ht, r⟩ := h
  exact ⟨t, v, i, e, s _ _ ht, st _ _ _ _ s r⟩
theorem pair_one {R : V → Int → Hp → Prop} (st : ∀ v i H H', Same H H' → R v i H → R v i H') {te tb : TE} {i : Int} {H : Hp} (h : OneG σ te (fun v H => R v i H) H) (hb : ∀ (H1 : Hp) (Q1 : VK), Q1 (.int i) H1 → tb σ H1 Q1) : OneG σ (tTup (tCons te (tCons tb tNil))) (PairG R) H := fun Q q =>
  h _ fun v H1 s1 r1 => hb _ _ ⟨by show 2 ≤ sizeLine; decide, fun t ht => q _ _ (s1.trans (same_upd ht)) ⟨t, v, i, rfl, upd_same, st _ _ _ _ (same_upd ht) r1⟩⟩
theorem mem_rep {n : Nat} {xs : List V} {y : V} (h : y ∈ (List.replicate n xs).flatten) : y ∈ xs := by
  obtain ⟨l, hl, hy⟩ := List.mem_flatten.mp h
  rw [List.mem_replicate] at hl
  rw [hl.2] at hy
  exact hy
theorem len_rep {n : Nat} {xs : List V} : (List.replicate n xs).flatten.length = n * xs.length := by
  induction n with
  | zero => simp
  | succ n ih => rw [List.replicate_succ, List.flatten_cons, List.length_append, ih, Nat.succ_mul, Nat.add_comm]
theorem lst2 {j : Nat} {v : V} (h : σ[j]? = some (some v)) : LstIs σ (tLst (tCons (tVar j) (tCons (tC .non) tNil))) [v, .non] := fun H Q q => ⟨_, h, by show 2 ≤ sizeLine; decide, fun p hp => q p _ (same_upd hp) upd_same⟩
theorem ne_len {H : Hp} {p q : Addr} {xs ys : List V} (h : H p = some (.lst xs)) (g : H q = some (.lst ys)) (n : xs.length ≠ ys.length) : p ≠ q := fun e => by
  rw [e, g] at h
  cases h
  exact n rfl
/-- xs * n -/
theorem rep_go {i : Nat} {m : Addr} {xs : List V} {n : Int} {tn : TE} (h1 : σ[i]? = some (some (.ref m))) (hm : H m = some (.lst xs)) (hn : ∀ (H1 : Hp) (Q1 : VK), Q1 (.int n) H1 → tn σ H1 Q1) (h0 : 0 ≤ n) (h63 : n < 2 ^ 63) (sz : xs.length * n.toNat ≤ sizeLine)
    (q : ∀ p H', Same H H' → H' p = some (.lst (List.replicate n.toNat xs).flatten) → Q (.ref p) H') : tOp rRep (tVar i) tn σ H Q :=
  ⟨_, h1, hn _ _ ⟨m, n, xs, rfl, rfl, hm, by omega, h63, sz, fun p hp => q p _ (same_upd hp) upd_same⟩⟩
/-! ### what a source's drawing leaves -/
theorem any_dn {H H' : Hp} {p : Addr} {v : V} {T : String} (hs : Src H p) (d : Dn p H H') (h : AnyV H v T) : AnyV H' v T := by
  have g : ∀ {b : Addr} {o : HO}, H b = some o → (∀ xs, o ≠ .lst xs) → H' b = some o := fun {b o} e n => d.1 b o (fun z => by
    obtain ⟨x, y, z0, _, e2⟩ := hs
    rw [z, e2] at e
    cases e
    exact n _ rfl) e
  cases h with
  | non => exact .non
  | bl b => exact .bl b
  | int i => exact .int i
  | str x => exact .str x
  | @lst q xs h =>
    by_cases c : q = p
    · obtain ⟨x, y, z, _, e⟩ := d.2
      rw [c]
      exact .lst e
    · exact .lst (d.1 _ _ c h)
  | tup h => exact .tup (g h fun _ z => nomatch z)
  | dK h => exact .dK (g h fun _ z => nomatch z)
theorem row_dn {H H' : Hp} {p q : Addr} {xs : List V} (d : Dn p H H') (n : q ≠ p) (h : RowAt H q xs) : RowAt H' q xs := h.imp (d.1 _ _ n) (d.1 _ _ n)
theorem keys_dn {H H' : Hp} {p : Addr} {v : V} {lo hi : Int} {r : Option Int} (hs : Src H p) (d : Dn p H H') (n : v ≠ .ref p) (h : KeysQ H v lo hi r) : KeysQ H' v lo hi r := by
  have g : ∀ {x : V} {b : Bool}, okInt H x b → okInt H' x b := fun h => h.imp fun _ h => ⟨any_dn hs d h.1, h.2⟩
  cases h with
  | odd h n1 n2 => exact .odd (any_dn hs d h) n1 n2
  | len e1 h hl => exact .len e1 (row_dn d (fun z => n (by rw [e1, z])) h) hl
  | item e1 h hl hx bad good => exact .item e1 (row_dn d (fun z => n (by rw [e1, z])) h) hl hx (g bad) fun j y hj hy => g (good j y hj hy)
  | fine e1 h hl good => exact .fine e1 (row_dn d (fun z => n (by rw [e1, z])) h) hl fun j y hy => g (good j y hy)
/-! ### one construct at a time -/
theorem st_name {i : Nat} {v : V} {σ : St} {H : Hp} {Q : St → Hp → Prop} (h : Q (σ.set i (some v)) H) : gName i v σ H Q := h
theorem st_seq {t u : TS} {D : Ends} {σ : St} {H : Hp} (h : t { D with nx := u D } σ H) : tSeq t u D σ H := h
theorem st_asg {te : TE} {g : TG} {D : Ends} {σ : St} {H : Hp} (h : te σ H fun x H1 => g x σ H1 D.nx) : tAsg te g D σ H := h
theorem st_ret {te : TE} {D : Ends} {σ : St} {H : Hp} (h : te σ H D.rt) : tRet te D σ H := h
theorem st_op {r : R2} {ta tb : TE} {σ : St} {H : Hp} {Q : VK} (h : ta σ H fun x H1 => tb σ H1 fun y H2 => r x y H2 Q) : tOp r ta tb σ H Q := h
theorem st_call {sp : Sp} {dvs : List V} {E : XK} {t : TA} {σ : St} {H : Hp} {Q : VK} (h : t σ H fun vs H1 => sp (vs ++ dvs) H1 Q E) : tCall sp dvs E t σ H Q := h
theorem st_cb {r : List V → Hp → VK → Prop} {t : TA} {σ : St} {H : Hp} {Q : VK} (h : t σ H fun vs H1 => r vs H1 Q) : tCB r t σ H Q := h
theorem st_cons {ta : TE} {tr : TA} {σ : St} {H : Hp} {Q : List V → Hp → Prop} (h : ta σ H fun x H1 => tr σ H1 fun xs H2 => Q (x :: xs) H2) : tCons ta tr σ H Q := h
theorem st_lst {t : TA} {σ : St} {H : Hp} {Q : VK} (h : t σ H fun xs H1 => xs.length ≤ sizeLine ∧ ∀ p, H1 p = none → Q (.ref p) (upd H1 p (.lst xs))) : tLst t σ H Q := h
theorem st_tup {t : TA} {σ : St} {H : Hp} {Q : VK} (h : t σ H fun xs H1 => xs.length ≤ sizeLine ∧ ∀ p, H1 p = none → Q (.ref p) (upd H1 p (.tup xs))) : tTup t σ H Q := h
theorem st_expr {te : TE} {D : Ends} {σ : St} {H : Hp} (h : te σ H fun _ H1 => D.nx σ H1) : tDrop te D σ H := h
theorem st_next {D : Ends} {σ : St} {H : Hp} (h : D.nx σ H) : tNext D σ H := h
theorem st_if {c : TT} {t u : TS} {D : Ends} {σ : St} {H : Hp} (h : c σ H fun b H1 => if b = true then t D σ H1 else u D σ H1) : tIfS c t u D σ H := h
theorem st_or {t u : TT} {σ : St} {H : Hp} {Q : Bool → Hp → Prop} (h : t σ H fun c H1 => if c = true then Q true H1 else u σ H1 Q) : tOr t u σ H Q := h
theorem st_test {te : TE} {σ : St} {H : Hp} {Q : Bool → Hp → Prop} (h : te σ H fun x H' => ∃ k, x = .bl k ∧ Q k H') : tTest te σ H Q := h
theorem st_bm {K : PySem.W.Frag} {r : V → List V → Hp → VK → Prop} {i : Nat} {t : TA} {σ : St} {H : Hp} {Q : VK} {l : Addr} {xs : List V} (e : σ[i]? = some (some (.ref l))) (hl : H l = some (.lst xs)) (h : t σ H fun vs H1 => r (.ref l) vs H1 Q) : tBM K "list" r (tVar i) t σ H Q :=
  ⟨_, e, .inl ⟨rfl, _, L2.sq_of hl⟩, h⟩
theorem st_var {i : Nat} {v : V} {σ : St} {H : Hp} {Q : VK} (e : σ[i]? = some (some v)) (h : Q v H) : tVar i σ H Q := ⟨_, e, h⟩
end
end L2

namespace K04
open PySem PySem.Spec PyProof.Rows L2 LamX
def spBadKeys : Sp := fun vs H Q _ => ∃ (p m : Addr) (ns : List Int), vs = [.ref p, .ref m] ∧ Src H p ∧ m ≠ p ∧ H m = some (.lst (ns.map V.int)) ∧ 1 ≤ ns.length ∧ ns.length ≤ 10 ∧
  ∀ (t : Addr) (v : V) (i : Int) (H' : Hp), Dn p H H' → t ≠ p → H' t = some (.tup [v, .int i]) → KeysQ H' v 0 2000 (some i) → v ≠ .ref p → Q (.ref t) H'
def OddK : V → Hp → Prop := fun v H => ∃ T, AnyV H v T ∧ isI v = false
theorem oddk_stb : Stb OddK := fun v H H' s h => h.imp fun T h => ⟨h.1.ext (.of s), h.2⟩
abbrev BadR (p : Addr) : V → Int → Hp → Prop := fun v i H => KeysQ H v 0 2000 (some i) ∧ v ≠ .ref p
theorem bad_stb {p : Addr} : ∀ v i H H', Same H H' → BadR p v i H → BadR p v i H' := fun v i H H' s h => ⟨keysExt (.of s) h.1, h.2⟩
theorem same_disp {H : Hp} {o : Addr} {x y : HO} (h : H o = none) : Same H (upd (upd H o x) o y) := fun b u z => by rw [upd_ne (ne_of_none z h), upd_ne (ne_of_none z h)]; exact z
theorem ref_ne {p q : Addr} (h : q ≠ p) : V.ref q ≠ V.ref p := fun e => by cases e; exact h rfl
section
variable {P : Program} {w : World} {K : PySem.W.Frag} {mg : Str → Option Value} {base : Heap} {a : Ad} {d : Fd}
theorem ok_bad_keys (T : Txt K mg a d) : FnOk P w K mg base CX0 4 a.bad_keys d.bad_keys P_bad_keys spBadKeys := by
  have G_take : FnOk P w K mg base CX0 2 a.take d.take P_take spTake := ok_take T
  have G_pick : FnOk P w K mg base CX0 3 a.pick d.pick P_pick (spPick K) := ok_pick T
  refine T.f_bad_keys.ok sc_bad_keys (fun vs H Q E h => ?_) (fun cdv A outer s H vs Q E hr h => ?_)
  · obtain ⟨p, m, ns, rfl, _⟩ := h
    rfl
  · obtain ⟨p, m, ns, rfl, hs, nmp, hm, l1, l10, q⟩ := h
    refine ⟨_, (pss_cons (ps_set (i := 2) sc_bad_keys.nd rfl (Or.inl rfl) (pe_call G_take (hr.mono (by decide)) (by rfl) T.g_take T.k_take T.b_take .nil pass0 (pa_cons (pv 0) (pa_cons (pe_op op_add (pe_callB call_len_seq (by rfl) T.z_len PySem.boot_len (pa_cons (pv 1) pa_nil)) pe_int) pa_nil))))
    (pss_cons (ps_set (i := 3) sc_bad_keys.nd rfl (Or.inl rfl) (pe_call G_pick (hr.mono (by decide)) (by rfl) T.g_pick T.k_pick T.b_pick .nil pass0 (pa_cons (pv 0) (pa_cons (pe_lst (pa_cons pe_non (pa_cons pe_bl (pa_cons pe_bl (pa_cons pe_str (pa_cons (pe_tup (pa_cons pe_int pa_nil)) (pa_cons (pe_lst pa_nil) (pa_cons pe_dnewK (pa_cons pe_str pa_nil))))))))) pa_nil))))
    (pss_cons (ps_set (i := 4) sc_bad_keys.nd rfl (Or.inl rfl) (pe_op op_rep (pe_lst (pa_cons (pe_tup (pa_cons (pe_op op_catS (pe_op op_catS (pe_slice sl_list (pv 1) po_none (po_some (pv 2))) (pe_lst (pa_cons (pv 3) pa_nil))) (pe_slice sl_list (pv 1) (po_some (pv 2)) po_none)) (pa_cons (pv 2) pa_nil))) (pa_cons (pe_tup (pa_cons (pe_callTy call_tuple_of (by rfl) T.z_tuple (by decide +kernel) (pa_cons (pe_op op_catS (pe_op op_catS (pe_slice sl_list (pv 1) po_none (po_some (pv 2))) (pe_lst (pa_cons (pv 3) (pa_cons pe_non pa_nil)))) (pe_slice sl_list (pv 1) (po_some (pv 2)) po_none)) pa_nil)) (pa_cons (pv 2) pa_nil))) pa_nil))) pe_int))
    (pss_cons (ps_set (i := 4) sc_bad_keys.nd rfl (Or.inl rfl) (pe_op op_catS (pv 4) (pe_lst (pa_cons (pe_tup (pa_cons pe_non (pa_cons (pe_un un_neg pe_int) pa_nil))) (pa_cons (pe_tup (pa_cons pe_int (pa_cons (pe_un un_neg pe_int) pa_nil))) (pa_cons (pe_tup (pa_cons (pe_disp (pps_cons pe_int pe_int pps_nil) (by rfl) (by rfl) (fun z => by cases z) (by decide)) (pa_cons (pe_un un_neg pe_int) pa_nil))) (pa_cons (pe_tup (pa_cons pe_str (pa_cons (pe_un un_neg pe_int) pa_nil))) (pa_cons (pe_tup (pa_cons (pe_op op_catS (pe_op op_rep (pv 1) pe_int) (pe_op op_rep (pe_lst (pa_cons pe_int pa_nil)) pe_int)) (pa_cons (pe_un un_neg pe_int) pa_nil))) (pa_cons (pe_tup (pa_cons pe_bl (pa_cons (pe_un un_neg pe_int) pa_nil))) pa_nil)))))))))
    (pss_one (ps_ret (pe_call G_pick (hr.mono (by decide)) (by rfl) T.g_pick T.k_pick T.b_pick .nil pass0 (pa_cons (pv 0) (pa_cons (pv 4) pa_nil))))))))), ?_⟩
    have ek : (ns.map V.int).length = ns.length := List.length_map _
    refine ⟨_, rfl, _, rfl, m, _, rfl, .inl (L2.sq_of hm), _, _, rfl, rfl, p, _, rfl, hs, by omega, by rw [ek]; omega, fun v x y z v0 v1 x0 => ?_⟩
    obtain ⟨k, rfl⟩ : ∃ k : Nat, v = (k : Int) := ⟨v.toNat, (Int.toNat_of_nonneg v0).symm⟩
    rw [ek] at v1
    have hk : k ≤ ns.length := by omega
    have d1 : Dn p H (upd H p (.lst [.int x, .int y, .int z])) := .put x0
    have hm1 := d1.1 _ _ nmp hm
    generalize upd H p (.lst [.int x, .int y, .int z]) = H1 at d1 hm1 ⊢
    refine ⟨_, rfl, lst_all oddk_stb (all_cons oddk_stb (fun Q q => q _ _ (Same.refl _) ⟨_, .non, rfl⟩) fun _ s0 => all_cons oddk_stb (fun Q q => q _ _ (Same.refl _) ⟨_, .bl _, rfl⟩) fun _ s1 => all_cons oddk_stb (fun Q q => q _ _ (Same.refl _) ⟨_, .bl _, rfl⟩) fun _ s2 => all_cons oddk_stb (fun Q q => q _ _ (Same.refl _) ⟨_, .str _, rfl⟩) fun _ s3 => all_cons oddk_stb (fun Q q => ⟨by show 1 ≤ sizeLine; decide, fun o ho => q _ _ (same_upd ho) ⟨_, .tup upd_same, rfl⟩⟩) fun _ s4 => all_cons oddk_stb (fun Q q => ⟨by show 0 ≤ sizeLine; decide, fun o ho => q _ _ (same_upd ho) ⟨_, .lst upd_same, rfl⟩⟩) fun _ s5 => all_cons oddk_stb (fun Q q o ho => q _ _ (same_upd ho) ⟨_, .dK upd_same, rfl⟩) fun _ s6 => all_cons oddk_stb (fun Q q => q _ _ (Same.refl _) ⟨_, .str _, rfl⟩) fun _ s7 => all_nil) (by decide) fun LL Ls HX fX sX hLX hlen itX => ?_⟩
    have d2 := d1.same sX
    refine ⟨p, LL, Ls, rfl, d2.2, d1.2.ne fX, L2.sq_of hLX, by rw [hlen]; decide, by rw [hlen]; decide, fun odd H2 hodd d3 => ?_⟩
    obtain ⟨To, hko, hio⟩ := itX odd hodd
    have hko2 : AnyV H2 odd To := any_dn d2.2 d3 hko
    have hm2 : H2 m = some (.lst (ns.map V.int)) := d3.1 _ _ nmp (sX _ _ hm1)
    have d4 := d2.trans d3
    clear itX hLX hlen d3 d2 d1 hm1 sX hodd hm hko fX
    have sz1 : ∀ ys : List V, ys.length ≤ 2 → (ns.map V.int).length + ys.length + (ns.map V.int).length ≤ sizeLine := fun ys h => by
      rw [ek]
      exact Nat.le_trans (by omega : ns.length + ys.length + ns.length ≤ 22) (by decide)
    have dr : ((ns.map V.int).drop k).length ≤ 10 := by rw [List.length_drop, ek]; omega
    refine st_name ?_
    dsimp only
    refine st_seq (st_asg (st_op (lst_all (pair_stb (bad_stb (p := p))) (all_cons (pair_stb bad_stb) (pair_one bad_stb (fun Q q => ?_) (fun _ _ q => ⟨_, rfl, q⟩)) fun H3 s3 => all_cons (pair_stb bad_stb) (pair_one bad_stb (fun Q q => ?_) (fun _ _ q => ⟨_, rfl, q⟩)) fun _ _ => all_nil) (by decide) fun L1 xs1 H5 f5 s5 k5 n5 g5 => ?_)))
    · refine cat3 (K := K) (i := 1) (m := m) (xs := ns.map V.int) (ys := [odd]) (k := k) (j := k) rfl hm2 (partVar rfl) (partVar rfl) (lst1 rfl) (sz1 _ (by show 1 ≤ 2; decide)) fun p1 H4 f4 s4 k4 => q _ _ s4 ⟨?_, ref_ne (d4.2.ne f4)⟩
      exact keys_put (rest := (ns.map V.int).drop k) (.inl k4) (by rw [List.append_assoc]; rfl) hk (by decide) (by omega) (hko2.ext (.of s4)) hio
    · have d5 := d4.same s3
      refine st_cb (st_cons (cat3 (K := K) (i := 1) (m := m) (xs := ns.map V.int) (ys := [odd, .non]) (k := k) (j := k) rfl (s3 _ _ hm2) (partVar rfl) (partVar rfl) (lst2 rfl) (sz1 _ (by show 2 ≤ 2; decide)) fun p1 H4 f4 s4 k4 => ⟨p1, _, rfl, .inl ⟨L2.sq_of k4, fun l hl => q _ _ (s4.trans (same_upd hl)) ⟨?_, ref_ne ((d5.same s4).2.ne hl)⟩⟩⟩))
      exact keys_put (rest := .non :: (ns.map V.int).drop k) (.inr upd_same) (by rw [List.append_assoc]; rfl) hk (by decide) (by rw [List.length_cons]; omega) (hko2.ext (.of ((s3.trans s4).trans (same_upd hl)))) hio
    have d5 := d4.same s5
    have hm5 := s5 _ _ hm2
    refine ⟨L1, 3, xs1, rfl, rfl, k5, by decide, by decide, by rw [n5]; decide, fun LR hLR => ?_⟩
    have k6 : upd H5 LR (.lst (List.replicate (3 : Int).toNat xs1).flatten) LR = some (.lst (List.replicate (3 : Int).toNat xs1).flatten) := upd_same
    have s6 := same_upd (o := .lst (List.replicate (3 : Int).toNat xs1).flatten) hLR
    have d6 := d5.same s6
    have hm6 := s6 _ _ hm5
    have g6 : ∀ y ∈ (List.replicate (3 : Int).toNat xs1).flatten, PairG (BadR p) y (upd H5 LR (.lst (List.replicate (3 : Int).toNat xs1).flatten)) := fun y hy => pair_stb bad_stb _ _ _ s6 (g5 y (mem_rep hy))
    have n6 : (List.replicate (3 : Int).toNat xs1).flatten.length = 6 := by rw [len_rep, n5]; rfl
    generalize upd H5 LR (.lst (List.replicate (3 : Int).toNat xs1).flatten) = H6 at k6 s6 d6 hm6 g6 ⊢
    generalize (List.replicate (3 : Int).toNat xs1).flatten = xs6 at k6 g6 n6 ⊢
    clear s6 hLR k5 n5 g5 hm5 d5 s5 f5 hm2 d4 hko2
    refine st_name ?_
    dsimp only
    refine st_seq (st_asg (st_op (st_var rfl (lst_all (pair_stb (bad_stb (p := p))) (all_cons (pair_stb bad_stb) (pair_one bad_stb (fun Q q => q _ _ (Same.refl _) ⟨.odd .non (by decide) (by decide), fun e => by cases e⟩) (fun _ _ q => ⟨_, rfl, q⟩)) fun _ s0 => all_cons (pair_stb bad_stb) (pair_one bad_stb (fun Q q => q _ _ (Same.refl _) ⟨.odd (.int _) (by decide) (by decide), fun e => by cases e⟩) (fun _ _ q => ⟨_, rfl, q⟩)) fun _ s1 => all_cons (pair_stb bad_stb) (pair_one bad_stb (fun Q q => ?dd) (fun _ _ q => ⟨_, rfl, q⟩)) fun _ s2 => all_cons (pair_stb bad_stb) (pair_one bad_stb (fun Q q => q _ _ (Same.refl _) ⟨.odd (.str _) (by decide) (by decide), fun e => by cases e⟩) (fun _ _ q => ⟨_, rfl, q⟩)) fun _ s3 => all_cons (pair_stb bad_stb) (pair_one bad_stb (fun Q q => ?lg) (fun _ _ q => ⟨_, rfl, q⟩)) fun _ s4 => all_cons (pair_stb bad_stb) (pair_one bad_stb (fun Q q => q _ _ (Same.refl _) ⟨.odd (.bl _) (by decide) (by decide), fun e => by cases e⟩) (fun _ _ q => ⟨_, rfl, q⟩)) fun _ s5 => all_nil) (by decide) fun L3 xs3 H7 f7 s7 k7 n7 g7 => ?_))))
    case dd =>
      exact fun o ho => ⟨upd_same, [(.inl 0, .int 1)], rfl, by decide, q _ _ (same_disp ho) ⟨.odd (.dK upd_same) (by decide) (by decide), ref_ne ((d6.same (s0.trans s1)).2.ne ho)⟩⟩
    case lg =>
      have sm := ((s0.trans s1).trans s2).trans s3
      have dm := d6.same sm
      have hmm := sm _ _ hm6
      refine ⟨_, rfl, m, 2001, _, rfl, rfl, hmm, by decide, by decide, ?_, fun p1 hp1 => ⟨by show 1 ≤ sizeLine; decide, fun p2 hp2 => ⟨p2, 2001, _, rfl, rfl, upd_same, by decide, by decide, by show 1 * 2001 ≤ sizeLine; decide, fun p3 hp3 => ⟨p1, p3, _, _, rfl, rfl, L2.sq_of ((same_upd hp3) _ _ ((same_upd hp2) _ _ upd_same)), L2.sq_of upd_same, ?_, fun p4 hp4 => ?_⟩⟩⟩⟩
      · rw [ek]
        exact Nat.le_trans (Nat.mul_le_mul l10 (by decide : (2001 : Int).toNat ≤ 2001)) (by decide)
      · rw [len_rep, len_rep, ek]
        exact Nat.le_trans (Nat.add_le_add (Nat.mul_le_mul (by decide : (2001 : Int).toNat ≤ 2001) l10) (by decide : (2001 : Int).toNat * 1 ≤ 2001)) (by decide)
      · refine q _ _ ((((same_upd hp1).trans (same_upd hp2)).trans (same_upd hp3)).trans (same_upd hp4)) ⟨.len rfl (.inl upd_same) ?_, ref_ne (((dm.same (((same_upd hp1).trans (same_upd hp2)).trans (same_upd hp3))).2).ne hp4)⟩
        rw [List.length_append, len_rep, len_rep, ek]
        show ¬ (_ ∧ ((2001 * ns.length + 2001 * 1 : Nat) : Int) ≤ 2000)
        omega
    have d7 := d6.same s7
    refine ⟨LR, L3, _, _, rfl, rfl, L2.sq_of (s7 _ _ k6), L2.sq_of k7, ?_, fun L4 hL4 => ?_⟩
    · rw [n6, n7]
      decide
    have s8 := same_upd (o := .lst (xs6 ++ xs3)) hL4
    have k8 : upd H7 L4 (.lst (xs6 ++ xs3)) L4 = some (.lst (xs6 ++ xs3)) := upd_same
    have g8 : ∀ y ∈ xs6 ++ xs3, PairG (BadR p) y (upd H7 L4 (.lst (xs6 ++ xs3))) := fun y hy => by
      rcases List.mem_append.mp hy with h | h
      · exact pair_stb bad_stb _ _ _ s8 (pair_stb bad_stb _ _ _ s7 (g6 y h))
      · exact pair_stb bad_stb _ _ _ s8 (g7 y h)
    have n8 : (xs6 ++ xs3).length = 12 := by rw [List.length_append, n6, n7]
    have d8 := d7.same s8
    generalize upd H7 L4 (.lst (xs6 ++ xs3)) = H8 at s8 k8 g8 d8 ⊢
    generalize xs6 ++ xs3 = xs8 at k8 g8 n8 ⊢
    refine st_name ?_
    dsimp only
    refine st_ret (st_call (st_cons (st_var rfl (st_cons (st_var rfl ?_)))))
    refine ⟨p, L4, xs8, rfl, d8.2, d7.2.ne hL4, L2.sq_of k8, by rw [n8]; decide, by rw [n8]; decide, fun y H9 hy d9 => ?_⟩
    obtain ⟨t, v, i, rfl, ht, hv, nv⟩ := g8 y hy
    have ntp : t ≠ p := fun e => by
      obtain ⟨x, y, z, _, e2⟩ := d8.2
      rw [e, e2] at ht
      cases ht
    exact q t v i H9 (d8.trans d9) ntp (d9.1 _ _ ntp ht) (keys_dn d8.2 d9 nv hv) nv
end

end K04

/-! things that can be shown, away from a source -/
namespace L2
open PySem PySem.Spec PyProof.Rows LamX
inductive Shn (p : Addr) (H : Hp) : V → PyData → Prop
  | non : Shn p H .non .none
  | bl (b : Bool) : Shn p H (.bl b) (.bool b)
  | int (i : Int) : Shn p H (.int i) (.int i)
  | str (x : Str) : Shn p H (.str x) (.str x)
  | lst {q : Addr} {xs : List V} {ds : List PyData} (h : H q = some (.lst xs)) (ne : q ≠ p) (hl : xs.length = ds.length) (hi : ∀ (i : Nat) (v : V) (d : PyData), xs[i]? = some v → ds[i]? = some d → Shn p H v d) : Shn p H (.ref q) (.list ds)
  | tup {q : Addr} {xs : List V} {ds : List PyData} (h : H q = some (.tup xs)) (ne : q ≠ p) (hl : xs.length = ds.length) (hi : ∀ (i : Nat) (v : V) (d : PyData), xs[i]? = some v → ds[i]? = some d → Shn p H v d) : Shn p H (.ref q) (.tuple ds)
  | dk {q : Addr} (h : H q = some (.dK [])) (ne : q ≠ p) : Shn p H (.ref q) (.dict [])
theorem Shn.mv {p : Addr} {H H' : Hp} (e : ∀ b o, b ≠ p → (∀ ps, o ≠ HO.tbl ps) → H b = some o → H' b = some o) {v : V} {d : PyData} (h : Shn p H v d) : Shn p H' v d := by
  induction h with
  | non => exact .non
  | bl b => exact .bl b
  | int i => exact .int i
  | str x => exact .str x
  | lst h ne hl _ ih => exact .lst (e _ _ ne (fun ps z => nomatch z) h) ne hl ih
  | tup h ne hl _ ih => exact .tup (e _ _ ne (fun ps z => nomatch z) h) ne hl ih
  | dk h ne => exact .dk (e _ _ ne (fun ps z => nomatch z) h) ne
theorem Shn.ext {p : Addr} {H H' : Hp} (e : ExtN H H') {v : V} {d : PyData} (h : Shn p H v d) : Shn p H' v d := h.mv fun b o _ n z => e _ _ z n
theorem Shn.same {p : Addr} {H H' : Hp} (e : Same H H') {v : V} {d : PyData} (h : Shn p H v d) : Shn p H' v d := h.mv fun b o _ _ z => e _ _ z
theorem Shn.dn {p : Addr} {H H' : Hp} (e : Dn p H H') {v : V} {d : PyData} (h : Shn p H v d) : Shn p H' v d := h.mv fun b o n _ z => e.1 _ _ n z
theorem Shn.shd {K : PySem.W.Frag} {p : Addr} {H : Hp} {v : V} {d : PyData} (h : Shn p H v d) : ShD K H v d := by
  induction h with
  | non => exact .flat .non rfl
  | bl b => exact .flat (.bl b) rfl
  | int i => exact .flat (.int i) rfl
  | str x => exact .flat (.str x) rfl
  | lst h ne hl _ ih => exact .lst (L2.sq_of h) hl ih
  | tup h ne hl _ ih => exact .tup (L2.st_of h) hl ih
  | dk h ne => exact .dict [] h
def ShnL (p : Addr) (H : Hp) (xs : List V) (ds : List PyData) : Prop := xs.length = ds.length ∧ ∀ (i : Nat) (v : V) (d : PyData), xs[i]? = some v → ds[i]? = some d → Shn p H v d
theorem ShnL.nil {p : Addr} {H : Hp} : ShnL p H [] [] := ⟨rfl, fun i v d h => by simp at h⟩
theorem ShnL.cons {p : Addr} {H : Hp} {v : V} {d : PyData} {xs : List V} {ds : List PyData} (h : Shn p H v d) (t : ShnL p H xs ds) : ShnL p H (v :: xs) (d :: ds) := by
  refine ⟨by rw [List.length_cons, List.length_cons, t.1], fun i u e h1 h2 => ?_⟩
  cases i with
  | zero =>
    cases h1
    cases h2
    exact h
  | succ i => exact t.2 i u e h1 h2
theorem ShnL.app {p : Addr} {H : Hp} : ∀ {xs ys : List V} {ds es : List PyData}, ShnL p H xs ds → ShnL p H ys es → ShnL p H (xs ++ ys) (ds ++ es)
  | [], ys, [], es, _, t => t
  | x :: xs, ys, d :: ds, es, h, t => by
    have hl := h.1
    refine ShnL.cons (h.2 0 x d rfl rfl) (ShnL.app ⟨by simpa using hl, fun i v e h1 h2 => h.2 (i + 1) v e h1 h2⟩ t)
  | [], _, _ :: _, _, h, _ => nomatch h.1
  | _ :: _, _, [], _, h, _ => nomatch h.1
theorem ShnL.nats {p : Addr} {H : Hp} : ∀ (bs : List Nat), ShnL p H (nV bs) (bs.map fun b : Nat => PyData.int (b : Int))
  | [] => .nil
  | b :: bs => .cons (.int _) (ShnL.nats bs)
theorem ShnL.ints {p : Addr} {H : Hp} : ∀ (bs : List Int), ShnL p H (bs.map V.int) (bs.map PyData.int)
  | [] => .nil
  | b :: bs => .cons (.int _) (ShnL.ints bs)
theorem Shn.row {p q : Addr} {H : Hp} {xs : List V} {ds : List PyData} (h : H q = some (.lst xs)) (ne : q ≠ p) (l : ShnL p H xs ds) : Shn p H (.ref q) (.list ds) := .lst h ne l.1 l.2
theorem Shn.rowt {p q : Addr} {H : Hp} {xs : List V} {ds : List PyData} (h : H q = some (.tup xs)) (ne : q ≠ p) (l : ShnL p H xs ds) : Shn p H (.ref q) (.tuple ds) := .tup h ne l.1 l.2
theorem ShnL.same {p : Addr} {H H' : Hp} (e : Same H H') {xs : List V} {ds : List PyData} (h : ShnL p H xs ds) : ShnL p H' xs ds := ⟨h.1, fun i v d a b => (h.2 i v d a b).same e⟩
/-- short texts -/
theorem Shw.str {x : Str} {n : Nat} (h : x.cps.all (· < 16 ^ 8) = true) (hn : x.cps.size ≤ n) : Shw n 0 (.str x) := by
  refine ⟨rfl, ?_, Nat.le_refl _, hn⟩
  simpa only [PyData.leavesShort, List.all_eq_true, decide_eq_true_eq, Array.all_eq_true_iff_forall_mem, ← Array.mem_toList_iff] using h
theorem Shw.nilL : Shw 0 1 (.list []) := Shws.lst Shws.nil
theorem Shw.dk0 : Shw 0 1 (.dict []) := ⟨rfl, rfl, Nat.le_refl _, Nat.le_refl _⟩
theorem Shws.nats {bs : List Nat} (h : ∀ z ∈ bs, z < 10 ^ 22) : Shws bs.length 0 (bs.map fun b : Nat => PyData.int (b : Int)) := by
  have r := Shws.ints (ns := bs.map fun b : Nat => (b : Int)) fun z hz => by
    obtain ⟨b, hb, rfl⟩ := List.mem_map.mp hz
    rw [Int.natAbs_natCast]
    exact Nat.lt_trans (h b hb) (by decide)
  rw [List.length_map, List.map_map] at r
  exact r
end L2

namespace K04
open PySem PySem.Spec PyProof.Rows L2 LamX
/-- an order that is none, and how it is shown -/
abbrev OrdR (p : Addr) (n : Nat) : V → Int → Hp → Prop := fun v i H => OrdQ H v n (some i) ∧ v ≠ .ref p ∧ ∃ pd, Shn p H v pd ∧ Shw 40 4 pd
theorem ord_stb {p : Addr} {n : Nat} : ∀ v i H H', Same H H' → OrdR p n v i H → OrdR p n v i H' := fun v i H H' s h => ⟨h.1.ext (.of s), h.2.1, h.2.2.imp fun pd h => ⟨h.1.same s, h.2⟩⟩
theorem ord_dn {H H' : Hp} {p : Addr} {v : V} {n : Nat} {r : Option Int} (hs : Src H p) (d : Dn p H H') (ne : v ≠ .ref p) (h : OrdQ H v n r) : OrdQ H' v n r := by
  cases h with
  | odd h n1 n2 => exact .odd (any_dn hs d h) n1 n2
  | len e1 h hl => exact .len e1 (row_dn d (fun z => ne (by rw [e1, z])) h) hl
  | fine e1 h hl nd lt => exact .fine e1 (row_dn d (fun z => ne (by rw [e1, z])) h) hl nd lt
  | item e1 h hl nd lt bad => exact .item e1 (row_dn d (fun z => ne (by rw [e1, z])) h) hl nd lt (bad.imp (fun ⟨T, a, b⟩ => ⟨T, any_dn hs d a, b⟩) id)
def OddO (p : Addr) (n : Nat) : V → Hp → Prop := fun v H => (∃ T, AnyV H v T ∧ inR 0 (some ((n : Int) - 1)) v = false) ∧ ∃ pd, Shn p H v pd ∧ Shw 9 1 pd
theorem oddo_stb {p : Addr} {n : Nat} : Stb (OddO p n) := fun v H H' s h => ⟨h.1.imp fun T h => ⟨h.1.ext (.of s), h.2⟩, h.2.imp fun pd h => ⟨h.1.same s, h.2⟩⟩
theorem oddo_mk {p : Addr} {n : Nat} {v : V} {H : Hp} {T : String} {pd : PyData} (h : AnyV H v T) (i : inR 0 (some ((n : Int) - 1)) v = false) (s : Shn p H v pd) (w : Shw 9 1 pd) : OddO p n v H := ⟨⟨T, h, i⟩, pd, s, w⟩
theorem cpow20 : CPowW 10 20 := ⟨by decide, by decide⟩
/-- what stands ahead of the place, or at the end -/
def prev (n k : Nat) : Nat := if k = 0 then n - 1 else k - 1
def spot (n k : Nat) : Nat := if k = 0 then n - 1 else k
theorem prev_at {n k : Nat} (h : k < n) : atI (nV (List.range n)) ((k : Int) - 1) = some (.int (prev n k : Nat)) := by
  rcases Nat.eq_zero_or_pos k with rfl | kp
  · obtain ⟨m, rfl⟩ : ∃ m, n = m + 1 := ⟨n - 1, by omega⟩
    rw [List.range_succ, nV, List.map_append]
    exact atI_last _ _
  · have e : (k : Int) - 1 = ((k - 1 : Nat) : Int) := by omega
    rw [e, prev, if_neg (by omega)]
    exact atI_nat (by rw [nV, List.getElem?_map, List.getElem?_range (by omega)]; rfl)
theorem again_ord {H : Hp} {q : Addr} {n k : Nat} (h2 : 2 ≤ n) (hk : k < n) (h : H q = some (.lst ((nV (List.range n)).take k ++ [.int (prev n k : Nat)] ++ (nV (List.range n)).drop (k + 1)))) : OrdQ H (.ref q) n (some (spot n k : Nat)) := by
  rcases Nat.eq_zero_or_pos k with rfl | kp
  · obtain ⟨m, rfl⟩ : ∃ m, n = m + 2 := ⟨n - 2, by omega⟩
    have e1 : (List.range (m + 2)).drop 1 = List.range' 1 m ++ [m + 1] := by
      rw [List.range_eq_range', List.drop_range']
      show List.range' (0 + 1) (m + 1) = _
      rw [Nat.zero_add, List.range'_concat]
      simp [Nat.add_comm]
    have e2 : (nV (List.range (m + 2))).take 0 ++ [V.int (prev (m + 2) 0 : Nat)] ++ (nV (List.range (m + 2))).drop (0 + 1) = nV ((m + 1) :: List.range' 1 m) ++ V.int ((m + 1 : Nat) : Int) :: [] := by
      have e3 : (nV (List.range (m + 2))).drop 1 = nV (List.range' 1 m ++ [m + 1]) := by rw [← e1, nV, nV, List.map_drop]
      rw [Nat.zero_add, e3, List.take_zero]
      show [V.int ((m + 1 : Nat) : Int)] ++ (List.range' 1 m ++ [m + 1]).map _ = _
      rw [List.map_append]
      rfl
    rw [e2] at h
    have r := OrdQ.item (n := m + 2) (bs := (m + 1) :: List.range' 1 m) (x := V.int ((m + 1 : Nat) : Int)) (rest := []) rfl (.inl h) (by simp) (by
      refine List.nodup_cons.mpr ⟨fun z => ?_, List.nodup_range'⟩
      have := List.mem_range'_1.mp z
      omega) (fun b hb => by
      rcases List.mem_cons.mp hb with rfl | hb
      · omega
      · have := List.mem_range'_1.mp hb
        omega) (.inr ⟨m + 1, List.mem_cons_self, rfl⟩)
    have e4 : ((m + 1) :: List.range' 1 m).length = spot (m + 2) 0 := by simp [spot]
    rw [e4] at r
    exact r
  · have e1 : (nV (List.range n)).take k = nV (List.range k) := by
      rw [nV, ← List.map_take, List.take_range, Nat.min_eq_left (by omega)]
    have e2 : prev n k = k - 1 := if_neg (by omega)
    rw [e1, e2, List.append_assoc] at h
    have r := OrdQ.item (n := n) (bs := List.range k) (x := V.int ((k - 1 : Nat) : Int)) (rest := (nV (List.range n)).drop (k + 1)) rfl (.inl h) (by
      rw [List.length_range, List.length_drop, nV, List.length_map, List.length_range]
      omega) List.nodup_range (fun b hb => by have := List.mem_range.mp hb; omega) (.inr ⟨k - 1, List.mem_range.mpr (by omega), rfl⟩)
    have e4 : (List.range k).length = spot n k := by rw [List.length_range, spot, if_neg (by omega)]
    rw [e4] at r
    exact r
theorem cut_ord {H : Hp} {q : Addr} {n k : Nat} {odd : V} {T : String} (hk : k < n) (h : H q = some (.lst ((nV (List.range n)).take k ++ [odd] ++ (nV (List.range n)).drop (k + 1)))) (ho : AnyV H odd T) (hi : inR 0 (some ((n : Int) - 1)) odd = false) : OrdQ H (.ref q) n (some (k : Nat)) := by
  have e1 : (nV (List.range n)).take k = nV (List.range k) := by
    rw [nV, ← List.map_take, List.take_range, Nat.min_eq_left (by omega)]
  rw [e1, List.append_assoc] at h
  have r := OrdQ.item (n := n) (bs := List.range k) (x := odd) (rest := (nV (List.range n)).drop (k + 1)) rfl (.inl h) (by
    rw [List.length_range, List.length_drop, nV, List.length_map, List.length_range]
    omega) List.nodup_range (fun b hb => by have := List.mem_range.mp hb; omega) (.inl ⟨T, ho, hi⟩)
  rw [List.length_range] at r
  exact r
/-- rows of a range are shown -/
theorem nV_take (n k : Nat) : (nV (List.range n)).take k = nV ((List.range n).take k) := by rw [nV, nV, List.map_take]
theorem nV_drop (n k : Nat) : (nV (List.range n)).drop k = nV ((List.range n).drop k) := by rw [nV, nV, List.map_drop]
theorem shn_row {p : Addr} {H : Hp} {n : Nat} {bs cs : List Nat} {odd : List V} {ds : List PyData} {m : Nat} (hn : n ≤ 10) (h1 : bs.length ≤ n) (h2 : cs.length ≤ n) (b1 : ∀ z ∈ bs, z < n) (b2 : ∀ z ∈ cs, z < n) (ho : ShnL p H odd ds) (hw : Shws m 3 ds) (hm : m ≤ 20) :
    ∃ es, ShnL p H (nV bs ++ odd ++ nV cs) es ∧ Shws 40 3 es := by
  have u : ∀ z, z < n → z < 10 ^ 22 := fun z h => Nat.lt_of_lt_of_le h (Nat.le_trans hn (by decide))
  refine ⟨_, ((ShnL.nats bs).app ho).app (ShnL.nats cs), ((Shws.app ((Shws.nats fun z hz => u z (b1 z hz)).mono (Nat.le_refl _) (Nat.zero_le 3)) hw).app ((Shws.nats fun z hz => u z (b2 z hz)).mono (Nat.le_refl _) (Nat.zero_le 3))).mono (by omega) (Nat.le_refl _)⟩
theorem rg_take {n k : Nat} : ((List.range n).take k).length ≤ n ∧ ∀ z ∈ (List.range n).take k, z < n := ⟨by rw [List.length_take, List.length_range]; exact Nat.min_le_right _ _, fun z hz => List.mem_range.mp (List.mem_of_mem_take hz)⟩
theorem rg_drop {n k : Nat} : ((List.range n).drop k).length ≤ n ∧ ∀ z ∈ (List.range n).drop k, z < n := ⟨by rw [List.length_drop, List.length_range]; omega, fun z hz => List.mem_range.mp (List.mem_of_mem_drop hz)⟩
def spBadOrd : Sp := fun vs H Q _ => ∃ (p o : Addr) (n : Nat), vs = [.ref p, .ref o] ∧ Src H p ∧ o ≠ p ∧ H o = some (.lst (nV (List.range n))) ∧ 2 ≤ n ∧ n ≤ 10 ∧
  ∀ (t : Addr) (v : V) (i : Int) (H' : Hp), Dn p H H' → t ≠ p → H' t = some (.tup [v, .int i]) → OrdR p n v i H' → Q (.ref t) H'
section
variable {P : Program} {w : World} {K : PySem.W.Frag} {mg : Str → Option Value} {base : Heap} {a : Ad} {d : Fd}
theorem ok_bad_order (T : Txt K mg a d) : FnOk P w K mg base CX0 4 a.bad_order d.bad_order P_bad_order spBadOrd := by
  have G_take : FnOk P w K mg base CX0 2 a.take d.take P_take spTake := ok_take T
  have G_pick : FnOk P w K mg base CX0 3 a.pick d.pick P_pick (spPick K) := ok_pick T
  refine T.f_bad_order.ok sc_bad_order (fun vs H Q E h => ?_) (fun cdv A outer s H vs Q E hr h => ?_)
  · obtain ⟨p, o, n, rfl, _⟩ := h
    rfl
  · obtain ⟨p, o, n, rfl, hs, nop, ho, n2, n10, q⟩ := h
    refine ⟨_, (pss_cons (ps_asg (pe_tup (pa_cons (pe_callB call_len_seq (by rfl) T.z_len PySem.boot_len (pa_cons (pv 1) pa_nil)) (pa_cons (pe_call G_take (hr.mono (by decide)) (by rfl) T.g_take T.k_take T.b_take .nil pass0 (pa_cons (pv 0) (pa_cons (pe_callB call_len_seq (by rfl) T.z_len PySem.boot_len (pa_cons (pv 1) pa_nil)) pa_nil))) pa_nil))) (pg_tup rfl (pgs_cons (pg_name (i := 2) sc_bad_order.nd rfl (Or.inr rfl)) (pgs_cons (pg_name (i := 3) sc_bad_order.nd rfl (Or.inl rfl)) pgs_nil))))
    (pss_cons (ps_set (i := 4) sc_bad_order.nd rfl (Or.inl rfl) (pe_call G_pick (hr.mono (by decide)) (by rfl) T.g_pick T.k_pick T.b_pick .nil pass0 (pa_cons (pv 0) (pa_cons (pe_lst (pa_cons pe_non (pa_cons pe_bl (pa_cons (pe_un un_neg pe_int) (pa_cons (pv 2) (pa_cons pe_str (pa_cons (pe_lst pa_nil) (pa_cons (pe_op op_powW pe_int pe_int) pa_nil)))))))) pa_nil))))
    (pss_cons (ps_set (i := 5) sc_bad_order.nd rfl (Or.inl rfl) (pe_lst (pa_cons (pe_tup (pa_cons (pe_op op_catS (pe_op op_catS (pe_slice sl_list (pv 1) po_none (po_some (pv 3))) (pe_lst (pa_cons (pv 4) pa_nil))) (pe_slice sl_list (pv 1) (po_some (pe_op op_add (pv 3) pe_int)) po_none)) (pa_cons (pv 3) pa_nil))) (pa_cons (pe_tup (pa_cons (pe_slice sl_list (pv 1) po_none (po_some (pv 3))) (pa_cons (pe_un un_neg pe_int) pa_nil))) (pa_cons (pe_tup (pa_cons (pe_op op_catS (pv 1) (pe_lst (pa_cons (pv 4) pa_nil))) (pa_cons (pe_un un_neg pe_int) pa_nil))) (pa_cons (pe_tup (pa_cons pe_non (pa_cons (pe_un un_neg pe_int) pa_nil))) pa_nil))))))
    (pss_cons (ps_set (i := 6) sc_bad_order.nd rfl (Or.inr rfl) (pe_op op_catS (pe_op op_catS (pe_slice sl_list (pv 1) po_none (po_some (pv 3))) (pe_lst (pa_cons (pe_ix ix_list (pv 1) (pe_op op_sub (pv 3) pe_int) (fun _ _ => rfl)) pa_nil))) (pe_slice sl_list (pv 1) (po_some (pe_op op_add (pv 3) pe_int)) po_none)))
    (pss_cons (ps_set (i := 5) sc_bad_order.nd rfl (Or.inl rfl) (pe_op op_catS (pv 5) (pe_lst (pa_cons (pe_tup (pa_cons (pv 6) (pa_cons (pe_ifExp (pt_cmpR op_gt (pv 3) pe_int (nomark _)) (pv 3) (pe_op op_sub (pv 2) pe_int)) pa_nil))) (pa_cons (pe_tup (pa_cons pe_dnewK (pa_cons (pe_un un_neg pe_int) pa_nil))) (pa_cons (pe_tup (pa_cons (pe_callTy call_tuple_of (by rfl) T.z_tuple (by decide +kernel) (pa_cons (pe_slice sl_list (pv 1) (po_some pe_int) po_none) pa_nil)) (pa_cons (pe_un un_neg pe_int) pa_nil))) (pa_cons (pe_tup (pa_cons pe_str (pa_cons (pe_un un_neg pe_int) pa_nil))) (pa_cons (pe_tup (pa_cons pe_int (pa_cons (pe_un un_neg pe_int) pa_nil))) pa_nil))))))))
    (pss_one (ps_ret (pe_call G_pick (hr.mono (by decide)) (by rfl) T.g_pick T.k_pick T.b_pick .nil pass0 (pa_cons (pv 0) (pa_cons (pe_lc (own := [("one", 7)]) (g := gName 7)  rfl sc_bad_order.nd (pi_list (pv 5)) (blkOk_by (N := N_bad_order) (sc := defScope s_bad_order) (by decide +kernel)) (fun _ _ _ _ _ => pg_name (i := 7) sc_bad_order.nd rfl (Or.inl rfl)) (fun _ _ _ _ _ => (pts_one (PW.pt (pw_or (pt_cmpR op_gt (pv 2) pe_int (nomark _)) (pw_or1 (pt_cmpR (show OpR _ _ (rNeD K) from op_neD hr.units) (pe_ix (show IxR _ (rIxL K) from ix_list) (pv 7) pe_int (fun _ _ => rfl)) (pv 6) (nomark _))))))) (fun _ _ _ _ _ => (pv 7))) pa_nil)))))))))), ?_⟩
    have lo : (nV (List.range n)).length = n := by rw [nV, List.length_map, List.length_range]
    refine ⟨_, rfl, o, _, rfl, .inl (L2.sq_of ho), _, rfl, _, rfl, o, _, rfl, .inl (L2.sq_of ho), p, _, rfl, hs, by rw [lo]; omega, by rw [lo]; omega, fun v x y z v0 v1 x0 => ⟨by show 2 ≤ sizeLine; decide, fun t ht => ⟨t, _, rfl, L2.st_of upd_same, rfl, _, _, rfl, _, _, rfl, rfl, ?_⟩⟩⟩
    obtain ⟨k, rfl⟩ : ∃ k : Nat, v = (k : Int) := ⟨v.toNat, (Int.toNat_of_nonneg v0).symm⟩
    rw [lo] at v1
    have hk : k < n := by omega
    have d1 : Dn p H (upd H p (.lst [.int x, .int y, .int z])) := .put x0
    have ho1 := d1.1 _ _ nop ho
    have d2 := d1.same (same_upd (o := .tup [.int ((nV (List.range n)).length : Int), .int (k : Int)]) ht)
    have ho2 := (same_upd (o := .tup [.int ((nV (List.range n)).length : Int), .int (k : Int)]) ht) _ _ ho1
    generalize upd (upd H p (.lst [.int x, .int y, .int z])) t (.tup [.int ((nV (List.range n)).length : Int), .int (k : Int)]) = H1 at d2 ho2 ⊢
    rw [lo]
    clear ht d1 ho1
    have fr : ∀ (b : Addr) (H' : Hp), Same H1 H' → H' b = none → b ≠ p := fun b H' s h => (d2.same s).2.ne h
    refine ⟨_, rfl, lst_all oddo_stb (all_cons (oddo_stb (p := p) (n := n)) (fun Q q => q _ _ (Same.refl _) (oddo_mk .non rfl .non (Shw.non.mono (Nat.zero_le _) (Nat.zero_le _)))) fun _ s0 => all_cons (oddo_stb (p := p) (n := n)) (fun Q q => q _ _ (Same.refl _) (oddo_mk (.bl _) rfl (.bl _) ((Shw.bl _).mono (Nat.zero_le _) (Nat.zero_le _)))) fun _ s1 => all_cons (oddo_stb (p := p) (n := n)) (fun Q q => ⟨_, rfl, q _ _ (Same.refl _) (oddo_mk (.int _) (inR_low (by decide)) (.int _) ((Shw.int (by decide)).mono (Nat.zero_le _) (Nat.zero_le _)))⟩) fun _ s2 => all_cons (oddo_stb (p := p) (n := n)) (fun Q q => ⟨_, rfl, q _ _ (Same.refl _) (oddo_mk (.int _) (inR_high (by omega)) (.int _) ((Shw.int (Nat.lt_of_le_of_lt (by omega : _ ≤ 10) (by decide))).mono (Nat.zero_le _) (Nat.zero_le _)))⟩) fun _ s3 => all_cons (oddo_stb (p := p) (n := n)) (fun Q q => q _ _ (Same.refl _) (oddo_mk (.str _) rfl (.str _) ((Shw.str (n := 9) (by decide +kernel) (by decide +kernel)).mono (Nat.le_refl _) (Nat.zero_le _)))) fun _ s4 => all_cons (oddo_stb (p := p) (n := n)) (fun Q q => ⟨by show 0 ≤ sizeLine; decide, fun _ ho => q _ _ (same_upd ho) (oddo_mk (.lst upd_same) rfl (.row upd_same (fr _ _ (((((s0.trans s1).trans s2).trans s3).trans s4)) ho) .nil) (Shw.nilL.mono (Nat.zero_le _) (Nat.le_refl _)))⟩) fun _ s5 => all_cons (oddo_stb (p := p) (n := n)) (fun Q q => ⟨_, _, rfl, rfl, cpow20, q _ _ (Same.refl _) (oddo_mk (.int _) (inR_high (Int.lt_of_le_of_lt (by omega : (n : Int) - 1 ≤ 10) (by decide))) (.int _) ((Shw.int (by decide)).mono (Nat.zero_le _) (Nat.zero_le _)))⟩) fun _ s6 => all_nil) (by decide) fun LL Ls HX fX sX hLX hlen itX => ?_⟩
    have d3 := d2.same sX
    refine ⟨p, LL, Ls, rfl, d3.2, d2.2.ne fX, L2.sq_of hLX, by rw [hlen]; decide, by rw [hlen]; decide, fun odd H2 hodd d4 => ?_⟩
    obtain ⟨⟨To, hko, hio⟩, pdo, shO, swO⟩ := itX odd hodd
    have hko2 : AnyV H2 odd To := any_dn d3.2 d4 hko
    have shO2 : Shn p H2 odd pdo := shO.dn d4
    have ho3 : H2 o = some (.lst (nV (List.range n))) := d4.1 _ _ nop (sX _ _ ho2)
    have d5 := d3.trans d4
    clear itX hLX hlen d3 d4 d2 ho2 sX hodd ho hko fX shO fr
    have fr : ∀ (b : Addr) (H' : Hp), Same H2 H' → H' b = none → b ≠ p := fun b H' s h => (d5.same s).2.ne h
    have swO3 : Shws 20 3 [pdo] := (Shws.cons (n := 9) (m := 0) (k := 3) (swO.mono (Nat.le_refl _) (by decide)) (Shws.nil.mono (Nat.le_refl _) (Nat.zero_le _))).mono (by decide) (Nat.le_refl _)
    have sz1 : ∀ ys : List V, ys.length ≤ 1 → (nV (List.range n)).length + ys.length + (nV (List.range n)).length ≤ sizeLine := fun ys h => by
      rw [lo]
      exact Nat.le_trans (by omega : n + ys.length + n ≤ 22) (by decide)
    -- what a row with one thing put in shows
    have sh1 : ∀ {q2 : Addr} {H' : Hp} {xs : List V} {ds : List PyData} (a b : Nat), H' q2 = some (.lst ((nV (List.range n)).take a ++ xs ++ (nV (List.range n)).drop b)) → q2 ≠ p → ShnL p H' xs ds → Shws 20 3 ds → ∃ pd, Shn p H' (.ref q2) pd ∧ Shw 40 4 pd := fun {q2 H' xs ds} a b h ne l w => by
      obtain ⟨es, e1, e2⟩ := shn_row n10 (rg_take (n := n) (k := a)).1 (rg_drop (n := n) (k := b)).1 (rg_take (n := n) (k := a)).2 (rg_drop (n := n) (k := b)).2 l w (Nat.le_refl _)
      exact ⟨_, .row h ne (by rw [nV_take, nV_drop]; exact e1), e2.lst⟩
    refine st_name ?_
    dsimp only
    refine st_seq (st_asg (lst_all (pair_stb (ord_stb (p := p) (n := n))) (all_cons (pair_stb ord_stb) (pair_one ord_stb (fun Q q => ?i1) (fun _ _ q => ⟨_, rfl, q⟩)) fun _ s0 => all_cons (pair_stb ord_stb) (pair_one ord_stb (fun Q q => ?i2) (fun _ _ q => ⟨_, rfl, q⟩)) fun _ s1 => all_cons (pair_stb ord_stb) (pair_one ord_stb (fun Q q => ?i3) (fun _ _ q => ⟨_, rfl, q⟩)) fun _ s2 => all_cons (pair_stb ord_stb) (pair_one ord_stb (fun Q q => q _ _ (Same.refl _) ⟨.odd .non (by decide) (by decide), (fun e => by cases e), _, .non, Shw.non.mono (Nat.zero_le _) (Nat.zero_le _)⟩) (fun _ _ q => ⟨_, rfl, q⟩)) fun _ s3 => all_nil) (by decide) fun L1 xs1 H5 f5 s5 k5 n5 g5 => ?_))
    case i1 =>
      refine cat3 (K := K) (i := 1) (m := o) (xs := nV (List.range n)) (ys := [odd]) (k := k) (j := k + 1) rfl ho3 (partVar rfl) (fun _ _ q => ⟨_, rfl, _, _, rfl, rfl, _, rfl, q⟩) (lst1 rfl) (sz1 _ (by show 1 ≤ 1; decide)) fun p1 H4 f4 s4 k4 => q _ _ s4 ⟨cut_ord hk k4 (hko2.ext (.of s4)) hio, ref_ne (d5.2.ne f4), ?_⟩
      exact sh1 _ _ k4 (d5.2.ne f4) (.cons (shO2.same s4) .nil) swO3
    case i2 =>
      refine sl_go (K := K) (i := 1) (m := o) rfl (s0 _ _ ho3) partNone (partVar rfl) fun p1 H4 f4 s4 k4 => q _ _ s4 ?_
      rw [cut_take] at k4
      have np := fr _ _ s0 f4
      have k4' : H4 p1 = some (.lst ((nV (List.range n)).take k ++ [] ++ (nV (List.range n)).drop n)) := by
        rw [List.append_nil, List.drop_eq_nil_of_le (by rw [lo]; exact Nat.le_refl _), List.append_nil]
        exact k4
      exact ⟨.len rfl (.inl k4) (by rw [List.length_take, lo]; omega), ref_ne np, sh1 _ _ k4' np .nil (Shws.nil.mono (Nat.zero_le _) (Nat.zero_le _))⟩
    case i3 =>
      have s01 := s0.trans s1
      refine cat2 (K := K) (i := 1) (m := o) (xs := nV (List.range n)) (ys := [odd]) rfl (s01 _ _ ho3) (lst1 rfl) (Nat.le_trans (by rw [lo]; exact Nat.le_trans (Nat.add_le_add n10 (by show 1 ≤ 1; decide)) (by decide : 10 + 1 ≤ 11)) (by decide : 11 ≤ sizeLine)) fun p1 H4 f4 s4 k4 => q _ _ s4 ?_
      have np := fr _ _ s01 f4
      have k4' : H4 p1 = some (.lst ((nV (List.range n)).take n ++ [odd] ++ (nV (List.range n)).drop n)) := by
        rw [List.drop_eq_nil_of_le (by rw [lo]; exact Nat.le_refl _), List.append_nil, List.take_of_length_le (by rw [lo]; exact Nat.le_refl _)]
        exact k4
      exact ⟨.len rfl (.inl k4) (by rw [List.length_append, lo]; show n + 1 ≠ n; omega), ref_ne np, sh1 _ _ k4' np (.cons (shO2.same (s01.trans s4)) .nil) swO3⟩
    have d6 := d5.same s5
    have ho5 := s5 _ _ ho3
    clear shO2 hko2 ho3
    refine st_name ?_
    dsimp only
    refine st_seq (st_asg (cat3r (K := K) (i := 1) (m := o) (xs := nV (List.range n)) (ys := [.int (prev n k : Nat)]) (k := k) (j := k + 1) rfl ho5 (partVar rfl) (fun _ _ q => ⟨_, rfl, _, _, rfl, rfl, _, rfl, q⟩) (fun H1 Q1 s1 q1 => ⟨_, rfl, _, rfl, _, _, rfl, rfl, o, _, _, _, rfl, rfl, L2.sq_of (s1 _ _ ho5), prev_at hk, by show 1 ≤ sizeLine; decide, fun p hp => q1 p _ (same_upd hp) upd_same⟩) (sz1 _ (by show 1 ≤ 1; decide)) fun LA H6 f6 s6 k6 => ?_))
    have nA : LA ≠ p := d6.2.ne f6
    have d7 := d6.same s6
    have ho6 := s6 _ _ ho5
    have g6 : ∀ y ∈ xs1, PairG (OrdR p n) y H6 := fun y hy => pair_stb ord_stb _ _ _ s6 (g5 y hy)
    have k56 := s6 _ _ k5
    have fr6 : ∀ (b : Addr) (H' : Hp), Same H6 H' → H' b = none → b ≠ p := fun b H' s h => (d7.same s).2.ne h
    clear g5 k5 ho5 d6 s5 s6 f6 fr
    refine st_name ?_
    dsimp only
    refine st_seq (st_asg (st_op (st_var rfl (lst_all (pair_stb (ord_stb (p := p) (n := n))) (all_cons (pair_stb ord_stb) (pair_one (i := (spot n k : Nat)) ord_stb (fun Q q => ?j1) ?jh) fun _ s0 => all_cons (pair_stb ord_stb) (pair_one ord_stb (fun Q q => ?j2) (fun _ _ q => ⟨_, rfl, q⟩)) fun _ s1 => all_cons (pair_stb ord_stb) (pair_one ord_stb (fun Q q => ?j3) (fun _ _ q => ⟨_, rfl, q⟩)) fun _ s2 => all_cons (pair_stb ord_stb) (pair_one ord_stb (fun Q q => q _ _ (Same.refl _) ⟨.odd (.str _) (by decide) (by decide), (fun e => by cases e), _, .str _, (Shw.str (n := 9) (by decide +kernel) (by decide +kernel)).mono (by decide) (Nat.zero_le _)⟩) (fun _ _ q => ⟨_, rfl, q⟩)) fun _ s3 => all_cons (pair_stb ord_stb) (pair_one ord_stb (fun Q q => q _ _ (Same.refl _) ⟨.odd (.int _) (by decide) (by decide), (fun e => by cases e), _, .int _, (Shw.int (by decide)).mono (Nat.zero_le _) (Nat.zero_le _)⟩) (fun _ _ q => ⟨_, rfl, q⟩)) fun _ s4 => all_nil) (by decide) fun L3 xs3 H7 f7 s7 k7 n7 g7 => ?_))))
    case jh =>
      refine fun H1 Q1 q1 => ⟨_, rfl, _, _, rfl, rfl, _, rfl, ite2 (fun c => ⟨_, rfl, ?_⟩) (fun c => ⟨_, rfl, _, _, rfl, rfl, ?_⟩)⟩
      · have e : spot n k = k := if_neg (by have := of_decide_eq_true c; omega)
        rw [e] at q1
        exact q1
      · have e : ((spot n k : Nat) : Int) = (n : Int) - 1 := by
          have c0 : k = 0 := by
            rcases Nat.eq_zero_or_pos k with z | z
            · exact z
            · exact absurd (decide_eq_true (by omega : (0 : Int) < (k : Int))) c
          rw [spot, if_pos c0]
          omega
        rw [e] at q1
        exact q1
    case j1 =>
      exact st_var rfl (q _ _ (Same.refl _) ⟨again_ord n2 hk k6, ref_ne nA, sh1 _ _ k6 nA (.cons (.int _) .nil) ((Shws.cons (n := 0) (m := 0) (k := 3) ((Shw.int (by rw [Int.natAbs_natCast]; exact Nat.lt_of_le_of_lt (by rw [prev]; split <;> omega : prev n k ≤ 10) (by decide))).mono (Nat.le_refl _) (Nat.zero_le _)) (Shws.nil.mono (Nat.le_refl _) (Nat.zero_le _))).mono (by decide) (Nat.le_refl _))⟩)
    case j2 =>
      exact fun b hb => q _ _ (same_upd hb) ⟨.odd (.dK upd_same) (by decide) (by decide), ref_ne (fr6 _ _ s0 hb), _, .dk upd_same (fr6 _ _ s0 hb), Shw.dk0.mono (Nat.zero_le _) (by decide)⟩
    case j3 =>
      have s01 := s0.trans s1
      refine st_cb (st_cons (sl_go (K := K) (i := 1) (m := o) (l := some ((1 : Nat) : Int)) rfl (s01 _ _ ho6) (fun _ _ q => ⟨_, rfl, q⟩) partNone fun p1 H4 f4 s4 k4 => ⟨p1, _, rfl, .inl ⟨L2.sq_of k4, fun l hl => q _ _ (s4.trans (same_upd hl)) ?_⟩⟩))
      have np := fr6 _ _ (s01.trans s4) hl
      have kl : upd H4 l (.tup (cutV (nV (List.range n)) (some ((1 : Nat) : Int)) none)) l = some (.tup (nV ((List.range n).drop 1))) := by
        rw [upd_same, cut_drop, nV_drop]
      refine ⟨.len rfl (.inr kl) ?_, ref_ne np, _, .rowt kl np (ShnL.nats _), ?_⟩
      · rw [nV, List.length_map, List.length_drop, List.length_range]
        omega
      · exact ((Shws.nats fun z hz => Nat.lt_of_lt_of_le (rg_drop.2 z hz) (Nat.le_trans n10 (by decide))).tup).mono (Nat.le_trans rg_drop.1 (by omega)) (by decide)
    have d8 := d7.same s7
    refine ⟨L1, L3, _, _, rfl, rfl, L2.sq_of (s7 _ _ k56), L2.sq_of k7, ?_, fun L4 hL4 => ?_⟩
    · rw [n5, n7]
      decide
    have nD : ∀ D, H7 D = none → D ≠ p := fun D h => d8.2.ne h
    have s8 := same_upd (o := .lst (xs1 ++ xs3)) hL4
    have k8 : upd H7 L4 (.lst (xs1 ++ xs3)) L4 = some (.lst (xs1 ++ xs3)) := upd_same
    have g8 : ∀ y ∈ xs1 ++ xs3, PairG (OrdR p n) y (upd H7 L4 (.lst (xs1 ++ xs3))) := fun y hy => by
      rcases List.mem_append.mp hy with h | h
      · exact pair_stb ord_stb _ _ _ s8 (pair_stb ord_stb _ _ _ s7 (g6 y h))
      · exact pair_stb ord_stb _ _ _ s8 (g7 y h)
    have n8 : (xs1 ++ xs3).length = 9 := by rw [List.length_append, n5, n7]
    have d9 := d8.same s8
    generalize upd H7 L4 (.lst (xs1 ++ xs3)) = H8 at s8 k8 g8 d9 ⊢
    generalize xs1 ++ xs3 = xs8 at k8 g8 n8 ⊢
    refine st_name ?_
    dsimp only
    refine st_ret (st_call (st_cons (st_var rfl (st_cons ?_))))
    refine ⟨_, rfl, L4, rfl, ⟨_, L2.sq_of k8⟩, fun D hD => ?_⟩
    refine lc_list (K := K) (a := L4) (xs := xs8) (fun i H' => Same H8 H' ∧ H' D = some (.lst (xs8.take i))) ⟨same_upd hD, upd_same⟩ (fun i H' _ h => L2.sq_of (h.1 _ _ k8)) ?_ ?_
    · rintro i y H9 hy ⟨sm, h9⟩
      refine ⟨rfl, _, rfl, _, _, rfl, rfl, true, congrArg V.bl (decide_eq_true (by omega : (1 : Int) < (n : Int))), iteT (iteT ⟨_, rfl, _, h9, ?_, ?_, ?_⟩)⟩
      · rw [List.length_take, n8]
        exact Nat.lt_of_le_of_lt (Nat.min_le_right _ _) (by decide)
      · intro b u e
        rw [upd_ne (ne_of_none e hD)]
        exact sm _ _ e
      · rw [upd_same, take_more hy]
    · rintro H9 ⟨sm, h9⟩
      rw [List.take_length] at h9
      have d10 := d9.same sm
      refine ⟨p, D, xs8, rfl, d10.2, d9.2.ne hD, L2.sq_of h9, by rw [n8]; decide, by rw [n8]; decide, fun y H10 hy d11 => ?_⟩
      obtain ⟨t, v, i, rfl, ht, hv, nv, pd, hp1, hp2⟩ := pair_stb ord_stb _ _ _ sm (g8 y hy)
      have ntp : t ≠ p := fun e => by
        obtain ⟨x, y, z, _, e2⟩ := d10.2
        rw [e, e2] at ht
        cases ht
      exact q t v i H10 (d10.trans d11) ntp (d11.1 _ _ ntp ht) ⟨ord_dn d10.2 d11 nv hv, nv, pd, hp1.dn d11, hp2⟩
end

end K04

namespace K04
open PySem PySem.Spec PyProof.Rows L2 LamX
theorem hm_law (a : Ad) : (a.lp_law, (envOfC "law" (defScope s_law) 0 0 .none).qual ++ ("<lambda>" : Str)) ∈ LT a := by
  rw [show (envOfC "law" (defScope s_law) 0 0 .none).qual ++ ("<lambda>" : Str) = lq_law from by decide +kernel]
  exact List.Mem.head _
theorem lt_cases {a : Ad} {p : Addr × Str} (hp : p ∈ LT a) : p = (a.lp_law, lq_law) := by
  exact List.mem_singleton.mp hp
section
variable {K : PySem.W.Frag} {mg : Str → Option Value} {a : Ad} {d : Fd}
theorem hu_law (T : Txt K mg a d) : ∀ p ∈ LT a, p.1 = a.lp_law → p.2 = (envOfC "law" (defScope s_law) 0 0 .none).qual ++ ("<lambda>" : Str) := fun p hp e => by
  rw [show (envOfC "law" (defScope s_law) 0 0 .none).qual ++ ("<lambda>" : Str) = lq_law from by decide +kernel]
  rw [lt_cases hp]
end
theorem tabs_put {TT : List (Addr × Str)} {H : Hp} {D : Addr} {xs : List V} {o : HO} (t : LamX.Tabs TT H) (hs : H D = some (.lst xs)) : LamX.Tabs TT (upd H D o) := fun p hp => by
  obtain ⟨ps, h1, h2, h3⟩ := t p hp
  refine ⟨ps, ?_, h2, fun pos cv hc => ?_⟩
  · rw [upd_ne (fun e => by rw [e, hs] at h1; cases h1)]
    exact h1
  · obtain ⟨c, e1, e2⟩ := h3 pos cv hc
    refine ⟨c, e1, ?_⟩
    rw [upd_ne (fun e => ?_)]
    · exact e2
    · rw [e, hs] at e2
      have e3 := Option.some.inj e2
      unfold LamX.CodeO at e3
      cases e3
theorem tabs_dn {TT : List (Addr × Str)} {H H' : Hp} {sp : Addr} (t : LamX.Tabs TT H) (hs : Src H sp) (d : Dn sp H H') : LamX.Tabs TT H' := fun p hp => by
  obtain ⟨x, y, z, _, hs⟩ := hs
  obtain ⟨ps, h1, h2, h3⟩ := t p hp
  refine ⟨ps, d.1 _ _ (fun e => by rw [e, hs] at h1; cases h1) h1, h2, fun pos cv hc => ?_⟩
  obtain ⟨c, e1, e2⟩ := h3 pos cv hc
  refine ⟨c, e1, d.1 _ _ (fun e => ?_) e2⟩
  rw [e, hs] at e2
  have e3 := Option.some.inj e2
  unfold LamX.CodeO at e3
  cases e3
/-- all but the source and the tables stays -/
def DnT (sp : Addr) (H H' : Hp) : Prop := (∀ b o, b ≠ sp → (∀ ps, o ≠ HO.tbl ps) → H b = some o → H' b = some o) ∧ Src H' sp
theorem DnT.refl {sp : Addr} {H : Hp} (h : Src H sp) : DnT sp H H := ⟨fun _ _ _ _ h => h, h⟩
theorem DnT.trans {sp : Addr} {H H1 H2 : Hp} (a : DnT sp H H1) (b : DnT sp H1 H2) : DnT sp H H2 := ⟨fun x o n t h => b.1 x o n t (a.1 x o n t h), b.2⟩
theorem DnT.of {sp : Addr} {H H1 : Hp} (a : Dn sp H H1) : DnT sp H H1 := ⟨fun b o n _ h => a.1 b o n h, a.2⟩
theorem DnT.ext {sp : Addr} {H H1 H2 : Hp} (a : DnT sp H H1) (e : LamX.ExtN H1 H2) : DnT sp H H2 := ⟨fun b o n t h => e _ _ (a.1 b o n t h) t, by
  obtain ⟨x, y, z, h0, h⟩ := a.2
  exact ⟨x, y, z, h0, e _ _ h fun ps z => by cases z⟩⟩

def upI (n : Nat) : List Int := (List.range n).map fun k : Nat => (k : Int)
theorem upI_len (n : Nat) : (upI n).length = n := by rw [upI, List.length_map, List.length_range]
theorem upI_nV (n : Nat) : nV (List.range n) = (upI n).map V.int := by rw [upI, List.map_map]; rfl
theorem upI_get {n i : Nat} (h : i < n) : (upI n).getD i 0 = (i : Int) := by
  rw [upI, List.getD_eq_getElem?_getD, List.getElem?_map, List.getElem?_range h]
  rfl
theorem downI_get {n i : Nat} (h : i < n) : (upI n).reverse.getD i 0 = ((n - 1 - i : Nat) : Int) := by
  rw [List.getD_eq_getElem?_getD, List.getElem?_reverse (by rw [upI_len]; exact h), upI_len, upI, List.getElem?_map, List.getElem?_range (by omega)]
  rfl
theorem stab_up (n : Nat) : Stab (keyf (upI n) false) (upI n).length (List.range n) := by
  rw [upI_len]
  refine ⟨List.Perm.refl _, List.Pairwise.imp_of_mem (fun {i j} hi hj h => ?_) List.pairwise_lt_range⟩
  refine .inl ?_
  show (upI n).getD i 0 < (upI n).getD j 0
  rw [upI_get (List.mem_range.mp hi), upI_get (List.mem_range.mp hj)]
  omega
theorem stab_down (n : Nat) : Stab (keyf (upI n).reverse false) (upI n).reverse.length (List.range n).reverse := by
  rw [List.length_reverse, upI_len]
  refine ⟨List.reverse_perm _, List.pairwise_reverse.mpr (List.Pairwise.imp_of_mem (fun {i j} hi hj h => ?_) List.pairwise_lt_range)⟩
  have h1 := List.mem_range.mp hi
  have h2 := List.mem_range.mp hj
  refine .inl ?_
  show (upI n).reverse.getD j 0 < (upI n).reverse.getD i 0
  rw [downI_get h1, downI_get h2]
  omega
theorem down_nV (n : Nat) : (nV (List.range n)).reverse = (upI n).reverse.map V.int := by rw [upI_nV, List.map_reverse]
theorem down_os (n : Nat) : nV (List.range n).reverse = (upI n).reverse.map V.int := by
  rw [← down_nV, nV, nV, List.map_reverse]
/-! ### questions that are none, and how they are shown -/
theorem badq_dn {H H' : Hp} {p : Addr} {v : V} {n : Int} (hs : Src H p) (d : Dn p H H') (h : BadQ H v n) : BadQ H' v n := by
  have tp : ∀ {t : Addr} {xs : List V}, H t = some (.tup xs) → H' t = some (.tup xs) := fun {t xs} e => d.1 _ _ (fun z => by
    obtain ⟨x, y, z0, _, e2⟩ := hs
    rw [z, e2] at e
    cases e) e
  rcases h with ⟨T, h, n1⟩ | ⟨t, xs, rfl, h, hl⟩ | ⟨t, x, y, rfl, h, hb⟩
  · exact .inl ⟨T, any_dn hs d h, n1⟩
  · exact .inr (.inl ⟨t, xs, rfl, tp h, hl⟩)
  · refine .inr (.inr ⟨t, x, y, rfl, tp h, ?_⟩)
    rcases hb with ⟨T, a, b⟩ | ⟨i, T, a, b, c, d2⟩ | h
    · exact .inl ⟨T, any_dn hs d a, b⟩
    · exact .inr (.inl ⟨i, T, a, b, any_dn hs d c, d2⟩)
    · exact .inr (.inr h)
abbrev AskD (p : Addr) (v : V) (H : Hp) : Prop := ∃ pd, Shn p H v pd ∧ Shw 20 2 pd ∧ PyData.canLay0 (.str pd.shown) = true
def AskO (p : Addr) (n : Nat) : V → Hp → Prop := fun v H => BadQ H v (n : Int) ∧ AskD p v H
theorem asko_stb {p : Addr} {n : Nat} : Stb (AskO p n) := fun v H H' s h => ⟨h.1.ext (.of s), h.2.imp fun pd h => ⟨h.1.same s, h.2⟩⟩
theorem asko_dn {H H' : Hp} {p : Addr} {v : V} {n : Nat} (hs : Src H p) (d : Dn p H H') (h : AskO p n v H) : AskO p n v H' := ⟨badq_dn hs d h.1, h.2.imp fun pd h => ⟨h.1.dn d, h.2⟩⟩
theorem asko_mk {p : Addr} {n : Nat} {v : V} {H : Hp} {pd : PyData} (h : BadQ H v (n : Int)) (s : Shn p H v pd) (w : Shw 20 2 pd) (c : PyData.canLay0 (.str pd.shown) = true) : AskO p n v H := ⟨h, pd, s, w, c⟩
theorem shw_pair {x y : PyData} (h1 : Shw 9 0 x) (h2 : Shw 9 0 y) : Shw 20 2 (.tuple [x, y]) := ((Shws.cons h1 (Shws.cons h2 (Shws.nil.mono (Nat.le_refl _) (Nat.le_refl _)))).tup).mono (by decide) (by decide)
theorem shn_pair {p t : Addr} {H : Hp} {x y : V} {d e : PyData} (h : H t = some (.tup [x, y])) (ne : t ≠ p) (a : Shn p H x d) (b : Shn p H y e) : Shn p H (.ref t) (.tuple [d, e]) := .rowt h ne (.cons a (.cons b .nil))
theorem lay_many {n : Nat} (h2 : 2 ≤ n) (h10 : n ≤ 10) : PyData.canLay0 (.str (PyData.shown (.tuple [.int 0, .int (n : Int)]))) = true := by
  rcases (by omega : n = 2 ∨ n = 3 ∨ n = 4 ∨ n = 5 ∨ n = 6 ∨ n = 7 ∨ n = 8 ∨ n = 9 ∨ n = 10) with rfl | rfl | rfl | rfl | rfl | rfl | rfl | rfl | rfl <;> decide +kernel
/-- no bool -/
def OddB : V → Hp → Prop := fun v H => ∃ T, AnyV H v T ∧ T ≠ "bool"
theorem oddb_stb : Stb OddB := fun v H H' s h => h.imp fun T h => ⟨h.1.ext (.of s), h.2⟩
/-! ### what is told -/
theorem told04 {T : List (Addr × Str)} {K : PySem.W.Frag} {a : Ad} {t : XK → TE} {σ : L2.St} {H : Hp} {Q : VK} {C : Addr} {f w : Str} {v : V} (hT : Tabs T H) (hm : (C, f, w) ∈ EL a) (h : ∀ (E : XK) (H1 : Hp) (Q1 : VK), ExtN H H1 → Tabs T H1 → Rz E H1 C f v → t E σ H1 Q1)
    (q : ∀ u H', ExtN H H' → Tabs T H' → H' u = some (.tup [.str w, v]) → Q (.ref u) H') : tLamG T (TT04 K a) t σ H Q :=
  ⟨hT, fun H1 e1 T1 => h (E04 K a Q) H1 _ e1 T1 (e04 hm fun u H2 s2 hu => q u H2 (e1.trans (.of s2)) (T1.ext s2) hu)⟩
theorem told04q {T : List (Addr × Str)} {K : PySem.W.Frag} {a : Ad} {t : XK → TE} {σ : L2.St} {H : Hp} {Q : VK} {p : Addr} {v : V} {pd : PyData} (hT : Tabs T H) (sh : Shn p H v pd) (sw : Shw (2 ^ 19) 64 pd) (h : ∀ (E : XK) (H1 : Hp) (Q1 : VK), ExtN H H1 → Tabs T H1 → Rz E H1 a.c_InvalidQuestion "question" v → t E σ H1 Q1)
    (q : ∀ u H', ExtN H H' → Tabs T H' → H' u = some (.tup [.str "question", .str pd.shown]) → Q (.ref u) H') : tLamG T (TT04 K a) t σ H Q :=
  ⟨hT, fun H1 e1 T1 => h (E04 K a Q) H1 _ e1 T1 (e04q (fun H' s => ((sh.ext e1).same s).shd) sw fun u H2 s2 hu => q u H2 (e1.trans (.of s2)) (T1.ext s2) hu)⟩
theorem heard04 {T : List (Addr × Str)} {K : PySem.W.Frag} {a : Ad} {t : XK → TE} {σ : L2.St} {H : Hp} {Q : VK} (hT : Tabs T H) (h : ∀ (E : XK) (H1 : Hp), ExtN H H1 → Tabs T H1 → ∀ Q1 : VK, (∀ (v : V) (H' : Hp), Same H1 H' → Q1 v H') → t E σ H1 Q1)
    (q : ∀ H', ExtN H H' → Tabs T H' → Q (.str "heard") H') : tLamG T (TT04 K a) t σ H Q :=
  ⟨hT, fun H1 e1 T1 => h (E04 K a Q) H1 e1 T1 _ fun _ H2 s2 => q H2 (e1.trans (.of s2)) (T1.ext s2)⟩
theorem ext_put {H1 H3 : Hp} {l : Addr} {x y : HO} (hl : H1 l = none) (e : ExtN (upd H1 l x) H3) : ExtN H1 (upd H3 l y) := fun b o h n => by
  rw [upd_ne (ne_of_none h hl)]
  exact e _ _ (same_upd hl _ _ h) n
theorem rep_row {p : Addr} {H : Hp} {m t : Addr} {ns : List Int} {v : V} {pd : PyData} (K : PySem.W.Frag) (hm : H m = some (.lst (ns.map V.int))) (ne : m ≠ p) (hn : ∀ z ∈ ns, z.natAbs < 10 ^ 23) (hl : ns.length ≤ 10) (s : Shn p H v pd) (w : Shw 40 4 pd) (ht : H t = some (.tup [.ref m, v])) (nt : t ≠ p) :
    ShD K H (.ref t) (.tuple [.list (ns.map PyData.int), pd]) ∧ Shw (2 ^ 19) 64 (.tuple [.list (ns.map PyData.int), pd]) := by
  refine ⟨(Shn.rowt ht nt (.cons (.row hm ne (ShnL.ints ns)) (.cons s .nil))).shd, ?_⟩
  refine ((Shws.cons (n := 10) (k := 5) ((Shws.ints hn).lst.mono hl (by decide)) (Shws.cons (w.mono (Nat.le_refl _) (by decide)) (Shws.nil.mono (Nat.le_refl _) (Nat.zero_le _)))).tup).mono (by decide) (by decide)
theorem eq_ints {xs ys : List Int} (h : xs = ys) : PyData.eqv (.list (xs.map PyData.int)) (.list (ys.map PyData.int)) = true := by
  rw [eqv_lists, h]
  exact decide_eq_true rfl

end K04

namespace K04
open PySem PySem.Spec PyProof.Rows L2 LamX
def spLaw (K : PySem.W.Frag) (TT : List (Addr × Str)) : Sp := fun vs H Q _ => ∃ (p : Addr) (ns : List Int), vs = [.ref p] ∧ SqL K H p (ns.map V.int) ∧ ns.length ≤ 63 ∧ LamX.Tabs TT H ∧ ∀ H', Q (.bl true) H'
theorem cells_int17 {ns : List Int} {lo hi : Option Int} {x : V} (h : x ∈ cutV (ns.map V.int ++ [V.int 0]) lo hi) : ∃ c, x = .int c := by
  rcases List.mem_append.mp (cut_mem h) with h | h
  · obtain ⟨c, _, e⟩ := List.mem_map.mp h
    exact ⟨c, e.symm⟩
  · exact ⟨0, List.mem_singleton.mp h⟩
theorem srcN {H H' : Hp} {p : Addr} (e : ExtN H H') (h : Src H p) : Src H' p := by
  obtain ⟨x, y, z, h0, h⟩ := h
  exact ⟨x, y, z, h0, e _ _ h fun ps z => by cases z⟩
section
variable {P : Program} {w : World} {K : PySem.W.Frag} {mg : Str → Option Value} {base : Heap} {a : Ad} {d : Fd}
theorem ok_law (T : Txt K mg a d) (TB_law : TabB base mg a.lc_law a.lp_law) : FnG P w K mg base CX0 13 a.law d.law P_law (spLaw K (LT a)) := by
  have G_source : FnOk P w K mg base CX0 1 a.source d.source P_source spSource := ok_source T
  have G_take : FnOk P w K mg base CX0 2 a.take d.take P_take spTake := ok_take T
  have G_pick : FnOk P w K mg base CX0 3 a.pick d.pick P_pick (spPick K) := ok_pick T
  have G_bad_keys : FnOk P w K mg base CX0 4 a.bad_keys d.bad_keys P_bad_keys spBadKeys := ok_bad_keys T
  have G_bad_order : FnOk P w K mg base CX0 4 a.bad_order d.bad_order P_bad_order spBadOrd := ok_bad_order T
  have G_honest : FnOk P w K mg base (L2.CX P w) 6 a.honest d.honest P_honest (spHonestX a.c_InvalidKeys a.c_InvalidQuestion) := ok_honest T
  have G_stable_order : FnOk P w K mg base (L2.CX P w) 4 a.stable_order d.stable_order P_stable_order (spStabX a.c_InvalidKeys a.c_InvalidNumber) := ok_stable_order T
  have G_is_order : FnOk P w K mg base (L2.CX P w) 5 a.is_order d.is_order P_is_order (spIsOrdX a.c_InvalidKeys a.c_InvalidOrder a.c_InvalidNumber) := ok_is_order T
  refine T.f_law.okGC T.lc_law sc_law (fun vs H Q E h => ?_) (fun A outer s0 H vs Q E gd hr h => ?_)
  · obtain ⟨p, n, rfl, _⟩ := h
    rfl
  · obtain ⟨sc, ns, rfl, hS, hlen, hT, q⟩ := h
    refine ⟨_, (pss_cons (ps_for PassesOwn.never rfl (pi_list (pe_slice sl_list (pe_op op_catS (pv 0) (pe_lst (pa_cons pe_int pa_nil))) po_none (po_some pe_int))) (pg_name (i := 1) sc_law.nd rfl (Or.inl rfl))
      (pss_cons (ps_set (i := 2) sc_law.nd rfl (Or.inr rfl) (pe_call G_source (hr.mono (by decide)) (by rfl) T.g_source T.k_source T.b_source .nil pass0 (pa_cons (pv 1) pa_nil)))
        (pss_cons (ps_set (i := 3) sc_law.nd rfl (Or.inr rfl) (pe_lc (own := [("k", 4)]) (g := gName 4) (tt := tYes) rfl sc_law.nd (pi_range1 (by rfl) T.z_range (pa_cons (pe_op op_add pe_int (pe_call G_take (hr.mono (by decide)) (by rfl) T.g_take T.k_take T.b_take .nil pass0 (pa_cons (pv 2) (pa_cons pe_int pa_nil)))) pa_nil)) (blkOk_by (N := N_law) (sc := defScope s_law) (by decide +kernel)) (fun _ _ _ _ _ => pg_name (i := 4) sc_law.nd rfl (Or.inl rfl)) (fun _ _ _ _ _ => pts_nil) (fun _ _ _ _ _ => (pe_call G_take (hr.mono (by decide)) (by rfl) T.g_take T.k_take T.b_take .nil pass0 (pa_cons (pv 2) (pa_cons pe_int pa_nil))))))
        (pss_cons (ps_asg (pe_call G_bad_keys (hr.mono (by decide)) (by rfl) T.g_bad_keys T.k_bad_keys T.b_bad_keys .nil pass0 (pa_cons (pv 2) (pa_cons (pv 3) pa_nil))) (pg_tup rfl (pgs_cons (pg_name (i := 5) sc_law.nd rfl (Or.inr rfl)) (pgs_cons (pg_name (i := 6) sc_law.nd rfl (Or.inl rfl)) pgs_nil))))
        (pss_cons (ps_set (i := 7) sc_law.nd rfl (Or.inl rfl) (pe_lst (pa_cons (pe_tup (pa_cons pe_int (pa_cons pe_int pa_nil))) (pa_cons (pe_tup (pa_cons pe_int (pa_cons (pe_callB call_len_seq (by rfl) T.z_len PySem.boot_len (pa_cons (pv 3) pa_nil)) pa_nil))) (pa_cons (pe_tup (pa_cons (pe_un un_neg pe_int) (pa_cons pe_int pa_nil))) (pa_cons (pe_lst (pa_cons pe_int (pa_cons pe_int pa_nil))) (pa_cons (pe_tup (pa_cons pe_int pa_nil)) (pa_cons (pe_tup (pa_cons pe_int (pa_cons pe_int (pa_cons pe_int pa_nil)))) (pa_cons pe_non (pa_cons (pe_tup (pa_cons pe_bl (pa_cons pe_int pa_nil))) (pa_cons (pe_tup (pa_cons pe_str (pa_cons pe_int pa_nil))) (pa_cons pe_int pa_nil))))))))))))
        (pss_cons (ps_set (i := 8) sc_law.nd rfl (Or.inr rfl) (pe_call G_pick (hr.mono (by decide)) (by rfl) T.g_pick T.k_pick T.b_pick .nil pass0 (pa_cons (pv 2) (pa_cons (pv 7) pa_nil))))
        (pss_cons (ps_set (i := 9) sc_law.nd rfl (Or.inr rfl) (pe_call G_pick (hr.mono (by decide)) (by rfl) T.g_pick T.k_pick T.b_pick .nil pass0 (pa_cons (pv 2) (pa_cons (pe_lst (pa_cons pe_non (pa_cons pe_int (pa_cons pe_int (pa_cons pe_str (pa_cons (pe_lst pa_nil) (pa_cons pe_str pa_nil))))))) pa_nil))))
        (pss_cons (ps_asg (pe_call G_bad_order (hr.mono (by decide)) (by rfl) T.g_bad_order T.k_bad_order T.b_bad_order .nil pass0 (pa_cons (pv 2) (pa_cons (pe_listRg (by rfl) (by rfl) T.z_list (prg_1 (by rfl) T.z_range (pe_callB call_len_seq (by rfl) T.z_len PySem.boot_len (pa_cons (pv 3) pa_nil)))) pa_nil))) (pg_tup rfl (pgs_cons (pg_name (i := 10) sc_law.nd rfl (Or.inr rfl)) (pgs_cons (pg_name (i := 11) sc_law.nd rfl (Or.inl rfl)) pgs_nil))))
        (pss_cons (ps_set (i := 12) sc_law.nd rfl (Or.inl rfl) (pe_callB (call_reprS gd (units65 hr)) (by rfl) T.z_repr (by decide +kernel) (pa_cons (pe_tup (pa_cons (pv 3) (pa_cons (pv 10) pa_nil))) pa_nil)))
        (pss_cons (ps_set (i := 13) sc_law.nd rfl (Or.inl rfl) (pe_lst (pa_cons (pe_lamcallGG (T := LT a) (k := 9) T.f_said (by rfl) T.g_said T.k_said T.b_said sc_said rfl (Or.inl rfl) (gives_said T) gd TB_law rfl (hm_law a) (hu_law T) (hr.mono (by decide)) (free_by (show freeB (defScope s_law) _ = true from by decide +kernel)) rfl (Or.inl rfl) (.plain (lamS_by (show lamSB (defScope s_law) _ = true from by decide +kernel)) rfl (fun _ _ _ _ _ _ => rfl) (fun A1 outer1 s1 H1 E1 f1 c1 hr1 => (pe_call G_honest (hr1.mono (by decide)) (by rfl) T.g_honest T.k_honest T.b_honest .nil (passY rfl rfl rfl rfl) (pa_cons (pv 5) (pa_cons (pv 8) pa_nil)))))) (pa_cons (pe_lamcallGG (T := LT a) (k := 9) T.f_said (by rfl) T.g_said T.k_said T.b_said sc_said rfl (Or.inl rfl) (gives_said T) gd TB_law rfl (hm_law a) (hu_law T) (hr.mono (by decide)) (free_by (show freeB (defScope s_law) _ = true from by decide +kernel)) rfl (Or.inr ⟨_, _, rfl⟩) (.dflt (x := "of") (lamS1_by (show lamS1B (defScope s_law) _ _ = true from by decide +kernel)) (show ("of" : Str) ∉ N_law from by decide +kernel) (List.cons_ne_nil _ _) (fun _ _ _ _ _ _ _ => ⟨_, rfl, fun _ => rfl⟩) (fun A1 outer1 s1 H1 E1 f1 c1 hr1 => (pe_callN G_stable_order (hr1.mono (by decide)) (by rfl) T.g_stable_order T.k_stable_order T.kn_stable_order_1_reverse (passY rfl rfl rfl rfl) (pa_cons (pv 5) pa_nil) (pk_cons (pv 9) pk_nil))))) pa_nil))))
        (pss_cons (ps_expr (pe_bm PySem.F.plainAttrs_list PySem.F.slot_list_append PySem.F.type_list_append mt_append (pv 13) (pa_cons (pe_lamcallGG (T := LT a) (k := 9) T.f_said (by rfl) T.g_said T.k_said T.b_said sc_said rfl (Or.inl rfl) (gives_said T) gd TB_law rfl (hm_law a) (hu_law T) (hr.mono (by decide)) (free_by (show freeB (defScope s_law) _ = true from by decide +kernel)) rfl (Or.inl rfl) (.plain (lamS_by (show lamSB (defScope s_law) _ = true from by decide +kernel)) rfl (fun _ _ _ _ _ _ => rfl) (fun A1 outer1 s1 H1 E1 f1 c1 hr1 => (pe_callN G_is_order (hr1.mono (by decide)) (by rfl) T.g_is_order T.k_is_order T.kn_is_order_2_reverse (passY rfl rfl rfl rfl) (pa_cons (pv 5) (pa_cons (pv 10) pa_nil)) (pk_cons (pv 9) pk_nil))))) pa_nil)))
        (pss_cons (ps_if (PW.pt (pw_or (pt_cmpR (op_neD hr.units) (pv 13) (pe_op op_rep (pe_lst (pa_cons (pe_tup (pa_cons pe_str (pa_cons (pv 6) pa_nil))) pa_nil)) pe_int) (nomark _)) (pw_or1 (pt_cmpR (op_neD hr.units) (pe_lamcallGG (T := LT a) (k := 9) T.f_said (by rfl) T.g_said T.k_said T.b_said sc_said rfl (Or.inl rfl) (gives_said T) gd TB_law rfl (hm_law a) (hu_law T) (hr.mono (by decide)) (free_by (show freeB (defScope s_law) _ = true from by decide +kernel)) rfl (Or.inl rfl) (.plain (lamS_by (show lamSB (defScope s_law) _ = true from by decide +kernel)) rfl (fun _ _ _ _ _ _ => rfl) (fun A1 outer1 s1 H1 E1 f1 c1 hr1 => (pe_call G_honest (hr1.mono (by decide)) (by rfl) T.g_honest T.k_honest T.b_honest .nil (passY rfl rfl rfl rfl) (pa_cons (pv 3) (pa_cons (pv 8) pa_nil)))))) (pe_tup (pa_cons pe_str (pa_cons (pe_callB (call_reprS gd (units65 hr)) (by rfl) T.z_repr (by decide +kernel) (pa_cons (pv 8) pa_nil)) pa_nil))) (nomark _))))) (pss_one (ps_ret pe_bl)) pss_nil)
        (pss_cons (ps_if (pt_cmpR (op_neD hr.units) (pe_lamcallGG (T := LT a) (k := 9) T.f_said (by rfl) T.g_said T.k_said T.b_said sc_said rfl (Or.inl rfl) (gives_said T) gd TB_law rfl (hm_law a) (hu_law T) (hr.mono (by decide)) (free_by (show freeB (defScope s_law) _ = true from by decide +kernel)) rfl (Or.inl rfl) (.plain (lamS_by (show lamSB (defScope s_law) _ = true from by decide +kernel)) rfl (fun _ _ _ _ _ _ => rfl) (fun A1 outer1 s1 H1 E1 f1 c1 hr1 => (pe_callN G_is_order (hr1.mono (by decide)) (by rfl) T.g_is_order T.k_is_order T.kn_is_order_2_reverse (passY rfl rfl rfl rfl) (pa_cons (pv 3) (pa_cons (pv 10) pa_nil)) (pk_cons (pv 9) pk_nil))))) (pe_tup (pa_cons pe_str (pa_cons (pv 11) pa_nil))) (nomark _)) (pss_one (ps_ret pe_bl)) pss_nil)
        (pss_cons (ps_set (i := 13) sc_law.nd rfl (Or.inl rfl) (pe_lst (pa_cons (pe_lamcallGG (T := LT a) (k := 9) T.f_said (by rfl) T.g_said T.k_said T.b_said sc_said rfl (Or.inl rfl) (gives_said T) gd TB_law rfl (hm_law a) (hu_law T) (hr.mono (by decide)) (free_by (show freeB (defScope s_law) _ = true from by decide +kernel)) rfl (Or.inl rfl) (.plain (lamS_by (show lamSB (defScope s_law) _ = true from by decide +kernel)) rfl (fun _ _ _ _ _ _ => rfl) (fun A1 outer1 s1 H1 E1 f1 c1 hr1 => (pe_callN G_stable_order (hr1.mono (by decide)) (by rfl) T.g_stable_order T.k_stable_order T.kn_stable_order_1_reverse (passY rfl rfl rfl rfl) (pa_cons (pv 3) pa_nil) (pk_cons (pv 9) pk_nil))))) pa_nil)))
        (pss_cons (ps_expr (pe_bm PySem.F.plainAttrs_list PySem.F.slot_list_append PySem.F.type_list_append mt_append (pv 13) (pa_cons (pe_lamcallGG (T := LT a) (k := 9) T.f_said (by rfl) T.g_said T.k_said T.b_said sc_said rfl (Or.inl rfl) (gives_said T) gd TB_law rfl (hm_law a) (hu_law T) (hr.mono (by decide)) (free_by (show freeB (defScope s_law) _ = true from by decide +kernel)) rfl (Or.inl rfl) (.plain (lamS_by (show lamSB (defScope s_law) _ = true from by decide +kernel)) rfl (fun _ _ _ _ _ _ => rfl) (fun A1 outer1 s1 H1 E1 f1 c1 hr1 => (pe_callN G_is_order (hr1.mono (by decide)) (by rfl) T.g_is_order T.k_is_order T.kn_is_order_2_reverse (passY rfl rfl rfl rfl) (pa_cons (pv 3) (pa_cons (pe_listRg (by rfl) (by rfl) T.z_list (prg_1 (by rfl) T.z_range (pe_callB (show CallR _ _ (rLenK K) from call_len_seq) (by rfl) T.z_len PySem.boot_len (pa_cons (pv 3) pa_nil)))) pa_nil)) (pk_cons (pv 9) pk_nil))))) pa_nil)))
        (pss_one (ps_if (PW.pt (pw_or (pt_cmpR (op_neD hr.units) (pv 13) (pe_op op_rep (pe_lst (pa_cons (pe_tup (pa_cons pe_str (pa_cons pe_str pa_nil))) pa_nil)) pe_int) (nomark _)) (pw_or1 (pt_cmpR op_ne (pe_callB (call_reprS gd (units65 hr)) (by rfl) T.z_repr (by decide +kernel) (pa_cons (pe_tup (pa_cons (pv 3) (pa_cons (pv 10) pa_nil))) pa_nil)) (pv 12) (nomark _))))) (pss_one (ps_ret pe_bl)) pss_nil)))))))))))))))))
    (pss_cons (ps_set (i := 14) sc_law.nd rfl (Or.inr rfl) (pe_listRg (by rfl) (by rfl) T.z_list (prg_1 (by rfl) T.z_range pe_int)))
    (pss_cons (ps_if (PW.pt (pw_or (pt_cmpR (op_neD hr.units) (pe_lamcallGG (T := LT a) (k := 9) T.f_said (by rfl) T.g_said T.k_said T.b_said sc_said rfl (Or.inl rfl) (gives_said T) gd TB_law rfl (hm_law a) (hu_law T) (hr.mono (by decide)) (free_by (show freeB (defScope s_law) _ = true from by decide +kernel)) rfl (Or.inl rfl) (.plain (lamS_by (show lamSB (defScope s_law) _ = true from by decide +kernel)) rfl (fun _ _ _ _ _ _ => rfl) (fun A1 outer1 s1 H1 E1 f1 c1 hr1 => (pe_call (dvs := [.bl false]) G_stable_order (hr1.mono (by decide)) (by rfl) T.g_stable_order T.k_stable_order T.b_stable_order (.cons rfl .nil) (passY rfl rfl rfl rfl) (pa_cons (pv 14) pa_nil))))) pe_str (nomark _)) (pw_or1 (pt_cmpR (op_neD hr.units) (pe_call (dvs := [.bl false]) G_stable_order (hr.mono (by decide)) (by rfl) T.g_stable_order T.k_stable_order T.b_stable_order (.cons rfl .nil) passL (pa_cons (pv 14) pa_nil)) (pv 14) (nomark _))))) (pss_one (ps_ret pe_bl)) pss_nil)
    (pss_cons (ps_if (PW.pt (pw_or (pt_cmpR (op_neD hr.units) (pe_call (dvs := [.bl false]) G_stable_order (hr.mono (by decide)) (by rfl) T.g_stable_order T.k_stable_order T.b_stable_order (.cons rfl .nil) passL (pa_cons (pe_revL (pv 14)) pa_nil)) (pe_revL (pv 14)) (nomark _)) (pw_or1 (pt_cmpR op_notBl (pe_call (dvs := [.bl false]) G_is_order (hr.mono (by decide)) (by rfl) T.g_is_order T.k_is_order T.b_is_order (.cons rfl .nil) passL (pa_cons (pv 14) (pa_cons (pv 14) pa_nil))) pe_bl (nomark _))))) (pss_one (ps_ret pe_bl)) pss_nil)
    (pss_one (ps_ret (pe_cmpR (op_eqD hr.units) (pe_lamcallGG (T := LT a) (k := 9) T.f_said (by rfl) T.g_said T.k_said T.b_said sc_said rfl (Or.inl rfl) (gives_said T) gd TB_law rfl (hm_law a) (hu_law T) (hr.mono (by decide)) (free_by (show freeB (defScope s_law) _ = true from by decide +kernel)) rfl (Or.inl rfl) (.plain (lamS_by (show lamSB (defScope s_law) _ = true from by decide +kernel)) rfl (fun _ _ _ _ _ _ => rfl) (fun A1 outer1 s1 H1 E1 f1 c1 hr1 => (pe_call (dvs := [.bl false]) G_stable_order (hr1.mono (by decide)) (by rfl) T.g_stable_order T.k_stable_order T.b_stable_order (.cons rfl .nil) (passY rfl rfl rfl rfl) (pa_cons (pe_op (show OpR _ _ (rCatS K) from op_catS) (pv 14) (pe_lst (pa_cons pe_int pa_nil))) pa_nil))))) (pe_tup (pa_cons pe_str (pa_cons (pe_un un_neg pe_int) pa_nil))) (nomark _)))))))), ?_⟩
    have ln : (ns.map V.int).length = ns.length := List.length_map _
    have sz : (ns.map V.int).length + 1 ≤ sizeLine := Nat.le_trans (by omega) (by decide : 64 ≤ sizeLine)
    refine ⟨_, rfl, by show 1 ≤ sizeLine; decide, fun b2 hb2 => ⟨sc, b2, _, _, rfl, rfl, (same_upd hb2).seq hS, L2.sq_of upd_same, sz, fun c2 hc2 => ?_⟩⟩
    refine ⟨5, rfl, c2, _, rfl, L2.sq_of upd_same, fun e he => ⟨e, rfl, ⟨_, L2.sq_of upd_same⟩, ?_⟩⟩
    have TE : Tabs (LT a) (upd (upd (upd H b2 (.lst [.int 0])) c2 (.lst (ns.map V.int ++ [V.int 0]))) e (.lst (cutV (ns.map V.int ++ [V.int 0]) none (some 5)))) := ((hT.ext (same_upd hb2)).ext (same_upd hc2)).ext (same_upd he)
    generalize hHe : upd (upd (upd H b2 (.lst [.int 0])) c2 (.lst (ns.map V.int ++ [V.int 0]))) e (.lst (cutV (ns.map V.int ++ [V.int 0]) none (some 5))) = He at TE ⊢
    have hE : He e = some (.lst (cutV (ns.map V.int ++ [V.int 0]) none (some 5))) := by
      rw [← hHe]
      exact upd_same
    refine for_list (K := K) (a := e) (xs := cutV (ns.map V.int ++ [V.int 0]) none (some 5)) (fun i σ H' => (∃ (u1 u2 u3 u4 u5 u6 u7 u8 u9 u10 u11 u12 u13 u14 : Option V), σ = [some (.ref sc), u1, u2, u3, u4, u5, u6, u7, u8, u9, u10, u11, u12, u13, u14]) ∧ ExtN He H' ∧ Tabs (LT a) H')
      ⟨⟨_, _, _, _, _, _, _, _, _, _, _, _, _, _, rfl⟩, ExtN.refl _, TE⟩ (fun i σ H' _ h => L2.sq_of (h.2.1 _ _ hE fun ps z => by cases z)) ?_ ?_
    · rintro i y σ H2 hy ⟨⟨u1, u2, u3, u4, u5, u6, u7, u8, u9, u10, u11, u12, u13, u14, rfl⟩, sm, T2⟩
      obtain ⟨cell, rfl⟩ := cells_int17 (List.mem_of_getElem? hy)
      refine ⟨_, rfl, cell, rfl, fun p x y z x0 hp => ?_⟩
      have sm1 : ExtN He (upd H2 p (.lst [.int x, .int y, .int z])) := sm.trans (ExtN.of (same_upd hp))
      have sr1 : Src (upd H2 p (.lst [.int x, .int y, .int z])) p := .put x0
      have T3 := T2.ext (same_upd (o := .lst [.int x, .int y, .int z]) hp)
      have noHe : ∀ {b : Addr} {o : HO}, He b = some o → (∀ ps, o ≠ HO.tbl ps) → b ≠ p := fun {b o} h n => ne_of_none (sm _ _ h n) hp
      generalize upd H2 p (.lst [.int x, .int y, .int z]) = H3 at sm1 sr1 T3 ⊢
      -- the marks
      refine ⟨_, rfl, p, 9, rfl, sr1, by decide, by decide, fun v x y z v0 v1 x0 => ⟨_, _, rfl, rfl, _, rfl, by omega, by omega, fun D hD => ?_⟩⟩
      have d1 : Dn p H3 (upd H3 p (.lst [.int x, .int y, .int z])) := .put x0
      generalize upd H3 p (.lst [.int x, .int y, .int z]) = H4 at d1 hD ⊢
      refine lc_intsP (fun z => 0 ≤ z ∧ z < 9) (by omega) d1.2 hD (fun _ => rfl) (fun k H5 R hk dr h => ?_) (fun ms H5 l1 hms d2 hm2 => ?_)
      · exact ⟨_, rfl, p, 9, rfl, dr.2, by decide, by decide, fun v x y z v0 v1 x0 => h _ _ ⟨v0, v1⟩ (.put x0)⟩
      have nDp : D ≠ p := d1.2.ne hD
      have lm : (ms.map V.int).length = ms.length := List.length_map _
      have n2 : 2 ≤ ms.length := by omega
      have n10 : ms.length ≤ 10 := by omega
      have D5 : DnT p H3 H5 := .of (d1.trans d2)
      have T5 := tabs_dn T3 sr1 (d1.trans d2)
      clear d1 hD
      refine st_name ?_
      dsimp only
      refine st_seq (st_asg (st_call (st_cons (st_var rfl (st_cons (st_var rfl ?_))))))
      refine ⟨p, D, ms, rfl, d2.2, nDp, hm2, by omega, n10, fun t bad at_ H6 d6 ntp ht hk nb => ?_⟩
      refine ⟨t, _, rfl, L2.st_of ht, rfl, _, _, rfl, _, _, rfl, rfl, ?_⟩
      have hmK := d6.1 _ _ nDp hm2
      have D6 := D5.trans (.of d6)
      have T6 := tabs_dn T5 d2.2 d6
      have frK : ∀ (b : Addr) (H' : Hp), Same H6 H' → H' b = none → b ≠ p := fun b H' s h => (d6.same s).2.ne h
      have s6 := d6.2
      clear d6 d2 hm2 ht T5 D5
      -- what is asked
      dsimp only
      refine st_seq (st_asg (lst_all asko_stb (all_cons (asko_stb (p := p) (n := ms.length)) (fun Q q => ⟨by show 2 ≤ sizeLine; decide, fun _ ho => q _ _ (same_upd ho) (asko_mk (.inr (.inr ⟨_, _, _, rfl, upd_same, .inr (.inr ⟨0, rfl, rfl, (inR_yes (by omega) (by omega))⟩)⟩)) (shn_pair upd_same (frK _ _ (Same.refl _) ho) (.int _) (.int _)) (shw_pair ((Shw.int (by decide)).mono (Nat.zero_le _) (Nat.le_refl _)) ((Shw.int (by decide)).mono (Nat.zero_le _) (Nat.le_refl _))) (by decide +kernel))⟩) fun _ s0 => all_cons (asko_stb (p := p) (n := ms.length)) (fun Q q => ⟨_, rfl, D, _, rfl, .inl (L2.sq_of (((Same.refl _).trans s0) _ _ hmK)), by show 2 ≤ sizeLine; decide, fun _ ho => by rw [lm]; exact q _ _ (same_upd ho) (asko_mk (.inr (.inr ⟨_, _, _, rfl, upd_same, .inr (.inl ⟨0, _, rfl, (inR_yes (by omega) (by omega)), .int _, inR_high (by omega)⟩)⟩)) (shn_pair upd_same (frK _ _ ((Same.refl _).trans s0) ho) (.int _) (.int _)) (shw_pair ((Shw.int (by decide)).mono (Nat.zero_le _) (Nat.le_refl _)) ((Shw.int (Nat.lt_of_le_of_lt (by omega : _ ≤ 10) (by decide))).mono (Nat.zero_le _) (Nat.le_refl _))) (lay_many n2 n10))⟩) fun _ s1 => all_cons (asko_stb (p := p) (n := ms.length)) (fun Q q => ⟨_, rfl, by show 2 ≤ sizeLine; decide, fun _ ho => q _ _ (same_upd ho) (asko_mk (.inr (.inr ⟨_, _, _, rfl, upd_same, .inl ⟨_, .int _, inR_low (by decide)⟩⟩)) (shn_pair upd_same (frK _ _ (((Same.refl _).trans s0).trans s1) ho) (.int _) (.int _)) (shw_pair ((Shw.int (by decide)).mono (Nat.zero_le _) (Nat.le_refl _)) ((Shw.int (by decide)).mono (Nat.zero_le _) (Nat.le_refl _))) (by decide +kernel))⟩) fun _ s2 => all_cons (asko_stb (p := p) (n := ms.length)) (fun Q q => ⟨by show 2 ≤ sizeLine; decide, fun _ ho => q _ _ (same_upd ho) (asko_mk (.inl ⟨_, .lst upd_same, by decide⟩) (.row upd_same (frK _ _ ((((Same.refl _).trans s0).trans s1).trans s2) ho) (.cons (.int _) (.cons (.int _) .nil))) (((Shws.cons (Shw.int (by decide)) (Shws.cons (Shw.int (by decide)) (Shws.nil.mono (Nat.le_refl _) (Nat.le_refl _)))).lst).mono (by decide) (by decide)) (by decide +kernel))⟩) fun _ s3 => all_cons (asko_stb (p := p) (n := ms.length)) (fun Q q => ⟨by show 1 ≤ sizeLine; decide, fun _ ho => q _ _ (same_upd ho) (asko_mk (.inr (.inl ⟨_, _, rfl, upd_same, by decide⟩)) (.rowt upd_same (frK _ _ (((((Same.refl _).trans s0).trans s1).trans s2).trans s3) ho) (.cons (.int _) .nil)) (((Shws.cons (Shw.int (by decide)) (Shws.nil.mono (Nat.le_refl _) (Nat.le_refl _))).tup).mono (by decide) (by decide)) (by decide +kernel))⟩) fun _ s4 => all_cons (asko_stb (p := p) (n := ms.length)) (fun Q q => ⟨by show 3 ≤ sizeLine; decide, fun _ ho => q _ _ (same_upd ho) (asko_mk (.inr (.inl ⟨_, _, rfl, upd_same, by decide⟩)) (.rowt upd_same (frK _ _ ((((((Same.refl _).trans s0).trans s1).trans s2).trans s3).trans s4) ho) (.cons (.int _) (.cons (.int _) (.cons (.int _) .nil)))) (((Shws.cons (Shw.int (by decide)) (Shws.cons (Shw.int (by decide)) (Shws.cons (Shw.int (by decide)) (Shws.nil.mono (Nat.le_refl _) (Nat.le_refl _))))).tup).mono (by decide) (by decide)) (by decide +kernel))⟩) fun _ s5 => all_cons (asko_stb (p := p) (n := ms.length)) (fun Q q => q _ _ (Same.refl _) (asko_mk (.inl ⟨_, .non, by decide⟩) .non (Shw.non.mono (Nat.zero_le _) (Nat.zero_le _)) (by decide +kernel))) fun _ s6 => all_cons (asko_stb (p := p) (n := ms.length)) (fun Q q => ⟨by show 2 ≤ sizeLine; decide, fun _ ho => q _ _ (same_upd ho) (asko_mk (.inr (.inr ⟨_, _, _, rfl, upd_same, .inl ⟨_, .bl _, rfl⟩⟩)) (shn_pair upd_same (frK _ _ ((((((((Same.refl _).trans s0).trans s1).trans s2).trans s3).trans s4).trans s5).trans s6) ho) (.bl _) (.int _)) (shw_pair ((Shw.bl _).mono (Nat.zero_le _) (Nat.le_refl _)) ((Shw.int (by decide)).mono (Nat.zero_le _) (Nat.le_refl _))) (by decide +kernel))⟩) fun _ s7 => all_cons (asko_stb (p := p) (n := ms.length)) (fun Q q => ⟨by show 2 ≤ sizeLine; decide, fun _ ho => q _ _ (same_upd ho) (asko_mk (.inr (.inr ⟨_, _, _, rfl, upd_same, .inl ⟨_, .str _, rfl⟩⟩)) (shn_pair upd_same (frK _ _ (((((((((Same.refl _).trans s0).trans s1).trans s2).trans s3).trans s4).trans s5).trans s6).trans s7) ho) (.str _) (.int _)) (shw_pair ((Shw.str (by decide +kernel) (by decide +kernel)).mono (Nat.le_refl 9) (Nat.le_refl _)) ((Shw.int (by decide)).mono (Nat.zero_le _) (Nat.le_refl _))) (by decide +kernel))⟩) fun _ s8 => all_cons (asko_stb (p := p) (n := ms.length)) (fun Q q => q _ _ (Same.refl _) (asko_mk (.inl ⟨_, .int _, by decide⟩) (.int _) ((Shw.int (by decide)).mono (Nat.zero_le _) (Nat.zero_le _)) (by decide +kernel))) fun _ s9 => all_nil) (by decide) fun LK LS HX fX sX hLX hlen itX => ?_))
      refine st_name ?_
      dsimp only
      refine st_seq (st_asg (st_call (st_cons (st_var rfl (st_cons (st_var rfl ?_))))))
      refine ⟨p, LK, LS, rfl, s6.same sX, s6.ne fX, L2.sq_of hLX, by rw [hlen]; decide, by rw [hlen]; decide, fun ask H7 hask d7 => ?_⟩
      have ask7 : AskO p ms.length ask H7 := asko_dn (s6.same sX) d7 (itX ask hask)
      have hk7 : KeysQ H7 bad 0 2000 (some at_) := keys_dn (s6.same sX) d7 nb (keysExt (.of sX) hk)
      have hm7 := d7.1 _ _ nDp (sX _ _ hmK)
      have D7 := (D6.ext (.of sX)).trans (.of d7)
      have T7 := tabs_dn (T6.ext sX) (s6.same sX) d7
      have s7 := d7.2
      clear itX hLX hlen hask d7 sX fX hk hmK D6 T6 s6 frK
      refine st_name ?_
      dsimp only
      refine st_seq (st_asg (st_call (st_cons (st_var rfl (st_cons (lst_all oddb_stb (all_cons oddb_stb (fun Q q => q _ _ (Same.refl _) ⟨_, .non, by decide⟩) fun _ s0 => all_cons oddb_stb (fun Q q => q _ _ (Same.refl _) ⟨_, .int _, by decide⟩) fun _ s1 => all_cons oddb_stb (fun Q q => q _ _ (Same.refl _) ⟨_, .int _, by decide⟩) fun _ s2 => all_cons oddb_stb (fun Q q => q _ _ (Same.refl _) ⟨_, .str _, by decide⟩) fun _ s3 => all_cons oddb_stb (fun Q q => ⟨by show 0 ≤ sizeLine; decide, fun _ ho => q _ _ (same_upd ho) ⟨_, .lst upd_same, by decide⟩⟩) fun _ s4 => all_cons oddb_stb (fun Q q => q _ _ (Same.refl _) ⟨_, .str _, by decide⟩) fun _ s5 => all_nil) (by decide) fun LK LS HX fX sX hLX hlen itX => ?_))))))
      refine ⟨p, LK, LS, rfl, s7.same sX, s7.ne fX, L2.sq_of hLX, by rw [hlen]; decide, by rw [hlen]; decide, fun odd H8 hodd d8 => ?_⟩
      obtain ⟨To, ho0, hob⟩ := itX odd hodd
      have ho8 : AnyV H8 odd To := any_dn (s7.same sX) d8 ho0
      have ask8 : AskO p ms.length ask H8 := asko_dn (s7.same sX) d8 (asko_stb _ _ _ sX ask7)
      have hk8 : KeysQ H8 bad 0 2000 (some at_) := keys_dn (s7.same sX) d8 nb (keysExt (.of sX) hk7)
      have hm8 := d8.1 _ _ nDp (sX _ _ hm7)
      have D8 := (D7.ext (.of sX)).trans (.of d8)
      have T8 := tabs_dn (T7.ext sX) (s7.same sX) d8
      have s8 := d8.2
      clear itX hLX hlen hodd d8 sX fX ho0 hk7 hm7 D7 T7 s7 ask7
      -- the order
      refine st_name ?_
      dsimp only
      refine st_seq (st_asg (st_call (st_cons (st_var rfl (st_cons ?_)))))
      refine ⟨_, rfl, D, _, rfl, .inl (L2.sq_of hm8), _, rfl, ?_, fun o ho => ?_⟩
      · rw [lm]
        exact rgOk_nat (by omega)
      rw [lm, rg_nat]
      have sO := same_upd (o := .lst (nV (List.range ms.length))) ho
      have kO : upd H8 o (.lst (nV (List.range ms.length))) o = some (.lst (nV (List.range ms.length))) := upd_same
      have nO : o ≠ p := s8.ne ho
      generalize upd H8 o (.lst (nV (List.range ms.length))) = H9 at sO kO ⊢
      refine ⟨p, o, ms.length, rfl, s8.same sO, nO, kO, n2, n10, fun t order place H10 d10 ntp2 ht2 hord => ?_⟩
      refine ⟨t, _, rfl, L2.st_of ht2, rfl, _, _, rfl, _, _, rfl, rfl, ?_⟩
      have ho10 : AnyV H10 odd To := any_dn (s8.same sO) d10 (ho8.ext (.of sO))
      have ask10 : AskO p ms.length ask H10 := asko_dn (s8.same sO) d10 (asko_stb _ _ _ sO ask8)
      have hk10 : KeysQ H10 bad 0 2000 (some at_) := keys_dn (s8.same sO) d10 nb (keysExt (.of sO) hk8)
      have hm10 := d10.1 _ _ nDp (sO _ _ hm8)
      have D10 := (D8.ext (.of sO)).trans (.of d10)
      have T10 := tabs_dn (T8.ext sO) (s8.same sO) d10
      have s10 := d10.2
      clear d10 sO kO nO ho8 ask8 hk8 hm8 D8 T8 s8 ht2
      -- how both are shown
      obtain ⟨hO, nO, pdo, shO, swO⟩ := hord
      have ms23 : ∀ z ∈ ms, z.natAbs < 10 ^ 23 := fun z hz => by
        have := hms z hz
        exact Nat.lt_of_lt_of_le (by omega : z.natAbs < 9) (by decide)
      dsimp only
      refine st_seq (st_asg (st_cb (st_cons (st_tup (st_cons (st_var rfl (st_cons (st_var rfl ⟨by show 2 ≤ sizeLine; decide, fun t3 ht3 => ?_⟩))))))))
      have r1 := rep_row (p := p) (t := t3) K ((same_upd (o := .tup [.ref D, order]) ht3) _ _ hm10) nDp ms23 n10 (shO.same (same_upd (o := .tup [.ref D, order]) ht3)) swO upd_same (s10.ne ht3)
      refine ⟨.ref t3, _, rfl, r1.1, r1.2.sh, r1.2.dp, r1.2.fits (Nat.le_refl _), ?_⟩
      have sS := same_upd (o := .tup [.ref D, order]) ht3
      clear r1
      generalize upd H10 t3 (.tup [.ref D, order]) = H11 at sS ⊢
      have ho11 := ho10.ext (.of sS)
      have ask11 := asko_stb _ _ _ sS ask10
      have hk11 := keysExt (.of sS) hk10
      have hm11 := sS _ _ hm10
      have D11 := D10.ext (.of sS)
      have T11 := T10.ext sS
      have s11 := s10.same sS
      have hO11 := hO.ext (.of sS)
      have shO11 := shO.same sS
      clear sS ho10 ask10 hk10 hm10 D10 T10 s10 hO shO ht3
      -- the keys are refused first
      refine st_name ?_
      dsimp only
      refine st_seq (st_asg (st_lst (st_cons (told04 T11 (List.Mem.head _) (fun E Ha Q1 ea Ta rz => ⟨_, rfl, _, rfl, bad, ask, rfl, .inl ⟨at_, keysExt ea hk11, rz⟩⟩) fun t1 Hb eb Tb k1 => st_cons (told04 Tb (List.Mem.head _) (fun E Ha Q1 ea Ta rz => ⟨_, rfl, _, rfl, rfl, rfl, bad, odd, rfl, .inl ⟨at_, keysExt (eb.trans ea) hk11, rz⟩⟩) fun t2 Hc ec Tc k2 => ⟨by show 2 ≤ sizeLine; decide, fun L hL => ?_⟩)))))
      refine st_name ?_
      dsimp only
      refine st_seq (st_expr (st_bm rfl upd_same (st_cons (told04 (Tc.ext (same_upd hL)) (List.Mem.head _) (fun E Ha Q1 ea Ta rz => ⟨_, rfl, _, rfl, _, rfl, rfl, rfl, bad, order, odd, rfl, .inl ⟨at_, keysExt (((eb.trans ec).trans (.of (same_upd hL))).trans ea) hk11, rz⟩⟩) fun t3 Hd ed Td k3 => ⟨L, _, _, rfl, rfl, ed _ _ upd_same (fun ps z => by cases z), by show 2 < sizeLine; decide, ?_⟩))))
      have xx := ext_put (y := .lst ([.ref t1, .ref t2] ++ [.ref t3])) hL ed
      have hLd : Hd L = some (.lst [.ref t1, .ref t2]) := ed _ _ upd_same (fun ps z => by cases z)
      have e12 : ExtN H11 (upd Hd L (.lst ([.ref t1, .ref t2] ++ [.ref t3]))) := (eb.trans ec).trans xx
      have T12 : Tabs (LT a) (upd Hd L (.lst ([.ref t1, .ref t2] ++ [.ref t3]))) := tabs_put Td hLd
      have w1 := xx _ _ (ec _ _ k1 (fun ps z => by cases z)) (fun ps z => by cases z)
      have w2 := xx _ _ k2 (fun ps z => by cases z)
      have w3 : upd Hd L (.lst ([.ref t1, .ref t2] ++ [.ref t3])) t3 = some (.tup [.str "keys", .int at_]) := by
        rw [upd_ne (fun e => by rw [e, hLd] at k3; cases k3)]
        exact k3
      have hL12 : upd Hd L (.lst ([.ref t1, .ref t2] ++ [.ref t3])) L = some (.lst [.ref t1, .ref t2, .ref t3]) := upd_same
      generalize upd Hd L (.lst ([.ref t1, .ref t2] ++ [.ref t3])) = H12 at e12 T12 w1 w2 w3 hL12 ⊢
      clear xx hLd k1 k2 k3 ed Td ec eb Tb Tc hL
      refine st_seq (st_if (st_or (st_test (st_op (st_var rfl ⟨_, rfl, by show 2 ≤ sizeLine; decide, fun u hu => ⟨by show 1 ≤ sizeLine; decide, fun l hl => ⟨l, 3, [.ref u], rfl, rfl, upd_same, by decide, by decide, by show 1 * 3 ≤ sizeLine; decide, fun l3 hl3 => ?_⟩⟩⟩)))))
      have sa := ((same_upd (o := .tup [.str "keys", .int at_]) hu).trans (same_upd (o := .lst [.ref u]) hl)).trans (same_upd (o := .lst (List.replicate (3 : Int).toNat [V.ref u]).flatten) hl3)
      refine ⟨_, _, dp_said (n := 3) (sa _ _ hL12) rfl (fun r hr => ?_) (.int at_), dp_saidR (n := 3) upd_same (((same_upd hl).trans (same_upd hl3)) _ _ upd_same) (.int at_), shaped_said (by decide +kernel) (.int at_) 3, shaped_said (by decide +kernel) (.int at_) 3, false, ne_said (by decide +kernel) (.int at_) 3, iteF ?_⟩
      · rcases List.mem_cons.mp hr with rfl | hr
        · exact ⟨_, rfl, sa _ _ w1⟩
        rcases List.mem_cons.mp hr with rfl | hr
        · exact ⟨_, rfl, sa _ _ w2⟩
        · rw [List.mem_singleton.mp hr]
          exact ⟨_, rfl, sa _ _ w3⟩
      have e13 : ExtN H11 (upd (upd (upd H12 u (.tup [.str "keys", .int at_])) l (.lst [.ref u])) l3 (.lst (List.replicate (3 : Int).toNat [V.ref u]).flatten)) := e12.trans (.of sa)
      have T13 := T12.ext sa
      generalize upd (upd (upd H12 u (.tup [.str "keys", .int at_])) l (.lst [.ref u])) l3 (.lst (List.replicate (3 : Int).toNat [V.ref u]).flatten) = H13 at e13 T13 ⊢
      clear sa hu hl hl3 w1 w2 w3 hL12 T12 e12
      -- then the question
      obtain ⟨hq11, pda, shA, swA, layA⟩ := ask11
      have kf : ∀ {HZ : Hp}, ExtN H11 HZ → KFine HZ (.ref D) D ms := fun e => ⟨rfl, .inl (e _ _ hm11 (fun ps z => by cases z)), by omega⟩
      refine st_test (st_op (told04q T13 (shA.ext e13) (swA.mono (by decide) (by decide)) (fun E Ha Q1 ea Ta rz => ⟨_, rfl, _, rfl, .ref D, ask, rfl, .inr ⟨D, ms, kf (e13.trans ea), hq11.ext (e13.trans ea), rz⟩⟩) fun t4 H14 e4 T14 k4 => ?_))
      have e14 := e13.trans e4
      refine ⟨_, rfl, ask, pda, rfl, (shA.ext e14).shd, swA.sh, Nat.le_trans swA.dp (by decide), swA.fits (by decide), by show 2 ≤ sizeLine; decide, fun u hu => ?_⟩
      refine ⟨_, _, dp_word ((same_upd hu) _ _ k4) (.str _ layA), dp_word (t := u) upd_same (.str _ layA), shaped_word (by decide +kernel) (.str _ layA), shaped_word (by decide +kernel) (.str _ layA), false, ne_word (by decide +kernel) (.str _ layA), iteF ?_⟩
      have e15 := e14.trans (.of (same_upd (o := .tup [.str "question", .str pda.shown]) hu))
      have T15 := T14.ext (same_upd (o := .tup [.str "question", .str pda.shown]) hu)
      generalize upd H14 u (.tup [.str "question", .str pda.shown]) = H15 at e15 T15 ⊢
      clear e13 T13 e4 T14 k4 e14 hu
      -- then the order
      refine st_next ?_
      dsimp only
      refine st_seq (st_if (st_test (st_op (told04 T15 (List.Mem.tail _ (List.Mem.head _)) (fun E Ha Q1 ea Ta rz => ⟨_, rfl, _, rfl, _, rfl, rfl, rfl, .ref D, order, odd, rfl, .inr ⟨D, ms, kf (e15.trans ea), .inl ⟨place, hO11.ext (e15.trans ea), rz⟩⟩⟩) fun t5 H16 e5 T16 k5 => ⟨_, rfl, by show 2 ≤ sizeLine; decide, fun u hu => ?_⟩))))
      refine ⟨_, _, dp_word ((same_upd hu) _ _ k5) (.int place), dp_word (t := u) upd_same (.int place), shaped_word (by decide +kernel) (.int place), shaped_word (by decide +kernel) (.int place), false, ne_word (by decide +kernel) (.int place), iteF ?_⟩
      have e17 := (e15.trans e5).trans (.of (same_upd (o := .tup [.str "order", .int place]) hu))
      have T17 := T16.ext (same_upd (o := .tup [.str "order", .int place]) hu)
      generalize upd H16 u (.tup [.str "order", .int place]) = H17 at e17 T17 ⊢
      clear e15 T15 e5 T16 k5 hu
      -- then the turn
      have rb : ∀ {HZ : Hp} {E : XK}, ExtN H11 HZ → Rz E HZ a.c_InvalidNumber "name" (.str "reverse") → RevBad a.c_InvalidNumber HZ E odd := fun e z => ⟨To, ho11.ext e, hob, z⟩
      have sr : Lone (.str "reverse") (.str "reverse") := .str _ (by decide +kernel)
      refine st_next ?_
      dsimp only
      refine st_seq (st_asg (st_lst (st_cons (told04 T17 (List.Mem.tail _ (List.Mem.tail _ (List.Mem.head _))) (fun E Ha Q1 ea Ta rz => ⟨_, rfl, _, rfl, rfl, rfl, .ref D, odd, rfl, .inr ⟨D, ms, kf (e17.trans ea), .inl (rb (e17.trans ea) rz)⟩⟩) fun t1 Hb eb Tb k1 => ⟨by show 1 ≤ sizeLine; decide, fun L hL => ?_⟩))))
      refine st_name ?_
      dsimp only
      refine st_seq (st_expr (st_bm rfl upd_same (st_cons (told04 (v := .str "reverse") (Tb.ext (same_upd hL)) (List.Mem.tail _ (List.Mem.tail _ (List.Mem.head _))) (fun E Ha Q1 ea Ta rz => ?said) fun t3 Hd ed Td k3 => ⟨L, _, _, rfl, rfl, ed _ _ upd_same (fun ps z => by cases z), by show 1 < sizeLine; decide, ?_⟩))))
      case said =>
        have eA := ((e17.trans eb).trans (.of (same_upd hL))).trans ea
        refine ⟨_, rfl, _, rfl, D, _, rfl, .inl (L2.sq_of (eA _ _ hm11 (fun ps z => by cases z))), _, rfl, ?_, fun o ho => ?_⟩
        · rw [lm]
          exact rgOk_nat (by omega)
        rw [lm, rg_nat]
        have eB := eA.trans (.of (same_upd (o := .lst (nV (List.range ms.length))) ho))
        exact ⟨_, rfl, rfl, rfl, .ref D, .ref o, odd, rfl, .inr ⟨D, ms, kf eB, .inr (.inl ⟨.fine rfl (.inl upd_same) List.length_range List.nodup_range fun b hb => List.mem_range.mp hb, rb eB (rz.same (same_upd ho))⟩)⟩⟩
      have xx := ext_put (y := .lst ([.ref t1] ++ [.ref t3])) hL ed
      have hLd : Hd L = some (.lst [.ref t1]) := ed _ _ upd_same (fun ps z => by cases z)
      have e18 : ExtN H11 (upd Hd L (.lst ([.ref t1] ++ [.ref t3]))) := (e17.trans eb).trans xx
      have T18 : Tabs (LT a) (upd Hd L (.lst ([.ref t1] ++ [.ref t3]))) := tabs_put Td hLd
      have w1 := xx _ _ k1 (fun ps z => by cases z)
      have w3 : upd Hd L (.lst ([.ref t1] ++ [.ref t3])) t3 = some (.tup [.str "number", .str "reverse"]) := by
        rw [upd_ne (fun e => by rw [e, hLd] at k3; cases k3)]
        exact k3
      have hL18 : upd Hd L (.lst ([.ref t1] ++ [.ref t3])) L = some (.lst [.ref t1, .ref t3]) := upd_same
      generalize upd Hd L (.lst ([.ref t1] ++ [.ref t3])) = H18 at e18 T18 w1 w3 hL18 ⊢
      clear xx hLd k1 k3 ed Td eb Tb hL e17 T17
      refine st_if (st_or (st_test (st_op (st_var rfl ⟨by show 2 ≤ sizeLine; decide, fun u hu => ⟨by show 1 ≤ sizeLine; decide, fun l hl => ⟨l, 2, [.ref u], rfl, rfl, upd_same, by decide, by decide, by show 1 * 2 ≤ sizeLine; decide, fun l3 hl3 => ?_⟩⟩⟩))))
      have sa := ((same_upd (o := .tup [.str "number", .str "reverse"]) hu).trans (same_upd (o := .lst [.ref u]) hl)).trans (same_upd (o := .lst (List.replicate (2 : Int).toNat [V.ref u]).flatten) hl3)
      refine ⟨_, _, dp_said (n := 2) (sa _ _ hL18) rfl (fun r hr => ?_) sr, dp_saidR (n := 2) upd_same (((same_upd hl).trans (same_upd hl3)) _ _ upd_same) sr, shaped_said (by decide +kernel) sr 2, shaped_said (by decide +kernel) sr 2, false, ne_said (by decide +kernel) sr 2, iteF ?_⟩
      · rcases List.mem_cons.mp hr with rfl | hr
        · exact ⟨_, rfl, sa _ _ w1⟩
        · rw [List.mem_singleton.mp hr]
          exact ⟨_, rfl, sa _ _ w3⟩
      have e19 : ExtN H11 (upd (upd (upd H18 u (.tup [.str "number", .str "reverse"])) l (.lst [.ref u])) l3 (.lst (List.replicate (2 : Int).toNat [V.ref u]).flatten)) := e18.trans (.of sa)
      have T19 := T18.ext sa
      generalize upd (upd (upd H18 u (.tup [.str "number", .str "reverse"])) l (.lst [.ref u])) l3 (.lst (List.replicate (2 : Int).toNat [V.ref u]).flatten) = H19 at e19 T19 ⊢
      clear sa hu hl hl3 w1 w3 hL18 T18 e18
      refine st_test (st_op (st_cb (st_cons (st_tup (st_cons (st_var rfl (st_cons (st_var rfl ⟨by show 2 ≤ sizeLine; decide, fun t3 ht3 => ?_⟩))))))))
      have r1 := rep_row (p := p) (t := t3) K ((same_upd (o := .tup [.ref D, order]) ht3) _ _ (e19 _ _ hm11 (fun ps z => by cases z))) nDp ms23 n10 ((shO11.ext e19).same (same_upd (o := .tup [.ref D, order]) ht3)) swO upd_same ((srcN e19 s11).ne ht3)
      refine ⟨.ref t3, _, rfl, r1.1, r1.2.sh, r1.2.dp, r1.2.fits (Nat.le_refl _), ?_⟩
      refine ⟨_, rfl, rfl, false, ?_, iteF ?_⟩
      · rw [decide_eq_true rfl]
        rfl
      refine st_next ?_
      have e20 := e19.trans (.of (same_upd (o := .tup [.ref D, order]) ht3))
      exact ⟨⟨_, _, _, _, _, _, _, _, _, _, _, _, _, _, rfl⟩, fun b o h n => (D11.ext e20).1 b o (noHe h n) n (sm1 b o h n), T19.ext (same_upd ht3)⟩
    · rintro σ H1 ⟨⟨u1, u2, u3, u4, u5, u6, u7, u8, u9, u10, u11, u12, u13, u14, rfl⟩, eX, T1⟩
      dsimp only
      refine st_seq (st_asg ⟨_, rfl, show RgOk 0 ((2000 : Nat) : Int) from rgOk_nat (Nat.le_refl _), fun bd hbd => ?_⟩)
      obtain ⟨N, hN, eN⟩ : ∃ N : Nat, N = 2000 ∧ rgV 0 (2000 : Int) = (upI N).map V.int := ⟨2000, rfl, (rg_nat 2000).trans (upI_nV 2000)⟩
      rw [eN]
      have kb : upd H1 bd (.lst ((upI N).map V.int)) bd = some (.lst ((upI N).map V.int)) := upd_same
      have T2 := T1.ext (same_upd (o := .lst ((upI N).map V.int)) hbd)
      generalize upd H1 bd (.lst ((upI N).map V.int)) = H2 at kb T2 ⊢
      clear eN hbd T1 eX
      have lN : (upI N).length ≤ 2000 := by rw [upI_len]; omega
      have lR : (upI N).reverse.length ≤ 2000 := by rw [List.length_reverse]; exact lN
      have kf : ∀ {HZ : Hp}, ExtN H2 HZ → KFine HZ (.ref bd) bd (upI N) := fun e => ⟨rfl, .inl (e _ _ kb (fun ps z => by cases z)), lN⟩
      refine st_name ?_
      dsimp only
      refine st_seq (st_if (st_or (st_test (st_op (heard04 T2 (fun E Ha ea Ta Q1 q1 => ⟨_, rfl, .ref bd, .bl false, rfl, .inr ⟨bd, upI N, kf ea, .inr ⟨false, rfl, fun r os H' so hr s h => q1 _ _ s⟩⟩⟩) fun H3 e3 T3 => ⟨_, _, .str _, .str _, by decide +kernel, by decide +kernel, false, congrArg V.bl (by decide +kernel), iteF ?_⟩)))))
      refine st_test (st_op ⟨_, rfl, .ref bd, .bl false, rfl, .inr ⟨bd, upI N, kf e3, .inr ⟨false, rfl, fun r os H4 so hr4 s4 h4 => ?_⟩⟩⟩)
      obtain rfl := so.uniq (stab_up N)
      rw [upI_nV] at h4
      have e4 := e3.trans (.of s4)
      refine ⟨_, rfl, _, _, dp_ints (L2.sq_of h4), dp_ints (L2.sq_of (e4 _ _ kb (fun ps z => by cases z))), shaped_ints _, shaped_ints _, false, ?_, iteF ?_⟩
      · rw [eq_ints rfl]
        rfl
      have T4 := T3.ext s4
      clear h4 hr4 so
      refine st_next ?_
      dsimp only
      refine st_seq (st_if (st_or (st_test (st_op ⟨_, rfl, bd, _, rfl, L2.sq_of (e4 _ _ kb (fun ps z => by cases z)), fun rv hrv => ?_⟩))))
      rw [← List.map_reverse]
      have e5 := e4.trans (.of (same_upd (o := .lst ((upI N).reverse.map V.int)) hrv))
      refine ⟨.ref rv, .bl false, rfl, .inr ⟨rv, (upI N).reverse, ⟨rfl, .inl upd_same, lR⟩, .inr ⟨false, rfl, fun r os H6 so hr6 s6 h6 => ?_⟩⟩⟩
      obtain rfl := so.uniq (stab_down N)
      rw [down_os] at h6
      have e6 := e5.trans (.of s6)
      refine ⟨_, rfl, bd, _, rfl, L2.sq_of (e6 _ _ kb (fun ps z => by cases z)), fun rv2 hrv2 => ?_⟩
      rw [← List.map_reverse]
      have s7 := same_upd (o := .lst ((upI N).reverse.map V.int)) hrv2
      refine ⟨_, _, dp_ints (L2.sq_of (s7 _ _ h6)), dp_ints (L2.sq_of upd_same), shaped_ints _, shaped_ints _, false, ?_, iteF ?_⟩
      · rw [eq_ints rfl]
        rfl
      have e7 := e6.trans (.of s7)
      have T7 := ((T4.ext (same_upd (o := .lst ((upI N).reverse.map V.int)) hrv)).ext s6).ext s7
      generalize upd H6 rv2 (.lst ((upI N).reverse.map V.int)) = H7 at e7 T7 ⊢
      clear h6 hr6 so s7 hrv2 s6 e6
      refine st_test (st_op ⟨_, rfl, _, rfl, .ref bd, .ref bd, .bl false, rfl, .inr ⟨bd, upI N, kf e7, .inr (.inr ⟨bd, List.range N, false, rfl, .inl (by rw [upI_nV]; exact e7 _ _ kb (fun ps z => by cases z)), by rw [upI_len], rfl, fun os H8 so s8 => ?_⟩)⟩⟩)
      obtain rfl := so.uniq (stab_up N)
      rw [decide_eq_true rfl]
      refine ⟨_, _, rfl, rfl, false, rfl, iteF ?_⟩
      have e8 := e7.trans (.of s8)
      have T8 := T7.ext s8
      refine st_next ?_
      dsimp only
      refine st_ret (st_op (told04 (v := .int (-1)) T8 (List.Mem.head _) (fun E Ha Q1 ea Ta rz => ?said) fun t9 H9 e9 T9 k9 => ⟨_, rfl, by show 2 ≤ sizeLine; decide, fun u hu => ?_⟩))
      case said =>
        have eA := e8.trans ea
        refine ⟨_, rfl, by show 1 ≤ sizeLine; decide, fun l hl => ⟨bd, l, _, _, rfl, rfl, L2.sq_of ((same_upd hl) _ _ (eA _ _ kb (fun ps z => by cases z))), L2.sq_of upd_same, ?_, fun c hc => ?_⟩⟩
        · rw [List.length_map, upI_len, hN]
          show 2000 + 1 ≤ sizeLine
          decide
        · refine ⟨.ref c, .bl false, rfl, .inl ⟨-1, .len rfl (.inl upd_same) ?_, (rz.same (same_upd hl)).same (same_upd hc)⟩⟩
          rw [List.length_append, List.length_map, upI_len, hN]
          show ¬ (_ ∧ ((2000 + 1 : Nat) : Int) ≤ 2000)
          omega
      refine ⟨_, _, dp_word ((same_upd hu) _ _ k9) (.int (-1)), dp_word (t := u) upd_same (.int (-1)), shaped_word (by decide +kernel) (.int (-1)), shaped_word (by decide +kernel) (.int (-1)), ?_⟩
      have ew : PyData.eqv (pdW "keys" (.int (-1))) (pdW "keys" (.int (-1))) = true := by
        have h := ne_word (w := "keys") (v := .int (-1)) (x := .int (-1)) (by decide +kernel) (.int (-1))
        injection h with h
        cases z : PyData.eqv (pdW "keys" (.int (-1))) (pdW "keys" (.int (-1))) with
        | true => rfl
        | false => rw [z] at h; cases h
      rw [ew]
      exact q _
end

end K04

namespace K04
open PySem PySem.Spec PyProof.Rows L2
theorem all_mk {l : PySem.W.OpenLaw} {w : World} {K : PySem.W.Frag} {h : Heap} {mg : Str → Option Value} {fa f0 f1 f2 f3 f4 f5 f6 f7 f8 f9 f10 f11 f12 f13 f14 f15 f16 f17 f18 f19 f20 f21 f22 f23 D13 D14 C_InvalidKeys C_InvalidQuestion C_InvalidOrder C_InvalidNumber C_SortError : Addr} {lc_law lp_law : Addr} (X : K.In h) (G : h.Ns mainGlobals mg) (hfa : mg "law" = some (.ref fa)) (tb_law : h.get? lp_law = some (PySem.W.tabObj #[]))
    {nm_InvalidKeys q_InvalidKeys : Str} {N_InvalidKeys : Addr} {bs_InvalidKeys : List Value} {sn_InvalidKeys : List Str} {sub_InvalidKeys : List Value} {ab_InvalidKeys : Bool} {col_InvalidKeys : Option Bool} {dd_InvalidKeys : Option Addr} {m0_InvalidKeys m1_InvalidKeys m2_InvalidKeys m3_InvalidKeys m5_InvalidKeys : Option Value}
    {nm_InvalidQuestion q_InvalidQuestion : Str} {N_InvalidQuestion : Addr} {bs_InvalidQuestion : List Value} {sn_InvalidQuestion : List Str} {sub_InvalidQuestion : List Value} {ab_InvalidQuestion : Bool} {col_InvalidQuestion : Option Bool} {dd_InvalidQuestion : Option Addr} {m0_InvalidQuestion m1_InvalidQuestion m2_InvalidQuestion m3_InvalidQuestion m5_InvalidQuestion : Option Value}
    {nm_InvalidOrder q_InvalidOrder : Str} {N_InvalidOrder : Addr} {bs_InvalidOrder : List Value} {sn_InvalidOrder : List Str} {sub_InvalidOrder : List Value} {ab_InvalidOrder : Bool} {col_InvalidOrder : Option Bool} {dd_InvalidOrder : Option Addr} {m0_InvalidOrder m1_InvalidOrder m2_InvalidOrder m3_InvalidOrder m5_InvalidOrder : Option Value}
    {nm_InvalidNumber q_InvalidNumber : Str} {N_InvalidNumber : Addr} {bs_InvalidNumber : List Value} {sn_InvalidNumber : List Str} {sub_InvalidNumber : List Value} {ab_InvalidNumber : Bool} {col_InvalidNumber : Option Bool} {dd_InvalidNumber : Option Addr} {m0_InvalidNumber m1_InvalidNumber m2_InvalidNumber m3_InvalidNumber m5_InvalidNumber : Option Value}
    {od0 an0 od1 an1 od2 an2 od3 an3 od4 an4 od5 an5 od6 an6 od7 an7 od8 an8 od9 an9 od10 an10 od11 an11 od12 an12 od13 an13 od14 an14 od15 an15 od16 an16 od17 an17 od18 an18 od19 an19 od20 an20 od21 an21 od22 an22 od23 an23 : Option Addr} {sl0 sl1 sl2 sl3 sl4 sl5 sl6 sl7 sl8 sl9 sl10 sl11 sl12 sl13 sl14 sl15 sl16 sl17 sl18 sl19 sl20 sl21 sl22 sl23 : Array (Option Value)} {oc0 kV0 dc0 pm0 cd0 ct0 oc1 kV1 dc1 pm1 cd1 ct1 oc2 kV2 dc2 pm2 cd2 ct2 oc3 kV3 dc3 pm3 cd3 ct3 oc4 kV4 dc4 pm4 cd4 ct4 oc5 kV5 dc5 pm5 cd5 ct5 oc6 kV6 dc6 pm6 cd6 ct6 oc7 kV7 dc7 pm7 cd7 ct7 oc8 kV8 dc8 pm8 cd8 ct8 oc9 kV9 dc9 pm9 cd9 ct9 oc10 kV10 dc10 pm10 cd10 ct10 oc11 kV11 dc11 pm11 cd11 ct11 oc12 kV12 dc12 pm12 cd12 ct12 oc13 dc13 pm13 cd13 ct13 oc14 dc14 pm14 cd14 ct14 oc15 kV15 dc15 pm15 cd15 ct15 oc16 kV16 dc16 pm16 cd16 ct16 oc17 kV17 dc17 pm17 cd17 ct17 oc18 kV18 dc18 pm18 cd18 ct18 oc19 kV19 dc19 pm19 cd19 ct19 oc20 kV20 dc20 pm20 cd20 ct20 oc21 kV21 dc21 pm21 cd21 ct21 oc22 kV22 dc22 pm22 cd22 ct22 oc23 kV23 dc23 pm23 cd23 ct23 : Value}
    {T7 : Addr} {odT7 : Option Addr} {oT7 : Value} {nT7 : Nat} {slT7 : Array (Option Value)} {uT7_0 : Tok} {uT7_1 : Tok}
    (l0 : K.lookup f0 = some ⟨oc0, od0, .func (PySem.W.fnOf "__init__" "InvalidKeys.__init__" (defArgs s_InvalidKeys___init__) (defBody s_InvalidKeys___init__) (defScope s_InvalidKeys___init__) .none kV0 dc0 pm0 an0 cd0 ct0), sl0⟩) (c0 : PySem.W.codeIn K cd0 "InvalidKeys.__init__" = true) (k0 : PySem.W.keepIn K (.ref f0) = true)
    (l1 : K.lookup f1 = some ⟨oc1, od1, .func (PySem.W.fnOf "__init__" "InvalidQuestion.__init__" (defArgs s_InvalidQuestion___init__) (defBody s_InvalidQuestion___init__) (defScope s_InvalidQuestion___init__) .none kV1 dc1 pm1 an1 cd1 ct1), sl1⟩) (c1 : PySem.W.codeIn K cd1 "InvalidQuestion.__init__" = true) (k1 : PySem.W.keepIn K (.ref f1) = true)
    (l2 : K.lookup f2 = some ⟨oc2, od2, .func (PySem.W.fnOf "__init__" "InvalidOrder.__init__" (defArgs s_InvalidOrder___init__) (defBody s_InvalidOrder___init__) (defScope s_InvalidOrder___init__) .none kV2 dc2 pm2 an2 cd2 ct2), sl2⟩) (c2 : PySem.W.codeIn K cd2 "InvalidOrder.__init__" = true) (k2 : PySem.W.keepIn K (.ref f2) = true)
    (l3 : K.lookup f3 = some ⟨oc3, od3, .func (PySem.W.fnOf "__init__" "InvalidNumber.__init__" (defArgs s_InvalidNumber___init__) (defBody s_InvalidNumber___init__) (defScope s_InvalidNumber___init__) .none kV3 dc3 pm3 an3 cd3 ct3), sl3⟩) (c3 : PySem.W.codeIn K cd3 "InvalidNumber.__init__" = true) (k3 : PySem.W.keepIn K (.ref f3) = true)
    (a4 : PySem.W.nsIn K mainGlobals "is_integer" = some (some (.ref f4))) (l4 : K.lookup f4 = some ⟨oc4, od4, .func (PySem.W.fnOf "is_integer" "is_integer" (defArgs s_is_integer) (defBody s_is_integer) (defScope s_is_integer) .none kV4 dc4 pm4 an4 cd4 ct4), sl4⟩) (c4 : PySem.W.codeIn K cd4 "is_integer" = true) (k4 : PySem.W.keepIn K (.ref f4) = true)
    (a5 : PySem.W.nsIn K mainGlobals "is_within" = some (some (.ref f5))) (l5 : K.lookup f5 = some ⟨oc5, od5, .func (PySem.W.fnOf "is_within" "is_within" (defArgs s_is_within) (defBody s_is_within) (defScope s_is_within) .none kV5 dc5 pm5 an5 cd5 ct5), sl5⟩) (c5 : PySem.W.codeIn K cd5 "is_within" = true) (k5 : PySem.W.keepIn K (.ref f5) = true)
    (a6 : PySem.W.nsIn K mainGlobals "is_item" = some (some (.ref f6))) (l6 : K.lookup f6 = some ⟨oc6, od6, .func (PySem.W.fnOf "is_item" "is_item" (defArgs s_is_item) (defBody s_is_item) (defScope s_is_item) .none kV6 dc6 pm6 an6 cd6 ct6), sl6⟩) (c6 : PySem.W.codeIn K cd6 "is_item" = true) (k6 : PySem.W.keepIn K (.ref f6) = true)
    (a7 : PySem.W.nsIn K mainGlobals "check_keys" = some (some (.ref f7))) (l7 : K.lookup f7 = some ⟨oc7, od7, .func (PySem.W.fnOf "check_keys" "check_keys" (defArgs s_check_keys) (defBody s_check_keys) (defScope s_check_keys) (.ref T7) kV7 dc7 pm7 an7 cd7 ct7), sl7⟩) (c7 : PySem.W.codeIn K cd7 "check_keys" = true) (k7 : PySem.W.keepIn K (.ref f7) = true)
    (t7 : K.lookup T7 = some ⟨oT7, odT7, .seq #[.int 0 uT7_0, .int 2000 uT7_1] nT7, slT7⟩)
    (a8 : PySem.W.nsIn K mainGlobals "is_question" = some (some (.ref f8))) (l8 : K.lookup f8 = some ⟨oc8, od8, .func (PySem.W.fnOf "is_question" "is_question" (defArgs s_is_question) (defBody s_is_question) (defScope s_is_question) .none kV8 dc8 pm8 an8 cd8 ct8), sl8⟩) (c8 : PySem.W.codeIn K cd8 "is_question" = true) (k8 : PySem.W.keepIn K (.ref f8) = true)
    (a9 : PySem.W.nsIn K mainGlobals "check_question" = some (some (.ref f9))) (l9 : K.lookup f9 = some ⟨oc9, od9, .func (PySem.W.fnOf "check_question" "check_question" (defArgs s_check_question) (defBody s_check_question) (defScope s_check_question) .none kV9 dc9 pm9 an9 cd9 ct9), sl9⟩) (c9 : PySem.W.codeIn K cd9 "check_question" = true) (k9 : PySem.W.keepIn K (.ref f9) = true)
    (a10 : PySem.W.nsIn K mainGlobals "check_order" = some (some (.ref f10))) (l10 : K.lookup f10 = some ⟨oc10, od10, .func (PySem.W.fnOf "check_order" "check_order" (defArgs s_check_order) (defBody s_check_order) (defScope s_check_order) .none kV10 dc10 pm10 an10 cd10 ct10), sl10⟩) (c10 : PySem.W.codeIn K cd10 "check_order" = true) (k10 : PySem.W.keepIn K (.ref f10) = true)
    (a11 : PySem.W.nsIn K mainGlobals "check_bool" = some (some (.ref f11))) (l11 : K.lookup f11 = some ⟨oc11, od11, .func (PySem.W.fnOf "check_bool" "check_bool" (defArgs s_check_bool) (defBody s_check_bool) (defScope s_check_bool) .none kV11 dc11 pm11 an11 cd11 ct11), sl11⟩) (c11 : PySem.W.codeIn K cd11 "check_bool" = true) (k11 : PySem.W.keepIn K (.ref f11) = true)
    (a12 : PySem.W.nsIn K mainGlobals "honest" = some (some (.ref f12))) (l12 : K.lookup f12 = some ⟨oc12, od12, .func (PySem.W.fnOf "honest" "honest" (defArgs s_honest) (defBody s_honest) (defScope s_honest) .none kV12 dc12 pm12 an12 cd12 ct12), sl12⟩) (c12 : PySem.W.codeIn K cd12 "honest" = true) (k12 : PySem.W.keepIn K (.ref f12) = true)
    (a13 : PySem.W.nsIn K mainGlobals "stable_order" = some (some (.ref f13))) (l13 : K.lookup f13 = some ⟨oc13, od13, .func (PySem.W.fnOf "stable_order" "stable_order" (defArgs s_stable_order) (defBody s_stable_order) (defScope s_stable_order) .none (.ref D13) dc13 pm13 an13 cd13 ct13), sl13⟩) (c13 : PySem.W.codeIn K cd13 "stable_order" = true) (k13 : PySem.W.keepIn K (.ref f13) = true)
    (n13_reverse : PySem.W.nsIn K D13 "reverse" = some (some (.bool false)))
    (a14 : PySem.W.nsIn K mainGlobals "is_order" = some (some (.ref f14))) (l14 : K.lookup f14 = some ⟨oc14, od14, .func (PySem.W.fnOf "is_order" "is_order" (defArgs s_is_order) (defBody s_is_order) (defScope s_is_order) .none (.ref D14) dc14 pm14 an14 cd14 ct14), sl14⟩) (c14 : PySem.W.codeIn K cd14 "is_order" = true) (k14 : PySem.W.keepIn K (.ref f14) = true)
    (n14_reverse : PySem.W.nsIn K D14 "reverse" = some (some (.bool false)))
    (a15 : PySem.W.nsIn K mainGlobals "_stable" = some (some (.ref f15))) (l15 : K.lookup f15 = some ⟨oc15, od15, .func (PySem.W.fnOf "_stable" "_stable" (defArgs s_stable) (defBody s_stable) (defScope s_stable) .none kV15 dc15 pm15 an15 cd15 ct15), sl15⟩) (c15 : PySem.W.codeIn K cd15 "_stable" = true) (k15 : PySem.W.keepIn K (.ref f15) = true)
    (a16 : PySem.W.nsIn K mainGlobals "_law_mixed" = some (some (.ref f16))) (l16 : K.lookup f16 = some ⟨oc16, od16, .func (PySem.W.fnOf "_law_mixed" "_law_mixed" (defArgs s_mixed) (defBody s_mixed) (defScope s_mixed) .none kV16 dc16 pm16 an16 cd16 ct16), sl16⟩) (c16 : PySem.W.codeIn K cd16 "_law_mixed" = true) (k16 : PySem.W.keepIn K (.ref f16) = true)
    (a17 : PySem.W.nsIn K mainGlobals "_law_source" = some (some (.ref f17))) (l17 : K.lookup f17 = some ⟨oc17, od17, .func (PySem.W.fnOf "_law_source" "_law_source" (defArgs s_source) (defBody s_source) (defScope s_source) .none kV17 dc17 pm17 an17 cd17 ct17), sl17⟩) (c17 : PySem.W.codeIn K cd17 "_law_source" = true) (k17 : PySem.W.keepIn K (.ref f17) = true)
    (a18 : PySem.W.nsIn K mainGlobals "_law_take" = some (some (.ref f18))) (l18 : K.lookup f18 = some ⟨oc18, od18, .func (PySem.W.fnOf "_law_take" "_law_take" (defArgs s_take) (defBody s_take) (defScope s_take) .none kV18 dc18 pm18 an18 cd18 ct18), sl18⟩) (c18 : PySem.W.codeIn K cd18 "_law_take" = true) (k18 : PySem.W.keepIn K (.ref f18) = true)
    (a19 : PySem.W.nsIn K mainGlobals "_law_pick" = some (some (.ref f19))) (l19 : K.lookup f19 = some ⟨oc19, od19, .func (PySem.W.fnOf "_law_pick" "_law_pick" (defArgs s_pick) (defBody s_pick) (defScope s_pick) .none kV19 dc19 pm19 an19 cd19 ct19), sl19⟩) (c19 : PySem.W.codeIn K cd19 "_law_pick" = true) (k19 : PySem.W.keepIn K (.ref f19) = true)
    (a20 : PySem.W.nsIn K mainGlobals "_law_said" = some (some (.ref f20))) (l20 : K.lookup f20 = some ⟨oc20, od20, .func (PySem.W.fnOf "_law_said" "_law_said" (defArgs s_said) (defBody s_said) (defScope s_said) .none kV20 dc20 pm20 an20 cd20 ct20), sl20⟩) (c20 : PySem.W.codeIn K cd20 "_law_said" = true) (k20 : PySem.W.keepIn K (.ref f20) = true)
    (a21 : PySem.W.nsIn K mainGlobals "_law_bad_keys" = some (some (.ref f21))) (l21 : K.lookup f21 = some ⟨oc21, od21, .func (PySem.W.fnOf "_law_bad_keys" "_law_bad_keys" (defArgs s_bad_keys) (defBody s_bad_keys) (defScope s_bad_keys) .none kV21 dc21 pm21 an21 cd21 ct21), sl21⟩) (c21 : PySem.W.codeIn K cd21 "_law_bad_keys" = true) (k21 : PySem.W.keepIn K (.ref f21) = true)
    (a22 : PySem.W.nsIn K mainGlobals "_law_bad_order" = some (some (.ref f22))) (l22 : K.lookup f22 = some ⟨oc22, od22, .func (PySem.W.fnOf "_law_bad_order" "_law_bad_order" (defArgs s_bad_order) (defBody s_bad_order) (defScope s_bad_order) .none kV22 dc22 pm22 an22 cd22 ct22), sl22⟩) (c22 : PySem.W.codeIn K cd22 "_law_bad_order" = true) (k22 : PySem.W.keepIn K (.ref f22) = true)
    (a23 : PySem.W.nsIn K mainGlobals "law" = some (some (.ref f23))) (l23 : K.lookup f23 = some ⟨oc23, od23, .func (PySem.W.fnOf "law" "law" (defArgs s_law) (defBody s_law) (defScope s_law) .none kV23 dc23 pm23 an23 cd23 ct23), sl23⟩) (c23 : PySem.W.codeIn K cd23 "law" = true) (k23 : PySem.W.keepIn K (.ref f23) = true)
    (z_abs : PySem.W.nsIn K mainGlobals "abs" = some none)
    (z_bool : PySem.W.nsIn K mainGlobals "bool" = some none)
    (z_enumerate : PySem.W.nsIn K mainGlobals "enumerate" = some none)
    (z_int : PySem.W.nsIn K mainGlobals "int" = some none)
    (z_isinstance : PySem.W.nsIn K mainGlobals "isinstance" = some none)
    (z_len : PySem.W.nsIn K mainGlobals "len" = some none)
    (z_list : PySem.W.nsIn K mainGlobals "list" = some none)
    (z_range : PySem.W.nsIn K mainGlobals "range" = some none)
    (z_repr : PySem.W.nsIn K mainGlobals "repr" = some none)
    (z_sorted : PySem.W.nsIn K mainGlobals "sorted" = some none)
    (z_tuple : PySem.W.nsIn K mainGlobals "tuple" = some none)
    (aX_InvalidKeys : PySem.W.nsIn K mainGlobals "InvalidKeys" = some (some (.ref C_InvalidKeys)))
    (ii_InvalidKeys : PySem.W.findIn K (.ref C_InvalidKeys) "__init__" = some (some (.ref f0)))
    (xL_InvalidKeys : K.lookup C_InvalidKeys = some (excClassObj nm_InvalidKeys q_InvalidKeys C_InvalidKeys N_InvalidKeys bs_InvalidKeys [.ref C_SortError, .type "ValueError", .type "Exception", .type "BaseException", .type "object"] true sn_InvalidKeys sub_InvalidKeys ab_InvalidKeys col_InvalidKeys dd_InvalidKeys m0_InvalidKeys m1_InvalidKeys m2_InvalidKeys m3_InvalidKeys m5_InvalidKeys "ValueError.__new__"))
    (sx_InvalidKeys : PySem.W.findIn K (.ref C_InvalidKeys) "__setattr__" = some (some (.builtin "object.__setattr__")))
    (gx_InvalidKeys : PySem.W.findIn K (.ref C_InvalidKeys) "__getattribute__" = some (some (.builtin "BaseException.__getattribute__")))
    (ggx_InvalidKeys : PySem.W.findIn K (.ref C_InvalidKeys) "__getattr__" = some none)
    (nx_InvalidKeys : PySem.W.findIn K (.ref C_InvalidKeys) "index" = some none)
    (tx_InvalidKeys : PySem.W.typeIn K (.ref f0) = some (.type "function"))
    (kx_InvalidKeys : PySem.W.keepIn K (.ref C_InvalidKeys) = true)
    (ex_InvalidKeys : PySem.W.subIn K (.ref C_InvalidKeys) (.type "BaseException") = some true)
    (tyx_InvalidKeys : PySem.W.typeIn K (.ref C_InvalidKeys) = some (.type "type"))
    (hx_InvalidKeys : PySem.W.hasDictIn K C_InvalidKeys = true)
    (icx_InvalidKeys : PySem.W.isClsIn K C_InvalidKeys = true)
    (scx_InvalidKeys : PySem.W.subIn K (.ref C_InvalidKeys) (.ref C_InvalidKeys) = some true)
    (aX_InvalidQuestion : PySem.W.nsIn K mainGlobals "InvalidQuestion" = some (some (.ref C_InvalidQuestion)))
    (ii_InvalidQuestion : PySem.W.findIn K (.ref C_InvalidQuestion) "__init__" = some (some (.ref f1)))
    (xL_InvalidQuestion : K.lookup C_InvalidQuestion = some (excClassObj nm_InvalidQuestion q_InvalidQuestion C_InvalidQuestion N_InvalidQuestion bs_InvalidQuestion [.ref C_SortError, .type "ValueError", .type "Exception", .type "BaseException", .type "object"] true sn_InvalidQuestion sub_InvalidQuestion ab_InvalidQuestion col_InvalidQuestion dd_InvalidQuestion m0_InvalidQuestion m1_InvalidQuestion m2_InvalidQuestion m3_InvalidQuestion m5_InvalidQuestion "ValueError.__new__"))
    (sx_InvalidQuestion : PySem.W.findIn K (.ref C_InvalidQuestion) "__setattr__" = some (some (.builtin "object.__setattr__")))
    (gx_InvalidQuestion : PySem.W.findIn K (.ref C_InvalidQuestion) "__getattribute__" = some (some (.builtin "BaseException.__getattribute__")))
    (ggx_InvalidQuestion : PySem.W.findIn K (.ref C_InvalidQuestion) "__getattr__" = some none)
    (nx_InvalidQuestion : PySem.W.findIn K (.ref C_InvalidQuestion) "question" = some none)
    (tx_InvalidQuestion : PySem.W.typeIn K (.ref f1) = some (.type "function"))
    (kx_InvalidQuestion : PySem.W.keepIn K (.ref C_InvalidQuestion) = true)
    (ex_InvalidQuestion : PySem.W.subIn K (.ref C_InvalidQuestion) (.type "BaseException") = some true)
    (tyx_InvalidQuestion : PySem.W.typeIn K (.ref C_InvalidQuestion) = some (.type "type"))
    (hx_InvalidQuestion : PySem.W.hasDictIn K C_InvalidQuestion = true)
    (icx_InvalidQuestion : PySem.W.isClsIn K C_InvalidQuestion = true)
    (scx_InvalidQuestion : PySem.W.subIn K (.ref C_InvalidQuestion) (.ref C_InvalidQuestion) = some true)
    (aX_InvalidOrder : PySem.W.nsIn K mainGlobals "InvalidOrder" = some (some (.ref C_InvalidOrder)))
    (ii_InvalidOrder : PySem.W.findIn K (.ref C_InvalidOrder) "__init__" = some (some (.ref f2)))
    (xL_InvalidOrder : K.lookup C_InvalidOrder = some (excClassObj nm_InvalidOrder q_InvalidOrder C_InvalidOrder N_InvalidOrder bs_InvalidOrder [.ref C_SortError, .type "ValueError", .type "Exception", .type "BaseException", .type "object"] true sn_InvalidOrder sub_InvalidOrder ab_InvalidOrder col_InvalidOrder dd_InvalidOrder m0_InvalidOrder m1_InvalidOrder m2_InvalidOrder m3_InvalidOrder m5_InvalidOrder "ValueError.__new__"))
    (sx_InvalidOrder : PySem.W.findIn K (.ref C_InvalidOrder) "__setattr__" = some (some (.builtin "object.__setattr__")))
    (gx_InvalidOrder : PySem.W.findIn K (.ref C_InvalidOrder) "__getattribute__" = some (some (.builtin "BaseException.__getattribute__")))
    (ggx_InvalidOrder : PySem.W.findIn K (.ref C_InvalidOrder) "__getattr__" = some none)
    (nx_InvalidOrder : PySem.W.findIn K (.ref C_InvalidOrder) "index" = some none)
    (tx_InvalidOrder : PySem.W.typeIn K (.ref f2) = some (.type "function"))
    (kx_InvalidOrder : PySem.W.keepIn K (.ref C_InvalidOrder) = true)
    (ex_InvalidOrder : PySem.W.subIn K (.ref C_InvalidOrder) (.type "BaseException") = some true)
    (tyx_InvalidOrder : PySem.W.typeIn K (.ref C_InvalidOrder) = some (.type "type"))
    (hx_InvalidOrder : PySem.W.hasDictIn K C_InvalidOrder = true)
    (icx_InvalidOrder : PySem.W.isClsIn K C_InvalidOrder = true)
    (scx_InvalidOrder : PySem.W.subIn K (.ref C_InvalidOrder) (.ref C_InvalidOrder) = some true)
    (aX_InvalidNumber : PySem.W.nsIn K mainGlobals "InvalidNumber" = some (some (.ref C_InvalidNumber)))
    (ii_InvalidNumber : PySem.W.findIn K (.ref C_InvalidNumber) "__init__" = some (some (.ref f3)))
    (xL_InvalidNumber : K.lookup C_InvalidNumber = some (excClassObj nm_InvalidNumber q_InvalidNumber C_InvalidNumber N_InvalidNumber bs_InvalidNumber [.ref C_SortError, .type "ValueError", .type "Exception", .type "BaseException", .type "object"] true sn_InvalidNumber sub_InvalidNumber ab_InvalidNumber col_InvalidNumber dd_InvalidNumber m0_InvalidNumber m1_InvalidNumber m2_InvalidNumber m3_InvalidNumber m5_InvalidNumber "ValueError.__new__"))
    (sx_InvalidNumber : PySem.W.findIn K (.ref C_InvalidNumber) "__setattr__" = some (some (.builtin "object.__setattr__")))
    (gx_InvalidNumber : PySem.W.findIn K (.ref C_InvalidNumber) "__getattribute__" = some (some (.builtin "BaseException.__getattribute__")))
    (ggx_InvalidNumber : PySem.W.findIn K (.ref C_InvalidNumber) "__getattr__" = some none)
    (nx_InvalidNumber : PySem.W.findIn K (.ref C_InvalidNumber) "name" = some none)
    (tx_InvalidNumber : PySem.W.typeIn K (.ref f3) = some (.type "function"))
    (kx_InvalidNumber : PySem.W.keepIn K (.ref C_InvalidNumber) = true)
    (ex_InvalidNumber : PySem.W.subIn K (.ref C_InvalidNumber) (.type "BaseException") = some true)
    (tyx_InvalidNumber : PySem.W.typeIn K (.ref C_InvalidNumber) = some (.type "type"))
    (hx_InvalidNumber : PySem.W.hasDictIn K C_InvalidNumber = true)
    (icx_InvalidNumber : PySem.W.isClsIn K C_InvalidNumber = true)
    (scx_InvalidNumber : PySem.W.subIn K (.ref C_InvalidNumber) (.ref C_InvalidNumber) = some true)
    (aX_SortError : PySem.W.nsIn K mainGlobals "SortError" = some (some (.ref C_SortError)))
    (r1x_SortError : PySem.W.readsIn K C_SortError (.type "type") = true)
    (r2x_SortError : PySem.W.specialIn K (.ref C_SortError) "__getattribute__" = some (some (.builtin "type.__getattribute__")))
    (vix_SortError : PySem.W.findCls K (.ref C_SortError) (.type "type") "__init__" = some (.val (.builtin "ValueError.__init__")))
    (ex_SortError : PySem.W.subIn K (.ref C_SortError) (.type "BaseException") = some true)
    (tyx_SortError : PySem.W.typeIn K (.ref C_SortError) = some (.type "type"))
    (icx_SortError : PySem.W.isClsIn K C_SortError = true)
    (scx_SortError : PySem.W.subIn K (.ref C_SortError) (.ref C_SortError) = some true)
    (su_InvalidKeys_InvalidQuestion : PySem.W.subIn K (.ref C_InvalidKeys) (.ref C_InvalidQuestion) = some false)
    (su_InvalidKeys_InvalidOrder : PySem.W.subIn K (.ref C_InvalidKeys) (.ref C_InvalidOrder) = some false)
    (su_InvalidKeys_InvalidNumber : PySem.W.subIn K (.ref C_InvalidKeys) (.ref C_InvalidNumber) = some false)
    (su_InvalidKeys_SortError : PySem.W.subIn K (.ref C_InvalidKeys) (.ref C_SortError) = some true)
    (su_InvalidQuestion_InvalidKeys : PySem.W.subIn K (.ref C_InvalidQuestion) (.ref C_InvalidKeys) = some false)
    (su_InvalidQuestion_InvalidOrder : PySem.W.subIn K (.ref C_InvalidQuestion) (.ref C_InvalidOrder) = some false)
    (su_InvalidQuestion_InvalidNumber : PySem.W.subIn K (.ref C_InvalidQuestion) (.ref C_InvalidNumber) = some false)
    (su_InvalidQuestion_SortError : PySem.W.subIn K (.ref C_InvalidQuestion) (.ref C_SortError) = some true)
    (su_InvalidOrder_InvalidKeys : PySem.W.subIn K (.ref C_InvalidOrder) (.ref C_InvalidKeys) = some false)
    (su_InvalidOrder_InvalidQuestion : PySem.W.subIn K (.ref C_InvalidOrder) (.ref C_InvalidQuestion) = some false)
    (su_InvalidOrder_InvalidNumber : PySem.W.subIn K (.ref C_InvalidOrder) (.ref C_InvalidNumber) = some false)
    (su_InvalidOrder_SortError : PySem.W.subIn K (.ref C_InvalidOrder) (.ref C_SortError) = some true)
    (su_InvalidNumber_InvalidKeys : PySem.W.subIn K (.ref C_InvalidNumber) (.ref C_InvalidKeys) = some false)
    (su_InvalidNumber_InvalidQuestion : PySem.W.subIn K (.ref C_InvalidNumber) (.ref C_InvalidQuestion) = some false)
    (su_InvalidNumber_InvalidOrder : PySem.W.subIn K (.ref C_InvalidNumber) (.ref C_InvalidOrder) = some false)
    (su_InvalidNumber_SortError : PySem.W.subIn K (.ref C_InvalidNumber) (.ref C_SortError) = some true)
    (dcx_InvalidKeys : PySem.W.findIn K (.ref C_InvalidKeys) "__class__" = some (some (.builtin "object.__class__")))
    (dmx_InvalidKeys : PySem.W.mroIn K C_InvalidKeys (.type "object") = some true)
    (dcx_InvalidQuestion : PySem.W.findIn K (.ref C_InvalidQuestion) "__class__" = some (some (.builtin "object.__class__")))
    (dmx_InvalidQuestion : PySem.W.mroIn K C_InvalidQuestion (.type "object") = some true)
    (dcx_InvalidOrder : PySem.W.findIn K (.ref C_InvalidOrder) "__class__" = some (some (.builtin "object.__class__")))
    (dmx_InvalidOrder : PySem.W.mroIn K C_InvalidOrder (.type "object") = some true)
    (dcx_InvalidNumber : PySem.W.findIn K (.ref C_InvalidNumber) "__class__" = some (some (.builtin "object.__class__")))
    (dmx_InvalidNumber : PySem.W.mroIn K C_InvalidNumber (.type "object") = some true)
    (dnx : PySem.W.specialIn K (.builtin "object.__class__") "__get__" = some (some (.builtin "getset_descriptor.__get__"))) (dtx : PySem.W.takesIn K (.builtin "object.__class__") = some true)
    (le_law : cd23 = .ref lc_law) (lh_law : PySem.W.codeHdIn K lc_law lp_law = true) (ln_law : K.lookup lp_law = none)
    : L2.LawAtG l w K CX0 13 63 "script" mg fa h := by
  have e : fa = f23 := by
    have e := hfa.symm.trans (PySem.W.mg_of X G a23)
    cases e
    rfl
  have F0 := fun_mk (st := s_InvalidKeys___init__) l0 c0 k0
  have B0 := F0.binds (ps := P_InvalidKeys___init__) fun _ _ _ _ _ _ us hl => match us, hl with | [_, _], _ => rfl
  have F1 := fun_mk (st := s_InvalidQuestion___init__) l1 c1 k1
  have B1 := F1.binds (ps := P_InvalidQuestion___init__) fun _ _ _ _ _ _ us hl => match us, hl with | [_, _], _ => rfl
  have F2 := fun_mk (st := s_InvalidOrder___init__) l2 c2 k2
  have B2 := F2.binds (ps := P_InvalidOrder___init__) fun _ _ _ _ _ _ us hl => match us, hl with | [_, _], _ => rfl
  have F3 := fun_mk (st := s_InvalidNumber___init__) l3 c3 k3
  have B3 := F3.binds (ps := P_InvalidNumber___init__) fun _ _ _ _ _ _ us hl => match us, hl with | [_, _], _ => rfl
  have F4 := fun_mk (st := s_is_integer) l4 c4 k4
  have B4 := F4.binds (ps := P_is_integer) fun _ _ _ _ _ _ us hl => match us, hl with | [_], _ => rfl
  have F5 := fun_mk (st := s_is_within) l5 c5 k5
  have B5 := F5.binds (ps := P_is_within) fun _ _ _ _ _ _ us hl => match us, hl with | [_, _, _], _ => rfl
  have F6 := fun_mk (st := s_is_item) l6 c6 k6
  have B6 := F6.binds (ps := P_is_item) fun _ _ _ _ _ _ us hl => match us, hl with | [_, _], _ => rfl
  have F7 := funV_mk (st := s_check_keys) l7 c7
  have B7_0 := bindsV (st := s_check_keys) (dvs := [.int 0, .int 2000]) (its := [.int 0 uT7_0, .int 2000 uT7_1]) (ps := P_check_keys) l7 c7 k7 t7 (.cons ⟨_, rfl⟩ (.cons ⟨_, rfl⟩ .nil)) 3 2 (List.cons_ne_nil _ _) rfl fun _ _ _ _ _ _ _ us its h1 h2 => match us, its, h1, h2 with | [_, _, _], [_, _], _, _ => ⟨_, rfl, rfl⟩
  have B7_2 := bindsV (st := s_check_keys) (dvs := [.int 0, .int 2000]) (its := [.int 0 uT7_0, .int 2000 uT7_1]) (ps := P_check_keys) l7 c7 k7 t7 (.cons ⟨_, rfl⟩ (.cons ⟨_, rfl⟩ .nil)) 1 0 (List.cons_ne_nil _ _) rfl fun _ _ _ _ _ _ _ us its h1 h2 => match us, its, h1, h2 with | [_], [_, _], _, _ => ⟨_, rfl, rfl⟩
  obtain ⟨ds7, rds7, bds7⟩ := B7_0
  have F8 := fun_mk (st := s_is_question) l8 c8 k8
  have B8 := F8.binds (ps := P_is_question) fun _ _ _ _ _ _ us hl => match us, hl with | [_, _], _ => rfl
  have F9 := fun_mk (st := s_check_question) l9 c9 k9
  have B9 := F9.binds (ps := P_check_question) fun _ _ _ _ _ _ us hl => match us, hl with | [_, _], _ => rfl
  have F10 := fun_mk (st := s_check_order) l10 c10 k10
  have B10 := F10.binds (ps := P_check_order) fun _ _ _ _ _ _ us hl => match us, hl with | [_, _], _ => rfl
  have F11 := fun_mk (st := s_check_bool) l11 c11 k11
  have B11 := F11.binds (ps := P_check_bool) fun _ _ _ _ _ _ us hl => match us, hl with | [_, _], _ => rfl
  have F12 := fun_mk (st := s_honest) l12 c12 k12
  have B12 := F12.binds (ps := P_honest) fun _ _ _ _ _ _ us hl => match us, hl with | [_, _], _ => rfl
  have F13 := fun_mk (st := s_stable_order) l13 c13 k13
  have B13 := kwb_stable_order (D := D13) l13 c13 k13 n13_reverse
  have F14 := fun_mk (st := s_is_order) l14 c14 k14
  have B14 := kwb_is_order (D := D14) l14 c14 k14 n14_reverse
  have F15 := fun_mk (st := s_stable) l15 c15 k15
  have B15 := F15.binds (ps := P_stable) fun _ _ _ _ _ _ us hl => match us, hl with | [_, _], _ => rfl
  have F16 := fun_mk (st := s_mixed) l16 c16 k16
  have B16 := F16.binds (ps := P_mixed) fun _ _ _ _ _ _ us hl => match us, hl with | [_, _], _ => rfl
  have F17 := fun_mk (st := s_source) l17 c17 k17
  have B17 := F17.binds (ps := P_source) fun _ _ _ _ _ _ us hl => match us, hl with | [_], _ => rfl
  have F18 := fun_mk (st := s_take) l18 c18 k18
  have B18 := F18.binds (ps := P_take) fun _ _ _ _ _ _ us hl => match us, hl with | [_, _], _ => rfl
  have F19 := fun_mk (st := s_pick) l19 c19 k19
  have B19 := F19.binds (ps := P_pick) fun _ _ _ _ _ _ us hl => match us, hl with | [_, _], _ => rfl
  have F20 := fun_mk (st := s_said) l20 c20 k20
  have B20 := F20.binds (ps := P_said) fun _ _ _ _ _ _ us hl => match us, hl with | [_], _ => rfl
  have F21 := fun_mk (st := s_bad_keys) l21 c21 k21
  have B21 := F21.binds (ps := P_bad_keys) fun _ _ _ _ _ _ us hl => match us, hl with | [_, _], _ => rfl
  have F22 := fun_mk (st := s_bad_order) l22 c22 k22
  have B22 := F22.binds (ps := P_bad_order) fun _ _ _ _ _ _ us hl => match us, hl with | [_, _], _ => rfl
  have F23 := fun_mk (st := s_law) l23 c23 k23
  have B23 := F23.binds (ps := P_law) fun _ _ _ _ _ _ us hl => match us, hl with | [_], _ => rfl
  have T : Txt K mg ⟨lc_law, lp_law, f0, f1, f2, f3, f4, f5, f6, f7, f8, f9, f10, f11, f12, f13, f14, f15, f16, f17, f18, f19, f20, f21, f22, f23, C_InvalidKeys, C_InvalidQuestion, C_InvalidOrder, C_InvalidNumber, C_SortError⟩ ⟨_, _, _, _, _, _, _, _, _, _, _, _, _, _, _, _, _, _, _, _, _, _, _, _⟩ := ⟨F0, B0, F1, B1, F2, B2, F3, B3, PySem.W.mg_of X G a4, k4, F4, B4, PySem.W.mg_of X G a5, k5, F5, B5, PySem.W.mg_of X G a6, k6, F6, B6, PySem.W.mg_of X G a7, k7, F7, B7_2, Binds.none rds7 bds7, PySem.W.mg_of X G a8, k8, F8, B8, PySem.W.mg_of X G a9, k9, F9, B9, PySem.W.mg_of X G a10, k10, F10, B10, PySem.W.mg_of X G a11, k11, F11, B11, PySem.W.mg_of X G a12, k12, F12, B12, PySem.W.mg_of X G a13, k13, F13, B13, kbn_stable_order_1_reverse F13, PySem.W.mg_of X G a14, k14, F14, B14, kbn_is_order_2_reverse F14, PySem.W.mg_of X G a15, k15, F15, B15, PySem.W.mg_of X G a16, k16, F16, B16, PySem.W.mg_of X G a17, k17, F17, B17, PySem.W.mg_of X G a18, k18, F18, B18, PySem.W.mg_of X G a19, k19, F19, B19, PySem.W.mg_of X G a20, k20, F20, B20, PySem.W.mg_of X G a21, k21, F21, B21, PySem.W.mg_of X G a22, k22, F22, B22, PySem.W.mg_of X G a23, k23, F23, B23, le_law, PySem.W.mg_none_of X G z_abs, PySem.W.mg_none_of X G z_bool, PySem.W.mg_none_of X G z_enumerate, PySem.W.mg_none_of X G z_int, PySem.W.mg_none_of X G z_isinstance, PySem.W.mg_none_of X G z_len, PySem.W.mg_none_of X G z_list, PySem.W.mg_none_of X G z_range, PySem.W.mg_none_of X G z_repr, PySem.W.mg_none_of X G z_sorted, PySem.W.mg_none_of X G z_tuple, exC_mk X G aX_InvalidKeys xL_InvalidKeys sx_InvalidKeys gx_InvalidKeys ggx_InvalidKeys nx_InvalidKeys ii_InvalidKeys tx_InvalidKeys kx_InvalidKeys ex_InvalidKeys tyx_InvalidKeys hx_InvalidKeys icx_InvalidKeys scx_InvalidKeys, exC_mk X G aX_InvalidQuestion xL_InvalidQuestion sx_InvalidQuestion gx_InvalidQuestion ggx_InvalidQuestion nx_InvalidQuestion ii_InvalidQuestion tx_InvalidQuestion kx_InvalidQuestion ex_InvalidQuestion tyx_InvalidQuestion hx_InvalidQuestion icx_InvalidQuestion scx_InvalidQuestion, exC_mk X G aX_InvalidOrder xL_InvalidOrder sx_InvalidOrder gx_InvalidOrder ggx_InvalidOrder nx_InvalidOrder ii_InvalidOrder tx_InvalidOrder kx_InvalidOrder ex_InvalidOrder tyx_InvalidOrder hx_InvalidOrder icx_InvalidOrder scx_InvalidOrder, exC_mk X G aX_InvalidNumber xL_InvalidNumber sx_InvalidNumber gx_InvalidNumber ggx_InvalidNumber nx_InvalidNumber ii_InvalidNumber tx_InvalidNumber kx_InvalidNumber ex_InvalidNumber tyx_InvalidNumber hx_InvalidNumber icx_InvalidNumber scx_InvalidNumber, ⟨PySem.W.mg_of X G aX_SortError, r1x_SortError, r2x_SortError, vix_SortError⟩, exS_mk ex_InvalidKeys tyx_InvalidKeys icx_InvalidKeys scx_InvalidKeys scx_InvalidKeys, exS_mk ex_InvalidQuestion tyx_InvalidQuestion icx_InvalidQuestion scx_InvalidQuestion su_InvalidKeys_InvalidQuestion, exS_mk ex_InvalidOrder tyx_InvalidOrder icx_InvalidOrder scx_InvalidOrder su_InvalidKeys_InvalidOrder, exS_mk ex_InvalidNumber tyx_InvalidNumber icx_InvalidNumber scx_InvalidNumber su_InvalidKeys_InvalidNumber, exS_mk ex_SortError tyx_SortError icx_SortError scx_SortError su_InvalidKeys_SortError, exS_mk ex_InvalidKeys tyx_InvalidKeys icx_InvalidKeys scx_InvalidKeys su_InvalidQuestion_InvalidKeys, exS_mk ex_InvalidQuestion tyx_InvalidQuestion icx_InvalidQuestion scx_InvalidQuestion scx_InvalidQuestion, exS_mk ex_InvalidOrder tyx_InvalidOrder icx_InvalidOrder scx_InvalidOrder su_InvalidQuestion_InvalidOrder, exS_mk ex_InvalidNumber tyx_InvalidNumber icx_InvalidNumber scx_InvalidNumber su_InvalidQuestion_InvalidNumber, exS_mk ex_SortError tyx_SortError icx_SortError scx_SortError su_InvalidQuestion_SortError, exS_mk ex_InvalidKeys tyx_InvalidKeys icx_InvalidKeys scx_InvalidKeys su_InvalidOrder_InvalidKeys, exS_mk ex_InvalidQuestion tyx_InvalidQuestion icx_InvalidQuestion scx_InvalidQuestion su_InvalidOrder_InvalidQuestion, exS_mk ex_InvalidOrder tyx_InvalidOrder icx_InvalidOrder scx_InvalidOrder scx_InvalidOrder, exS_mk ex_InvalidNumber tyx_InvalidNumber icx_InvalidNumber scx_InvalidNumber su_InvalidOrder_InvalidNumber, exS_mk ex_SortError tyx_SortError icx_SortError scx_SortError su_InvalidOrder_SortError, exS_mk ex_InvalidKeys tyx_InvalidKeys icx_InvalidKeys scx_InvalidKeys su_InvalidNumber_InvalidKeys, exS_mk ex_InvalidQuestion tyx_InvalidQuestion icx_InvalidQuestion scx_InvalidQuestion su_InvalidNumber_InvalidQuestion, exS_mk ex_InvalidOrder tyx_InvalidOrder icx_InvalidOrder scx_InvalidOrder su_InvalidNumber_InvalidOrder, exS_mk ex_InvalidNumber tyx_InvalidNumber icx_InvalidNumber scx_InvalidNumber scx_InvalidNumber, exS_mk ex_SortError tyx_SortError icx_SortError scx_SortError su_InvalidNumber_SortError, ⟨gx_InvalidKeys, ggx_InvalidKeys, ex_InvalidKeys, hx_InvalidKeys, dcx_InvalidKeys, dnx, dtx, dmx_InvalidKeys⟩, ⟨gx_InvalidQuestion, ggx_InvalidQuestion, ex_InvalidQuestion, hx_InvalidQuestion, dcx_InvalidQuestion, dnx, dtx, dmx_InvalidQuestion⟩, ⟨gx_InvalidOrder, ggx_InvalidOrder, ex_InvalidOrder, hx_InvalidOrder, dcx_InvalidOrder, dnx, dtx, dmx_InvalidOrder⟩, ⟨gx_InvalidNumber, ggx_InvalidNumber, ex_InvalidNumber, hx_InvalidNumber, dcx_InvalidNumber, dnx, dtx, dmx_InvalidNumber⟩⟩
  exact ⟨_, [(lc_law, lp_law)], spLaw K [(lp_law, lq_law)], (fac ⟨tb_law, ln_law, PySem.W.codeHd_of_K X lh_law⟩ fan), fun s v => .of_eq rfl, fun H a ns hl ht hS => ⟨a, ns, rfl, hS, hl, (fac (LamX.TabS.nil (ht _ (List.Mem.head _))) fan), fun _ => rfl⟩, fun base _ _ TB => by rw [e]; exact ok_law T (TB _ (List.Mem.head _))⟩
end K04
open PySem PySem.W PyProof.Rows
set_option maxHeartbeats 0 in
theorem PySem.Challenge.cw_askedorder_k04_refused_keys_and_orders_holds : PySem.Challenge.rw_askedorder_k04_refused_keys_and_orders.Holds := by
  w_on; o_law; k_head; (case hw => w_witness2)
  k_fill
  refine L2.walkGT (l := PySem.Challenge.rw_askedorder_k04_refused_keys_and_orders) (n := 63) (k := 13) (x := "script") (CX := fun _ => L2.CX0) rfl (by decide) rfl ⟨rfl, by decide, by decide⟩ (fun w h Y => PySem.W.km_in_of Y) ?F (fun _ _ _ _ _ h => h)
  case F =>
    intro w mg fa h Y KX G hmg
    have hP := PySem.W.km_tabs_of Y
    refine' K04.all_mk KX G hmg (hP _ (List.Mem.head _)) ?l0 ?c0 ?k0 ?l1 ?c1 ?k1 ?l2 ?c2 ?k2 ?l3 ?c3 ?k3 ?a4 ?l4 ?c4 ?k4 ?a5 ?l5 ?c5 ?k5 ?a6 ?l6 ?c6 ?k6 ?a7 ?l7 ?c7 ?k7 ?t7 ?a8 ?l8 ?c8 ?k8 ?a9 ?l9 ?c9 ?k9 ?a10 ?l10 ?c10 ?k10 ?a11 ?l11 ?c11 ?k11 ?a12 ?l12 ?c12 ?k12 ?a13 ?l13 ?c13 ?k13 ?n13_reverse ?a14 ?l14 ?c14 ?k14 ?n14_reverse ?a15 ?l15 ?c15 ?k15 ?a16 ?l16 ?c16 ?k16 ?a17 ?l17 ?c17 ?k17 ?a18 ?l18 ?c18 ?k18 ?a19 ?l19 ?c19 ?k19 ?a20 ?l20 ?c20 ?k20 ?a21 ?l21 ?c21 ?k21 ?a22 ?l22 ?c22 ?k22 ?a23 ?l23 ?c23 ?k23 ?z_abs ?z_bool ?z_enumerate ?z_int ?z_isinstance ?z_len ?z_list ?z_range ?z_repr ?z_sorted ?z_tuple ?aX_InvalidKeys ?ii_InvalidKeys ?xL_InvalidKeys ?sx_InvalidKeys ?gx_InvalidKeys ?ggx_InvalidKeys ?nx_InvalidKeys ?tx_InvalidKeys ?kx_InvalidKeys ?ex_InvalidKeys ?tyx_InvalidKeys ?hx_InvalidKeys ?icx_InvalidKeys ?scx_InvalidKeys ?aX_InvalidQuestion ?ii_InvalidQuestion ?xL_InvalidQuestion ?sx_InvalidQuestion ?gx_InvalidQuestion ?ggx_InvalidQuestion ?nx_InvalidQuestion ?tx_InvalidQuestion ?kx_InvalidQuestion ?ex_InvalidQuestion ?tyx_InvalidQuestion ?hx_InvalidQuestion ?icx_InvalidQuestion ?scx_InvalidQuestion ?aX_InvalidOrder ?ii_InvalidOrder ?xL_InvalidOrder ?sx_InvalidOrder ?gx_InvalidOrder ?ggx_InvalidOrder ?nx_InvalidOrder ?tx_InvalidOrder ?kx_InvalidOrder ?ex_InvalidOrder ?tyx_InvalidOrder ?hx_InvalidOrder ?icx_InvalidOrder ?scx_InvalidOrder ?aX_InvalidNumber ?ii_InvalidNumber ?xL_InvalidNumber ?sx_InvalidNumber ?gx_InvalidNumber ?ggx_InvalidNumber ?nx_InvalidNumber ?tx_InvalidNumber ?kx_InvalidNumber ?ex_InvalidNumber ?tyx_InvalidNumber ?hx_InvalidNumber ?icx_InvalidNumber ?scx_InvalidNumber ?aX_SortError ?r1x_SortError ?r2x_SortError ?vix_SortError ?ex_SortError ?tyx_SortError ?icx_SortError ?scx_SortError ?su_InvalidKeys_InvalidQuestion ?su_InvalidKeys_InvalidOrder ?su_InvalidKeys_InvalidNumber ?su_InvalidKeys_SortError ?su_InvalidQuestion_InvalidKeys ?su_InvalidQuestion_InvalidOrder ?su_InvalidQuestion_InvalidNumber ?su_InvalidQuestion_SortError ?su_InvalidOrder_InvalidKeys ?su_InvalidOrder_InvalidQuestion ?su_InvalidOrder_InvalidNumber ?su_InvalidOrder_SortError ?su_InvalidNumber_InvalidKeys ?su_InvalidNumber_InvalidQuestion ?su_InvalidNumber_InvalidOrder ?su_InvalidNumber_SortError ?dcx_InvalidKeys ?dmx_InvalidKeys ?dcx_InvalidQuestion ?dmx_InvalidQuestion ?dcx_InvalidOrder ?dmx_InvalidOrder ?dcx_InvalidNumber ?dmx_InvalidNumber ?dnx ?dtx ?le_law ?lh_law ?ln_law
    (case aX_InvalidKeys => k_is); (case aX_InvalidQuestion => k_is); (case aX_InvalidOrder => k_is); (case aX_InvalidNumber => k_is); (case aX_SortError => k_is); (case ii_InvalidKeys => k_is)
    (case ii_InvalidQuestion => k_is); (case ii_InvalidOrder => k_is); (case ii_InvalidNumber => k_is); (case l0 => k_is); (case c0 => k_is); (case k0 => k_is)
    (case l1 => k_is); (case c1 => k_is); (case k1 => k_is); (case l2 => k_is); (case c2 => k_is); (case k2 => k_is)
    (case l3 => k_is); (case c3 => k_is); (case k3 => k_is); (case a4 => k_is); (case l4 => k_is); (case c4 => k_is)
    (case k4 => k_is); (case a5 => k_is); (case l5 => k_is); (case c5 => k_is); (case k5 => k_is); (case a6 => k_is)
    (case l6 => k_is); (case c6 => k_is); (case k6 => k_is); (case a7 => k_is); (case l7 => k_is); (case c7 => k_is)
    (case k7 => k_is); (case t7 => k_is); (case a8 => k_is); (case l8 => k_is); (case c8 => k_is); (case k8 => k_is)
    (case a9 => k_is); (case l9 => k_is); (case c9 => k_is); (case k9 => k_is); (case a10 => k_is); (case l10 => k_is)
    (case c10 => k_is); (case k10 => k_is); (case a11 => k_is); (case l11 => k_is); (case c11 => k_is); (case k11 => k_is)
    (case a12 => k_is); (case l12 => k_is); (case c12 => k_is); (case k12 => k_is); (case a13 => k_is); (case l13 => k_is)
    (case c13 => k_is); (case k13 => k_is); (case n13_reverse => k_is); (case a14 => k_is); (case l14 => k_is); (case c14 => k_is)
    (case k14 => k_is); (case n14_reverse => k_is); (case a15 => k_is); (case l15 => k_is); (case c15 => k_is); (case k15 => k_is)
    (case a16 => k_is); (case l16 => k_is); (case c16 => k_is); (case k16 => k_is); (case a17 => k_is); (case l17 => k_is)
    (case c17 => k_is); (case k17 => k_is); (case a18 => k_is); (case l18 => k_is); (case c18 => k_is); (case k18 => k_is)
    (case a19 => k_is); (case l19 => k_is); (case c19 => k_is); (case k19 => k_is); (case a20 => k_is); (case l20 => k_is)
    (case c20 => k_is); (case k20 => k_is); (case a21 => k_is); (case l21 => k_is); (case c21 => k_is); (case k21 => k_is)
    (case a22 => k_is); (case l22 => k_is); (case c22 => k_is); (case k22 => k_is); (case a23 => k_is); (case l23 => k_is)
    (case c23 => k_is); (case k23 => k_is); (case z_abs => k_is); (case z_bool => k_is); (case z_enumerate => k_is); (case z_int => k_is)
    (case z_isinstance => k_is); (case z_len => k_is); (case z_list => k_is); (case z_range => k_is); (case z_repr => k_is); (case z_sorted => k_is)
    (case z_tuple => k_is); (case xL_InvalidKeys => k_is); (case sx_InvalidKeys => k_is); (case gx_InvalidKeys => k_is); (case ggx_InvalidKeys => k_is); (case nx_InvalidKeys => k_is)
    (case tx_InvalidKeys => k_is); (case kx_InvalidKeys => k_is); (case ex_InvalidKeys => k_is); (case tyx_InvalidKeys => k_is); (case hx_InvalidKeys => k_is); (case icx_InvalidKeys => k_is)
    (case scx_InvalidKeys => k_is); (case xL_InvalidQuestion => k_is); (case sx_InvalidQuestion => k_is); (case gx_InvalidQuestion => k_is); (case ggx_InvalidQuestion => k_is); (case nx_InvalidQuestion => k_is)
    (case tx_InvalidQuestion => k_is); (case kx_InvalidQuestion => k_is); (case ex_InvalidQuestion => k_is); (case tyx_InvalidQuestion => k_is); (case hx_InvalidQuestion => k_is); (case icx_InvalidQuestion => k_is)
    (case scx_InvalidQuestion => k_is); (case xL_InvalidOrder => k_is); (case sx_InvalidOrder => k_is); (case gx_InvalidOrder => k_is); (case ggx_InvalidOrder => k_is); (case nx_InvalidOrder => k_is)
    (case tx_InvalidOrder => k_is); (case kx_InvalidOrder => k_is); (case ex_InvalidOrder => k_is); (case tyx_InvalidOrder => k_is); (case hx_InvalidOrder => k_is); (case icx_InvalidOrder => k_is)
    (case scx_InvalidOrder => k_is); (case xL_InvalidNumber => k_is); (case sx_InvalidNumber => k_is); (case gx_InvalidNumber => k_is); (case ggx_InvalidNumber => k_is); (case nx_InvalidNumber => k_is)
    (case tx_InvalidNumber => k_is); (case kx_InvalidNumber => k_is); (case ex_InvalidNumber => k_is); (case tyx_InvalidNumber => k_is); (case hx_InvalidNumber => k_is); (case icx_InvalidNumber => k_is)
    (case scx_InvalidNumber => k_is); (case r1x_SortError => k_is); (case r2x_SortError => k_is); (case vix_SortError => k_is); (case ex_SortError => k_is); (case tyx_SortError => k_is)
    (case icx_SortError => k_is); (case scx_SortError => k_is); (case su_InvalidKeys_InvalidQuestion => k_is); (case su_InvalidKeys_InvalidOrder => k_is); (case su_InvalidKeys_InvalidNumber => k_is); (case su_InvalidKeys_SortError => k_is)
    (case su_InvalidQuestion_InvalidKeys => k_is); (case su_InvalidQuestion_InvalidOrder => k_is); (case su_InvalidQuestion_InvalidNumber => k_is); (case su_InvalidQuestion_SortError => k_is); (case su_InvalidOrder_InvalidKeys => k_is); (case su_InvalidOrder_InvalidQuestion => k_is)
    (case su_InvalidOrder_InvalidNumber => k_is); (case su_InvalidOrder_SortError => k_is); (case su_InvalidNumber_InvalidKeys => k_is); (case su_InvalidNumber_InvalidQuestion => k_is); (case su_InvalidNumber_InvalidOrder => k_is); (case su_InvalidNumber_SortError => k_is)
    (case dcx_InvalidKeys => k_is); (case dmx_InvalidKeys => k_is); (case dcx_InvalidQuestion => k_is); (case dmx_InvalidQuestion => k_is); (case dcx_InvalidOrder => k_is); (case dmx_InvalidOrder => k_is)
    (case dcx_InvalidNumber => k_is); (case dmx_InvalidNumber => k_is); (case dnx => k_is); (case dtx => k_is); (case le_law => exact rfl); (case lh_law => kernel_rfl)
    (case ln_law => kernel_rfl)


