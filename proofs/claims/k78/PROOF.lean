import PyProof.Rows.All
import Wide.All
import OpenK.AllK
import Wide.FinOn
import HandS.ForMost
import HandS.ForExc
import HandS.Wide
import HandS.IsInst
import HandS.Style
import HandS.Evl
import KE.GoesEnum
import HandS.SortRule
import HandS.SortInts
import HandS.Defaults
import HandS.WordsDict
import HandS.Conv
import HandS.More
import HandS.SetFor
import HandS.Iter
import KE.SortKeyHeap
import KE.KSortKey
import HandS.Lambda
import HandS.Nested
import HandS.SortKw
import HandS.CallLocal
import HandS.ExcInit
import HandS.WordsExc
import HandS.ExcField
import HandS.ExcOwn
import HandS.TryMany
import KE.KDflt
import KE.KExcIs
import HandS.ExcIs
import HandS.WideBits
import HandS.WideMore
import PyProof.ReprRoads
import PyProof.FitsInt
import PyProof.Rows.RegStrFacts
import PyProof.ReprLen
import HandS.TupAny
import HandS.Small
import HandS.Star
import HandS.TupMul
import KE.KNestM
import KE.KStateDown
import HandS.Head0
import HandS.Head1
import HandS.Head2
import HandS.HeadHook1
import HandS.HeadHook2
import HandS.HeadHook3
import HandS.HeadHook4
import HandS.HeadWalk
import PySem.Challenge.RW_askedorder_k78_what_counts_refuse
set_option Elab.async false
set_option linter.all false
set_option maxRecDepth 100000
set_option maxHeartbeats 8000000
namespace L2
open PySem PySem.Spec PyProof.Rows
/-! ### own rules: list + list of lists that are only read, powers, repr of a bool, calls by keywords alone -/
def rCatS (K : PySem.W.Frag) : R2 := fun x y H Q => ∃ l b xs zs, x = .ref l ∧ y = .ref b ∧ SqL K H l xs ∧ SqL K H b zs ∧ xs.length + zs.length ≤ sizeLine ∧ ∀ p, H p = none → Q (.ref p) (upd H p (.lst (xs ++ zs)))
theorem op_catS {X : Cx} : OpR X (binaryOp .Add) (rCatS X.K) := by
  intro pins s σ H x y v u Q I rx ry h
  obtain ⟨l, b, xs, zs, rfl, rfl, hH, hB, hz, q⟩ := h
  cases rx
  cases ry
  obtain ⟨its, r, pl, hl⟩ := I.list hH
  obtain ⟨its2, r2, pl2, hl2⟩ := I.list hB
  have e1 := r.length
  have e2 := r2.length
  obtain ⟨⟨cls, dd, data, sl⟩, n, ho, hc, hdd, hd⟩ := pl
  obtain ⟨⟨cls2, dd2, data2, sl2⟩, n2, ho2, hc2, hdd2, hd2⟩ := pl2
  simp only at hc hd hc2 hd2
  subst hc hd hc2 hd2
  have e : its.toArray ++ its2.toArray = (its ++ its2).toArray := by simp
  refine concat_meets ⟨_, ho, rfl⟩ ⟨_, ho2, rfl⟩ noFill_list_add seq_list_add PySem.F.slot_list_add PySem.F.entry_list_add (PySem.F.args_list_add_2 _ _) (list_addW l b its.toArray its2.toArray n n2 dd dd2 sl sl2 (by simp only [List.size_toArray]; omega)) ⟨ho, ho2, ?_⟩
  rw [e]
  exact ⟨.ref _, _, I.lnew (t' := s.toks) (r.append r2) (by rw [List.length_append]; omega), rfl, q _ I.fresh⟩
def CPowW (i j : Int) : Prop := 0 ≤ j ∧ (Builtin.Int.intBits i : Int) * j ≤ 2 ^ 27
theorem op_powW {X : Cx} : OpR X (binaryOp .Pow) (rI CPowW fun i j => .int (i ^ j.toNat)) := opI fun _ _ _ _ _ _ _ hc q => pow_int hc.1 hc.2 q
theorem call_repr_bool {X : Cx} : CallR X (.builtin "repr") (fun xs H Q => ∃ b, xs = [.bl b] ∧ Q (.str (if b then "True" else "False")) H) := by
  intro pins s σ H xs us Q I r h
  obtain ⟨b, rfl, q⟩ := h
  obtain ⟨u, rfl, r1⟩ := vals1 r
  cases r1
  exact PySem.P.repr_of_bool ⟨.str _, H, I.tok _, ⟨_, rfl⟩, q⟩
/-- f(k = v, ..), keywords alone -/
def tCallK0 (sp : Sp) (gV : List V → List V → List V) (E : XK) (tk : TA) : TE := fun σ H Q => tk σ H fun zs H2 => sp (gV [] zs) H2 Q E
theorem pe_callK0 {X : Cx} {CX : CXT} {k : Nat} {f : Addr} {fd : FuncData} {ps ks : List Str} {sp : Sp} {E : XK} {x : Str} {p pos : Pos} {kws : List Keyword} {tk : TA} {g : List Value → List Value → List Value} {gV : List V → List V → List V}
    (F : FnOk X.prog X.w X.K X.mg X.base CX k f fd ps sp) (hr : Room k X.A) (hg : Gl X x) (hm : X.mg x = some (.ref f)) (hk : PySem.W.keepIn X.K (.ref f) = true) (hb : KBinds X.K fd ps ks g gV) (hx : Passes CX X E)
    (hkw : PK X kws tk) (hall : (backToKw pos (keywordEach kws X.env)).all (·.1.isSome) = true := by rfl) (hks : (backToKw pos (keywordEach kws X.env)).filterMap (·.1) = ks := by rfl)
    (hdb : (x == ("__debug__" : Str)) = false := by decide)
    (hpl : ((backTo pos (starEach [] X.env)).any (·.1) || (backToKw pos (keywordEach kws X.env)).any (·.1.isNone)) = false := by rfl) :
    PE X (.Call (.Name x p) [] kws pos) (tCallK0 sp gV E tk) := by
  refine ⟨fun pins s σ H Q I h => ?_⟩
  refine wpAny_Call_Name_kw (ld_glob I hg hm ?_ hdb)
  refine PySem.W.callWith_KW0 (h₀ := X.base) I.ok.mod.kin hk hall ?_ hpl
  refine thn (hkw.run pos pins s σ H _ I h) fun ws s2 ⟨zs, H2, I2, rz, q2⟩ => ⟨I2.kIn, ?_⟩
  rw [hks]
  exact run_fnk F hr hb hx I2 .nil rz q2
/-! ### heaps: all but one address -/
/-- all that was tracked, but at p, is as it was -/
def SB (p : Addr) (H H' : Hp) : Prop := ∀ b o, b ≠ p → H b = some o → H' b = some o
theorem SB.refl (p : Addr) (H : Hp) : SB p H H := fun _ _ _ h => h
theorem SB.trans {p : Addr} {H H1 H2 : Hp} (a : SB p H H1) (b : SB p H1 H2) : SB p H H2 := fun c o n h => b c o n (a c o n h)
theorem SB.new {p q : Addr} {H : Hp} {o : HO} (h : H q = none) : SB p H (upd H q o) := fun b u n e => by
  rw [upd_ne (ne_of_none e h)]
  exact e
theorem SB.put {p : Addr} {H : Hp} {o : HO} : SB p H (upd H p o) := fun b u n e => by
  rw [upd_ne n]
  exact e
theorem SB.of {p : Addr} {H H' : Hp} (a : Same H H') : SB p H H' := fun c o _ h => a c o h
theorem SB.seq {p : Addr} {K : PySem.W.Frag} {H H' : Hp} {a : Addr} {xs : List V} (e : SB p H H') (n : a ≠ p) (h : SqL K H a xs) : SqL K H' a xs := by
  rcases h with (h | ⟨o, h⟩) | h
  · exact .inl (.inl (e _ _ n h))
  · exact .inl (.inr ⟨o, e _ _ n h⟩)
  · exact .inr h
theorem SB.tup {p : Addr} {K : PySem.W.Frag} {H H' : Hp} {a : Addr} {xs : List V} (e : SB p H H') (n : a ≠ p) (h : SqT K H a xs) : SqT K H' a xs := by
  rcases h with (h | ⟨o, h⟩) | h
  · exact .inl (.inl (e _ _ n h))
  · exact .inl (.inr ⟨o, e _ _ n h⟩)
  · exact .inr h
/-- what is free behind was free before, but at p -/
theorem SB.free {p : Addr} {H H' : Hp} (e : SB p H H') {l : Addr} (n : l ≠ p) (h : H' l = Option.none) : H l = Option.none := by
  cases q : H l with
  | none => rfl
  | some o =>
    rw [e l o n q] at h
    cases h
theorem same_upd {H : Hp} {p : Addr} {o : HO} (h : H p = none) : Same H (upd H p o) := fun b x e => by
  rw [upd_ne (ne_of_none e h)]
  exact e
theorem Same.tupS {K : PySem.W.Frag} {H H' : Hp} {a : Addr} {xs : List V} (e : Same H H') (h : SqT K H a xs) : SqT K H' a xs := by
  rcases h with (h | ⟨o, h⟩) | h
  · exact .inl (.inl (e _ _ h))
  · exact .inl (.inr ⟨o, e _ _ h⟩)
  · exact .inr h
theorem sq_of {K : PySem.W.Frag} {H : Hp} {a : Addr} {xs : List V} (h : H a = some (.lst xs)) : SqL K H a xs := .inl (.inl h)
theorem st_of {K : PySem.W.Frag} {H : Hp} {a : Addr} {xs : List V} (h : H a = some (.tup xs)) : SqT K H a xs := .inl (.inl h)
end L2
namespace L2
open PySem PySem.Spec PyProof.Rows
theorem for_iteL {K : PySem.W.Frag} {a : Addr} {xs : List V} {g : TG} {tb : TS} {D : Ends} {σ : St} {H : Hp} (Pv : Nat → St → Hp → Prop) (h0 : Pv 0 σ H) (hl : ∀ i σ H, i ≤ xs.length → Pv i σ H → SqL K H a xs)
    (hs : ∀ i x σ H T, xs[i]? = some x → Pv i σ H → H T = none → g (.ref T) σ (upd H T (.tup [.int (i : Nat), x])) fun σ2 H2 => tb { D with nx := Pv (i + 1), ct := Pv (i + 1), bk := D.nx } σ2 H2) (hd : ∀ σ H, Pv xs.length σ H → D.nx σ H) :
    ∃ W : Nat → Nat → St → Hp → Prop, (∃ m, W 0 m σ H) ∧ ∀ i m σ H, W i m σ H →
      ((Ite K a).stop i H ∧ D.nx σ H) ∨ ((Ite K a).go i H ∧ ∃ N : St → Hp → Prop, (∀ σ' H', N σ' H' → ∃ m', m' < m ∧ W (i + 1) m' σ' H') ∧ ∀ x H', (Ite K a).yld i H x H' → g x σ H' fun σ2 H2 => tb { D with nx := N, ct := N, bk := D.nx } σ2 H2) := by
  refine ⟨fun i m σ H => m = xs.length - i ∧ i ≤ xs.length ∧ Pv i σ H, ⟨xs.length, by simp, Nat.zero_le _, h0⟩, ?_⟩
  rintro i m σ H ⟨rfl, hi, p⟩
  have q := hl i σ H hi p
  by_cases hlt : i < xs.length
  · refine .inr ⟨⟨xs, xs[i], q, by simp [hlt]⟩, Pv (i + 1), fun σ' H' p' => ⟨xs.length - (i + 1), by omega, rfl, hlt, p'⟩, fun x H' y => ?_⟩
    obtain ⟨T, z, e, nT, eH, f⟩ := y
    subst e eH
    exact hs i z σ _ T (f xs q) p nT
  · have e : i = xs.length := by omega
    subst e
    exact .inl ⟨⟨xs, q, Nat.le_refl _⟩, hd σ H p⟩
end L2

namespace PySem
open Sem (wp)
theorem meets_enumerate_new0 {v : Value} {o : Obj} {H : Heap → Prop} (B : Begins v o H) :
    Meets (Builtin.«enumerate.__new__» ⟨[.type "enumerate", v], []⟩) (fun _ R s => H s.heap ∧
      R (.ok (.ret (.ref (s.heap.push o).objs.size))) { s with heap := (s.heap.push o).push { cls := .type "enumerate", data := .fields #[.none, .bool false, .ref s.heap.objs.size, rawInt 0, .none, .none] } }) :=
  .of_wp fun prog w A R s h => by
    obtain ⟨hp, g, d, tk, os⟩ := s; obtain ⟨h1, h⟩ := h
    have hsub := sub_enumerate
    have q1 : ∀ {A' : Around} {E : Value → Shared → Prop} {Q : Value → Shared → Prop}, Q (.ref hp.objs.size) ⟨hp.push o, g, d, tk, os⟩ → wpAny (model prog w) A' (pyIter v) Q E ⟨hp, g, d, tk, os⟩ :=
      fun q => B.iter prog w _ _ ⟨hp, g, d, tk, os⟩ _ h1 q
    wp_walk using q1
    refine wpAny_stack_any fun st => wpAny_pure ?_
    split
    · rename_i c _ _ _ _ _
      cases (c == Value.type "enumerate")
      · wp_walk using q1
        exact ⟨_, rfl, h⟩
      · wp_walk using q1
        exact ⟨_, rfl, h⟩
    · wp_walk using q1
      exact ⟨_, rfl, h⟩
theorem enum_begins0 {prog : Program} {w : World} {A : Around} {E : Value → Shared → Prop} {s : Shared} {v : Value} {o : Obj} {H : Heap → Prop} {Q : Value → Shared → Prop} (B : Begins v o H) (h1 : H s.heap)
    (h : ∀ h', IsEnum h' (s.heap.objs.size + 1) s.heap.objs.size 0 .none → h'.get? s.heap.objs.size = some o → h'.objs.size = s.heap.objs.size + 2 →
      (∀ b o, s.heap.get? b = some o → h'.get? b = some o) → Q (.ref (s.heap.objs.size + 1)) { s with heap := h' }) :
    wpAny (model prog w) A (call (.type "enumerate") [v]) Q E s := by
  refine callType_new F.called_enumerate (by decide) (F.typeCall_enumerate_1 _) (F.newCall_enumerate_1 _) (fun obj => F.args_object_init_2 obj _) F.entry_enumerate_new
    (meets_enumerate_new0 B) ⟨h1, ?_⟩
  have hz : (s.heap.push o).objs.size = s.heap.objs.size + 1 := Heap.size_push ..
  show _ ∧ _
  rw [hz]
  have he : IsEnum ((s.heap.push o).push { cls := .type "enumerate", data := .fields #[.none, .bool false, .ref s.heap.objs.size, rawInt 0, .none, .none] }) (s.heap.objs.size + 1) s.heap.objs.size 0 .none := by
    have := Heap.get?_push_size (s.heap.push o) (o := { cls := .type "enumerate", data := .fields #[.none, .bool false, .ref s.heap.objs.size, rawInt 0, .none, .none] }) rfl
    rw [hz] at this; exact this
  refine ⟨⟨_, he, rfl⟩, h _ he (Heap.get?_push_of_some _ (Heap.get?_push_size _ B.free)) (by rw [Heap.size_push, hz]) fun b o x => Heap.get?_push_of_some _ (Heap.get?_push_of_some _ x)⟩
end PySem
namespace L2
open PySem PySem.Spec PyProof.Rows
/-- the tuple at a, each item in a new pair -/
def IteT (K : PySem.W.Frag) (a : Addr) : It :=
  ⟨fun i H => ∃ (xs : List V) (x : V), SqT K H a xs ∧ xs[i]? = some x, fun i H v H' => ∃ T x, v = .ref T ∧ H T = none ∧ H' = upd H T (.tup [.int (i : Nat), x]) ∧ ∀ xs, SqT K H a xs → xs[i]? = some x, fun i H => ∃ xs : List V, SqT K H a xs ∧ xs.length ≤ i⟩
theorem turn_enumT {P : Program} {w : World} {K : PySem.W.Frag} {elts : List Expr} {kk : Nat} {tpos : Pos} (a e it : Addr) (hae : e ≠ a) (hai : a ≠ it) :
    Turn P w K (.Tuple elts kk tpos) (IteT K a) [e, it] e (fun i h => (∃ old, IsEnum h e it ((i : Nat) : Int) old) ∧ h.IsTupleIter it a i ∧ e ≠ it) where
  mem := by simp
  obj := fun i h st b hb => by
    obtain ⟨⟨old, he⟩, ⟨o, ho, hc, hd⟩, _⟩ := st
    have e' : b = e ∨ b = it := by simpa using hb
    rcases e' with z | z
    · rw [z]; exact ⟨_, he, fun v q => nomatch q⟩
    · rw [z]; exact ⟨o, ho, fun v q => by rw [hd] at q; cases q⟩
  keep := fun i h h' st k => let ⟨⟨old, he⟩, hi, hne⟩ := st; ⟨⟨old, k e (by simp) _ he⟩, hi.at fun o q => k it (by simp) o q, hne⟩
  item := by
    intro X hP hw hK hc i pins s σ H E I hf st hg
    subst hP hw hK
    obtain ⟨⟨old, he⟩, hit, hne⟩ := st
    obtain ⟨xs, x, hq, hx⟩ := hg
    obtain ⟨its, rv, p, hz⟩ := I.tuple hq
    obtain ⟨u, hu, ru⟩ := rv.get hx
    have hel : e < s.heap.objs.size := Heap.lt_size he
    have hil : it < s.heap.objs.size := by obtain ⟨_, q, _⟩ := hit; exact Heap.lt_size q
    have hlt : i < its.toArray.size := by
      have z := (List.getElem?_eq_some_iff.mp hu).1
      simpa using z
    refine wpAny_pyNext_enum_itemD (Draws.tuple (A := X.A.in1) (I.ok.hd hc) it a hai its.toArray) he ⟨hit, p⟩ hlt hne (by simp [hne, hae]) fun x' h' tk hP' ho hit' hT hsz hk => ?_
    have ex : x' = u := by
      have q : its.toArray[i]? = some u := by simpa using hu
      rw [q] at hP'
      exact (Option.some.inj hP').symm
    subst ex
    refine ⟨_, rfl, wpAny_letOwnedTupleGo_enum (s := { s with heap := h', toks := tk + 1 }) ho fun h'' he' sb => ?_⟩
    have hT2 : h''.get? s.heap.objs.size = some { cls := .type "tuple", data := .seq #[.int i tk, x'] } := (sb.2 _ (Nat.ne_of_gt hel)).trans hT
    have new : ObjOk X.prog X.w (upd H s.heap.objs.size (.tup [.int (i : Nat), x])) h'' s.heap.objs.size (.tup [.int (i : Nat), x]) :=
      ⟨by show 2 ≤ sizeLine; decide, [.int i tk, x'], .cons ⟨_, rfl⟩ (.cons ru .nil), ⟨_, hT2, rfl, _, rfl⟩⟩
    have I1 : Inv X pins σ (upd H s.heap.objs.size (.tup [.int (i : Nat), x])) { s with heap := h'', toks := tk + 1 } :=
      I.turnedNew (ch := [e, it]) (fun b ob hb q => (sb.2 b (fun z => hb (by simp [z]))).trans (hk b ob (fun z => hb (by simp [z])) (fun z => hb (by simp [z])) q)) hf (Nat.le_refl _) new
    refine ⟨.ref s.heap.objs.size, _, I1, rfl, ⟨_, x, rfl, I.hok.fresh (Nat.le_refl _), rfl, fun ys hy => by rw [I.tuple_inj hy hq]; exact hx⟩, ⟨⟨x', ?_⟩, hit'.1.at fun o q => (sb.2 it (Ne.symm hne)).trans q, hne⟩, fun b hb => ?_⟩
    · have e1 : ((i + 1 : Nat) : Int) = (i : Int) + 1 := by omega
      rw [e1]; exact he'
    · have hb' : b < s.heap.objs.size := by
        have e' : b = e ∨ b = it := by simpa using hb
        rcases e' with z | z
        · rw [z]; exact hel
        · rw [z]; exact hil
      rw [upd_ne (Nat.ne_of_lt hb')]
      exact (hf b hb).1
  done := by
    intro X hP hw hK hc i pins s σ H E I hf st hg
    subst hP hw hK
    obtain ⟨⟨old, he⟩, hit, hne⟩ := st
    obtain ⟨xs, hq, hx⟩ := hg
    obtain ⟨its, rv, p, hz⟩ := I.tuple hq
    obtain ⟨f0, f1, f2, f3, f4, f5⟩ := hf it (by simp)
    have hl := rv.length
    have hT : s.TypeIs (.ref e) "enumerate" := ⟨_, he, rfl⟩
    have hN : its.toArray[i]? = none := by simp; omega
    unfold pyNext
    refine wpAny_bind (wpAny_attempt (wpAny_callSpecial?_slot (name := Str.ofString "__next__") hT F.slot_enumerate_next
      (wpAny_call_entry F.slot_enumerate_next hT F.entry_enumerate_next ?_ (F.args_enumerate_next_1 _))))
    show wpAny _ _ (field (.ref e) 2 >>= _) _ _ _
    refine wpAny_bind (wpAny_field he rfl (x := .ref it) rfl ?_)
    refine wpAny_bind (wpAny_nextOf_tuple_end (I.ok.hd hc) hit p hN fun h' x he' hx' => ?_)
    obtain ⟨o, ho, hcc⟩ := hx'
    refine wpAny_bind (wpAny_isInstance (T := "StopIteration") (b := true) ⟨o, ho, hcc⟩ isSubtype_stop ?_)
    exact wpAny_pure ⟨rfl, I.turned (t' := s.toks) (fun b o hb q => he' b o hb q) f0 f1 f3 f4 f5⟩
  self := fun A i s Q E st h => let ⟨⟨_, he⟩, _⟩ := st; wpAny_pyIter_enum he h
/-- enumerate of a list or a tuple -/
def iEnumA (K : PySem.W.Frag) (ta : TA) : TI := fun σ H R => ta σ H fun vs H1 => ∃ a xs, vs = [.ref a] ∧ ((SqL K H1 a xs ∧ R (Ite K a) H1) ∨ (SqT K H1 a xs ∧ R (IteT K a) H1))
theorem pi_enumA {X : Cx} {e : Expr} {ta : TA} {p pos tpos : Pos} {elts : List Expr} {kk : Nat} (hg : Gl X "enumerate") (hm : X.mg "enumerate" = none) (ha : PA X [e] ta) (hs : starEach [e] X.env = [(false, eval e X.env)] := by rfl) :
    PI X (.Tuple elts kk tpos) (.Call (.Name "enumerate" p) [e] [] pos) (iEnumA X.K ta) := by
  refine ⟨fun pins s σ H R I h => ?_⟩
  refine Call_ (ld_blt I hg hm boot_enumerate (PyProof.Rows.callWith_type1 (thn (ha.run pos pins s σ H _ I h) fun us s1 ⟨vs, H1, I1, r1, q1⟩ => ?_) hs rfl))
  obtain ⟨a, xs, ex, q1⟩ := q1
  subst ex
  cases r1 with
  | cons r rr =>
    cases rr
    cases r
    have fp : ∀ b, b ∈ [s1.heap.objs.size + 1, s1.heap.objs.size] → s1.heap.objs.size ≤ b := fun b hb => by
      have e' : b = s1.heap.objs.size + 1 ∨ b = s1.heap.objs.size := by simpa using hb
      rcases e' with z | z
      · rw [z]; exact Nat.le_add_right _ _
      · rw [z]; exact Nat.le_refl _
    rcases q1 with ⟨hq, q⟩ | ⟨hq, q⟩
    · obtain ⟨its, rv, p', hz⟩ := I1.list hq
      refine call_enumerate_list p'.isList fun h' he hit hsz hk => wpAny_pyIter_enum he ?_
      have I2 : Inv X pins σ H1 { s1 with heap := h' } := I1.kept (t' := s1.toks) hk
      exact ⟨s1.heap.objs.size + 1, [s1.heap.objs.size + 1, s1.heap.objs.size], _, _, H1, rfl, I2, turn_enum a (s1.heap.objs.size + 1) s1.heap.objs.size, ⟨⟨.none, he⟩, hit, Nat.succ_ne_self _⟩, fun b hb => I1.fpOk (fp b hb) (I1.hok.fresh (fp b hb)), q⟩
    · obtain ⟨its, rv, p', hz⟩ := I1.tuple hq
      have hlt : a < s1.heap.objs.size := by
        obtain ⟨o, ho, _⟩ := id p'
        exact Heap.lt_size ho
      refine enum_begins0 (begins_tuple a its.toArray) p' fun h' he hit hsz hk => wpAny_pyIter_enum he ?_
      have I2 : Inv X pins σ H1 { s1 with heap := h' } := I1.kept (t' := s1.toks) hk
      exact ⟨s1.heap.objs.size + 1, [s1.heap.objs.size + 1, s1.heap.objs.size], _, _, H1, rfl, I2, turn_enumT a (s1.heap.objs.size + 1) s1.heap.objs.size (Nat.ne_of_gt (Nat.lt_succ_of_lt hlt)) (Nat.ne_of_lt hlt), ⟨⟨.none, he⟩, ⟨_, hit, rfl, rfl⟩, Nat.succ_ne_self _⟩, fun b hb => I1.fpOk (fp b hb) (I1.hok.fresh (fp b hb)), q⟩
end L2
namespace L2
open PySem PySem.Spec PyProof.Rows
theorem for_iteT {K : PySem.W.Frag} {a : Addr} {xs : List V} {g : TG} {tb : TS} {D : Ends} {σ : St} {H : Hp} (Pv : Nat → St → Hp → Prop) (h0 : Pv 0 σ H) (hl : ∀ i σ H, i ≤ xs.length → Pv i σ H → SqT K H a xs)
    (hs : ∀ i x σ H T, xs[i]? = some x → Pv i σ H → H T = none → g (.ref T) σ (upd H T (.tup [.int (i : Nat), x])) fun σ2 H2 => tb { D with nx := Pv (i + 1), ct := Pv (i + 1), bk := D.nx } σ2 H2) (hd : ∀ σ H, Pv xs.length σ H → D.nx σ H) :
    ∃ W : Nat → Nat → St → Hp → Prop, (∃ m, W 0 m σ H) ∧ ∀ i m σ H, W i m σ H →
      ((IteT K a).stop i H ∧ D.nx σ H) ∨ ((IteT K a).go i H ∧ ∃ N : St → Hp → Prop, (∀ σ' H', N σ' H' → ∃ m', m' < m ∧ W (i + 1) m' σ' H') ∧ ∀ x H', (IteT K a).yld i H x H' → g x σ H' fun σ2 H2 => tb { D with nx := N, ct := N, bk := D.nx } σ2 H2) := by
  refine ⟨fun i m σ H => m = xs.length - i ∧ i ≤ xs.length ∧ Pv i σ H, ⟨xs.length, by simp, Nat.zero_le _, h0⟩, ?_⟩
  rintro i m σ H ⟨rfl, hi, p⟩
  have q := hl i σ H hi p
  by_cases hlt : i < xs.length
  · refine .inr ⟨⟨xs, xs[i], q, by simp [hlt]⟩, Pv (i + 1), fun σ' H' p' => ⟨xs.length - (i + 1), by omega, rfl, hlt, p'⟩, fun x H' y => ?_⟩
    obtain ⟨T, z, e, nT, eH, f⟩ := y
    subst e eH
    exact hs i z σ _ T (f xs q) p nT
  · have e : i = xs.length := by omega
    subst e
    exact .inl ⟨⟨xs, q, Nat.le_refl _⟩, hd σ H p⟩
end L2

namespace L2
open PySem PySem.Spec PyProof.Rows
/-! ### sources of draws: a list of three ints, the first one from 0 on -/
def Src (H : Hp) (p : Addr) : Prop := ∃ x y z : Int, 0 ≤ x ∧ H p = some (.lst [.int x, .int y, .int z])
theorem Src.put {H : Hp} {p : Addr} {x y z : Int} (h : 0 ≤ x) : Src (upd H p (.lst [.int x, .int y, .int z])) p := ⟨x, y, z, h, upd_same⟩
theorem Src.ne {H : Hp} {p q : Addr} (h : Src H p) (n : H q = none) : q ≠ p := fun e => by
  obtain ⟨x, y, z, _, hp⟩ := h
  rw [← e, n] at hp
  cases hp
theorem Src.at {H H' : Hp} {p : Addr} (h : Src H p) (e : H' p = H p) : Src H' p := by
  obtain ⟨x, y, z, x0, hp⟩ := h
  exact ⟨x, y, z, x0, e.trans hp⟩
theorem Src.upd {H : Hp} {p q : Addr} {o : HO} (h : Src H p) (n : q ≠ p) : Src (L2.upd H q o) p := h.at (upd_ne (Ne.symm n))
theorem Src.new {H : Hp} {p q : Addr} {o : HO} (h : Src H p) (n : H q = none) : Src (L2.upd H q o) p := h.upd (h.ne n)
theorem Src.same {H H' : Hp} {p : Addr} (h : Src H p) (e : Same H H') : Src H' p := by
  obtain ⟨x, y, z, x0, hp⟩ := h
  exact ⟨x, y, z, x0, e _ _ hp⟩
/-- what a draw leaves: all but the source stands, the source is one -/
def Dn (p : Addr) (H H' : Hp) : Prop := SB p H H' ∧ Src H' p
theorem Dn.put {p : Addr} {H : Hp} {x y z : Int} (h : 0 ≤ x) : Dn p H (L2.upd H p (.lst [.int x, .int y, .int z])) := ⟨SB.put, .put h⟩
theorem Dn.trans {p : Addr} {H H1 H2 : Hp} (a : Dn p H H1) (b : Dn p H1 H2) : Dn p H H2 := ⟨a.1.trans b.1, b.2⟩
theorem Dn.new {p q : Addr} {H H' : Hp} {o : HO} (a : Dn p H H') (n : H' q = none) : Dn p H (L2.upd H' q o) := ⟨a.1.trans (SB.new n), a.2.new n⟩
theorem Dn.same {p : Addr} {H H' H2 : Hp} (a : Dn p H H') (e : Same H' H2) : Dn p H H2 := ⟨a.1.trans (SB.of e), a.2.same e⟩
theorem Dn.refl {p : Addr} {H : Hp} (h : Src H p) : Dn p H H := ⟨SB.refl p H, h⟩
/-- an address that is new behind a draw was new before -/
theorem Dn.free {p q : Addr} {H H' : Hp} (a : Dn p H H') (n : H' q = none) : H q = none := a.1.free (a.2.ne n) n
theorem map_snoc (ms : List Int) (v : Int) : ms.map V.int ++ [V.int v] = (ms ++ [v]).map V.int := by simp
theorem rep_flat (b : Int) : ∀ n : Nat, (List.replicate n [V.int b]).flatten = (List.replicate n b).map V.int
  | 0 => rfl
  | n + 1 => by
    rw [List.replicate_succ, List.replicate_succ, List.flatten_cons, rep_flat b n]
    rfl
theorem lt64 {c : Int} {x : Int} (h0 : 0 ≤ x) (h1 : x < c) (hc : c ≤ 2 ^ 63) : -(2 ^ 64) < x ∧ x < 2 ^ 64 := by omega
theorem mb (x : Int) {c : Int} (h : 0 < c) : 0 ≤ x % c ∧ x % c < c := ⟨Int.emod_nonneg _ (by omega), Int.emod_lt_of_pos _ h⟩
theorem mbw (x : Int) {c : Int} (h : 0 < c) (hc : c ≤ 2 ^ 63) : -(2 ^ 64) < x % c ∧ x % c < 2 ^ 64 := lt64 (mb x h).1 (mb x h).2 hc
/-- a comprehension over range(n) each of whose items is an int, reckoned by draws -/
theorem lc_ints {te : TE} {σ : L2.St} {H1 : Hp} {D p : Addr} {n j : Nat} {vs : List Nat} {Qd : Hp → Prop} (hn : n ≤ 1000000) (hs : Src H1 p) (hD : H1 D = none)
    (hw : ∀ v, wipe ((wipe σ vs).set j v) vs = wipe σ vs)
    (he : ∀ (k : Nat) (H3 : Hp) (R : VK), k < n → Dn p H1 H3 → (∀ (v : Int) (H4 : Hp), Dn p H3 H4 → R (.int v) H4) → te ((wipe σ vs).set j (some (.int (0 + (k : Nat))))) H3 R)
    (hd : ∀ (ms : List Int) (H' : Hp), ms.length = n → Dn p H1 H' → H' D = some (.lst (ms.map V.int)) → Qd H') :
    ∃ W : Nat → Nat → Hp → Prop, (∃ m, W 0 m (L2.upd H1 D (.lst []))) ∧ ∀ i m H, W i m H →
      ((Itr 0 n).stop i H ∧ Qd H) ∨ ((Itr 0 n).go i H ∧ ∃ Nx : Hp → Prop, (∀ H', Nx H' → ∃ m', m' < m ∧ W (i + 1) m' H') ∧ ∀ x H', (Itr 0 n).yld i H x H' → gName j x (wipe σ vs) H' fun σ2 H2 => wipe σ2 vs = wipe σ vs ∧ tYes σ2 H2 fun b H3 =>
        if b = true then te σ2 H3 fun y H4 => ∃ acc, H4 D = some (.lst acc) ∧ acc.length < sizeLine ∧ Nx (L2.upd H4 D (.lst (acc ++ [y]))) else Nx H3) := by
  have nD : D ≠ p := hs.ne hD
  refine lc_range (lo := 0) (n := n) (fun i H => ∃ ms : List Int, ms.length = i ∧ Dn p H1 H ∧ H D = some (.lst (ms.map V.int))) ⟨[], rfl, (Dn.refl hs).new hD, upd_same⟩ ?_ ?_
  · rintro i H hi ⟨ms, hl, dr, hh⟩
    refine ⟨hw _, ?_⟩
    refine he i H _ hi dr fun v H4 d4 => ?_
    have h4 := d4.1 _ _ nD hh
    refine ⟨_, h4, ?_, ms ++ [v], by simp [hl], ?_, ?_⟩
    · rw [List.length_map, hl]
      exact Nat.lt_of_le_of_lt (Nat.le_trans (Nat.le_of_lt hi) hn) (by decide)
    · have dd := dr.trans d4
      refine ⟨fun b o nb e => ?_, dd.2.upd nD⟩
      rw [upd_ne (ne_of_none e hD)]
      exact dd.1 b o nb e
    · rw [map_snoc]
      exact upd_same
  · rintro H ⟨ms, hl, dr, hh⟩
    exact hd ms H hl dr hh
end L2
namespace L2
open PySem PySem.Spec PyProof.Rows
theorem canLay_ints : ∀ ns : List Int, PyData.canLayAll0 (ns.map PyData.int) = true
  | [] => rfl
  | n :: r => by
    show (PyData.canLay0 (.int n) && PyData.canLayAll0 (r.map PyData.int)) = true
    rw [canLay_ints r]
    rfl
theorem depth_ints : ∀ ns : List Int, PyData.depthAll (ns.map PyData.int) = 0
  | [] => rfl
  | n :: r => by
    show max (PyData.depth (.int n)) (PyData.depthAll (r.map PyData.int)) = 0
    rw [depth_ints r]
    rfl
theorem shaped_ints (ns : List Int) : SeqAt.shaped (.list (ns.map PyData.int)) = true := by
  unfold SeqAt.shaped
  rw [Bool.and_eq_true]
  refine ⟨canLay_ints ns, decide_eq_true ?_⟩
  show PyData.depthAll (ns.map PyData.int) + 1 ≤ 64
  rw [depth_ints]
  decide
theorem eqv_ints (ns : List Int) : PyData.eqv (.list (ns.map PyData.int)) (.list (ns.map PyData.int)) = true := SeqAt.eqv_refl _ (SeqAt.canLay_of_shaped (shaped_ints ns))
theorem dpAll_ints {K : PySem.W.Frag} {H : Hp} : ∀ ns : List Int, DpAll K H (ns.map V.int) (ns.map PyData.int)
  | [] => .nil
  | n :: r => .cons (.int n) (dpAll_ints r)
theorem dp_ints {K : PySem.W.Frag} {H : Hp} {p : Addr} {ns : List Int} (h : SqL K H p (ns.map V.int)) : Dp K H (.ref p) (.list (ns.map PyData.int)) := .lst h (dpAll_ints ns)
theorem cut_mem {xs : List V} {lo hi : Option Int} {x : V} (h : x ∈ cutV xs lo hi) : x ∈ xs := List.mem_of_mem_drop (List.mem_of_mem_take h)
end L2

namespace L2
open PySem PySem.Spec PyProof.Rows
/-! ### stable orders: the items of 0 .. n - 1, by a number each, then by themselves -/
def Lx (f : Nat → Int) (i j : Nat) : Prop := f i < f j ∨ (f i = f j ∧ i < j)
theorem Lx.irr {f : Nat → Int} {i : Nat} : ¬ Lx f i i := fun h => by unfold Lx at h; omega
theorem Lx.asymm {f : Nat → Int} {i j : Nat} (h : Lx f i j) : ¬ Lx f j i := fun h' => by unfold Lx at h h'; omega
theorem Lx.trans {f : Nat → Int} {i j k : Nat} (h : Lx f i j) (h' : Lx f j k) : Lx f i k := by unfold Lx at *; omega
theorem Lx.tri (f : Nat → Int) (i j : Nat) : Lx f i j ∨ i = j ∨ Lx f j i := by unfold Lx; omega
structure Stab (f : Nat → Int) (n : Nat) (os : List Nat) : Prop where
  perm : os.Perm (List.range n)
  sort : os.Pairwise (Lx f)
/-- two rows of the same items that are sorted strictly are one -/
theorem sorted_uniq {α : Type} {R : α → α → Prop} (as : ∀ a b, R a b → ¬ R b a) : ∀ {xs ys : List α}, xs.Perm ys → xs.Pairwise R → ys.Pairwise R → xs = ys
  | [], ys, p, _, _ => (List.Perm.nil_eq p)
  | x :: xs, [], p, _, _ => absurd p.length_eq (by simp)
  | x :: xs, y :: ys, p, hx, hy => by
    have e : x = y := by
      have m1 : x ∈ y :: ys := p.mem_iff.mp (List.mem_cons_self ..)
      have m2 : y ∈ x :: xs := p.mem_iff.mpr (List.mem_cons_self ..)
      rcases List.mem_cons.mp m1 with e | m1
      · exact e
      · rcases List.mem_cons.mp m2 with e | m2
        · exact e.symm
        · exact absurd ((List.pairwise_cons.mp hx).1 y m2) (as _ _ ((List.pairwise_cons.mp hy).1 x m1))
    subst e
    rw [sorted_uniq as p.cons_inv (List.pairwise_cons.mp hx).2 (List.pairwise_cons.mp hy).2]
theorem Stab.uniq {f : Nat → Int} {n : Nat} {as bs : List Nat} (a : Stab f n as) (b : Stab f n bs) : as = bs := sorted_uniq (fun _ _ => Lx.asymm) (a.perm.trans b.perm.symm) a.sort b.sort
theorem Stab.len {f : Nat → Int} {n : Nat} {os : List Nat} (a : Stab f n os) : os.length = n := by
  rw [a.perm.length_eq, List.length_range]
theorem Stab.nodup {f : Nat → Int} {n : Nat} {os : List Nat} (a : Stab f n os) : os.Nodup := a.perm.nodup_iff.mpr List.nodup_range
theorem Stab.lt {f : Nat → Int} {n : Nat} {os : List Nat} (a : Stab f n os) {i : Nat} (h : i ∈ os) : i < n := List.mem_range.mp (a.perm.mem_iff.mp h)
/-- the order hangs on how the numbers stand to one another alone -/
theorem Stab.like {f g : Nat → Int} {n : Nat} {os : List Nat} (a : Stab f n os) (h : ∀ i j, i < n → j < n → (f i < f j ↔ g i < g j)) : Stab g n os := by
  refine ⟨a.perm, ?_⟩
  refine List.Pairwise.imp_of_mem ?_ a.sort
  intro i j hi hj l
  have h1 := h i j (a.lt hi) (a.lt hj)
  have h2 := h j i (a.lt hj) (a.lt hi)
  unfold Lx at *
  omega
/-- what an item counts: its key, with reverse its negative -/
def keyf (ks : List Int) (rev : Bool) (i : Nat) : Int := if rev then -(ks.getD i 0) else ks.getD i 0
/-- the row of items as values -/
abbrev nV (os : List Nat) : List V := os.map fun (i : Nat) => V.int (i : Int)
/-- pairs of the keys' numbers and the items, sorted, give the order -/
theorem stab_of_pairs {f : Nat → Int} {n : Nat} {ps : List (Int × Int)} (p : ps.Perm ((List.range n).map fun (i : Nat) => (f i, (i : Int)))) (s : ps.Pairwise fun x y => ¬ (y.1 < x.1 ∨ (y.1 = x.1 ∧ y.2 < x.2))) :
    ∃ os, Stab f n os ∧ ps = os.map fun (i : Nat) => (f i, (i : Int)) := by
  have hm : ∀ q ∈ ps, q = (f q.2.toNat, (q.2.toNat : Int)) := fun q hq => by
    obtain ⟨i, _, e⟩ := List.mem_map.mp (p.mem_iff.mp hq)
    subst e
    simp
  have e1 : ps = (ps.map fun q => q.2.toNat).map fun (i : Nat) => (f i, (i : Int)) := by
    rw [List.map_map]
    calc ps = ps.map id := (List.map_id ps).symm
      _ = _ := List.map_congr_left fun q hq => hm q hq
  have pm : (ps.map fun q => q.2.toNat).Perm (List.range n) := by
    have q := p.map fun q => q.2.toNat
    rw [List.map_map] at q
    have e : (List.range n).map ((fun q : Int × Int => q.2.toNat) ∘ fun (i : Nat) => (f i, (i : Int))) = List.range n := by
      calc _ = (List.range n).map id := List.map_congr_left fun i _ => by simp
        _ = _ := List.map_id _
    rw [e] at q
    exact q
  refine ⟨ps.map fun q => q.2.toNat, ⟨pm, ?_⟩, e1⟩
  have nd : (ps.map fun q => q.2.toNat).Nodup := pm.nodup_iff.mpr List.nodup_range
  have s2 : (ps.map fun q => q.2.toNat).Pairwise fun i j => ¬ (f j < f i ∨ (f j = f i ∧ j < i)) := by
    rw [e1, List.pairwise_map] at s
    refine s.imp ?_
    intro i j h
    omega
  exact (List.pairwise_and_iff.mpr ⟨s2, nd⟩).imp fun {i j} h => by
    obtain ⟨h1, h2⟩ := h
    unfold Lx
    omega
end L2
namespace L2
open PySem PySem.Spec PyProof.Rows
theorem pe_callN0 {X : Cx} {CX : CXT} {k : Nat} {f : Addr} {fd : FuncData} {ps ks : List Str} {sp : Sp} {E : XK} {x : Str} {p pos : Pos} {kws : List Keyword} {tk : TA} {g : List Value → List Value → List Value} {gV : List V → List V → List V}
    (F : FnOk X.prog X.w X.K X.mg X.base CX k f fd ps sp) (hr : Room k X.A) (hg : Gl X x) (hm : X.mg x = some (.ref f)) (hk : PySem.W.keepIn X.K (.ref f) = true) (hb : KBn X.K fd ps 0 ks g gV) (hx : Passes CX X E)
    (hkw : PK X kws tk) (hall : (backToKw pos (keywordEach kws X.env)).all (·.1.isSome) = true := by rfl) (hks : (backToKw pos (keywordEach kws X.env)).filterMap (·.1) = ks := by rfl)
    (hdb : (x == ("__debug__" : Str)) = false := by decide)
    (hpl : ((backTo pos (starEach [] X.env)).any (·.1) || (backToKw pos (keywordEach kws X.env)).any (·.1.isNone)) = false := by rfl) :
    PE X (.Call (.Name x p) [] kws pos) (fun σ H Q => tk σ H fun zs H2 => zs.length = ks.length ∧ sp (gV [] zs) H2 Q E) := by
  refine ⟨fun pins s σ H Q I h => ?_⟩
  refine wpAny_Call_Name_kw (ld_glob I hg hm ?_ hdb)
  refine PySem.W.callWith_KW0 (h₀ := X.base) I.ok.mod.kin hk hall ?_ hpl
  refine thn (hkw.run pos pins s σ H _ I h) fun ws s2 ⟨zs, H2, I2, rz, l2, q2⟩ => ⟨I2.kIn, ?_⟩
  rw [hks]
  exact run_fnN F hr hb hx I2 .nil rz rfl l2 q2
theorem lc_iteL {K : PySem.W.Frag} {a : Addr} {xs : List V} {g : TG} {tt : TT} {te : TE} {vs : List Nat} {σ : L2.St} {H1 : Hp} {D : Addr} {Qd : Hp → Prop} (Pv : Nat → Hp → Prop) (h0 : Pv 0 (upd H1 D (.lst []))) (hl : ∀ i H, i ≤ xs.length → Pv i H → SqL K H a xs)
    (hs : ∀ i x H T, xs[i]? = some x → Pv i H → H T = none → g (.ref T) (wipe σ vs) (upd H T (.tup [.int (i : Nat), x])) fun σ2 H2 => wipe σ2 vs = wipe σ vs ∧ tt σ2 H2 fun b H3 =>
      if b = true then te σ2 H3 fun y H4 => ∃ acc, H4 D = some (.lst acc) ∧ acc.length < sizeLine ∧ Pv (i + 1) (upd H4 D (.lst (acc ++ [y]))) else Pv (i + 1) H3) (hd : ∀ H, Pv xs.length H → Qd H) :
    ∃ W : Nat → Nat → Hp → Prop, (∃ m, W 0 m (upd H1 D (.lst []))) ∧ ∀ i m H, W i m H →
      ((Ite K a).stop i H ∧ Qd H) ∨ ((Ite K a).go i H ∧ ∃ Nx : Hp → Prop, (∀ H', Nx H' → ∃ m', m' < m ∧ W (i + 1) m' H') ∧ ∀ x H', (Ite K a).yld i H x H' → g x (wipe σ vs) H' fun σ2 H2 => wipe σ2 vs = wipe σ vs ∧ tt σ2 H2 fun b H3 =>
        if b = true then te σ2 H3 fun y H4 => ∃ acc, H4 D = some (.lst acc) ∧ acc.length < sizeLine ∧ Nx (upd H4 D (.lst (acc ++ [y]))) else Nx H3) := by
  refine ⟨fun i m H => m = xs.length - i ∧ i ≤ xs.length ∧ Pv i H, ⟨xs.length, by simp, Nat.zero_le _, h0⟩, ?_⟩
  rintro i m H ⟨rfl, hi, p⟩
  have q := hl i H hi p
  by_cases hlt : i < xs.length
  · refine .inr ⟨⟨xs, xs[i], q, by simp [hlt]⟩, Pv (i + 1), fun H' p' => ⟨xs.length - (i + 1), by omega, rfl, hlt, p'⟩, fun x H' y => ?_⟩
    obtain ⟨T, z, e, nT, eH, f⟩ := y
    subst e eH
    exact hs i z _ T (f xs q) p nT
  · have e : i = xs.length := by omega
    subst e
    exact .inl ⟨⟨xs, q, Nat.le_refl _⟩, hd H p⟩
theorem lc_iteT {K : PySem.W.Frag} {a : Addr} {xs : List V} {g : TG} {tt : TT} {te : TE} {vs : List Nat} {σ : L2.St} {H1 : Hp} {D : Addr} {Qd : Hp → Prop} (Pv : Nat → Hp → Prop) (h0 : Pv 0 (upd H1 D (.lst []))) (hl : ∀ i H, i ≤ xs.length → Pv i H → SqT K H a xs)
    (hs : ∀ i x H T, xs[i]? = some x → Pv i H → H T = none → g (.ref T) (wipe σ vs) (upd H T (.tup [.int (i : Nat), x])) fun σ2 H2 => wipe σ2 vs = wipe σ vs ∧ tt σ2 H2 fun b H3 =>
      if b = true then te σ2 H3 fun y H4 => ∃ acc, H4 D = some (.lst acc) ∧ acc.length < sizeLine ∧ Pv (i + 1) (upd H4 D (.lst (acc ++ [y]))) else Pv (i + 1) H3) (hd : ∀ H, Pv xs.length H → Qd H) :
    ∃ W : Nat → Nat → Hp → Prop, (∃ m, W 0 m (upd H1 D (.lst []))) ∧ ∀ i m H, W i m H →
      ((IteT K a).stop i H ∧ Qd H) ∨ ((IteT K a).go i H ∧ ∃ Nx : Hp → Prop, (∀ H', Nx H' → ∃ m', m' < m ∧ W (i + 1) m' H') ∧ ∀ x H', (IteT K a).yld i H x H' → g x (wipe σ vs) H' fun σ2 H2 => wipe σ2 vs = wipe σ vs ∧ tt σ2 H2 fun b H3 =>
        if b = true then te σ2 H3 fun y H4 => ∃ acc, H4 D = some (.lst acc) ∧ acc.length < sizeLine ∧ Nx (upd H4 D (.lst (acc ++ [y]))) else Nx H3) := by
  refine ⟨fun i m H => m = xs.length - i ∧ i ≤ xs.length ∧ Pv i H, ⟨xs.length, by simp, Nat.zero_le _, h0⟩, ?_⟩
  rintro i m H ⟨rfl, hi, p⟩
  have q := hl i H hi p
  by_cases hlt : i < xs.length
  · refine .inr ⟨⟨xs, xs[i], q, by simp [hlt]⟩, Pv (i + 1), fun H' p' => ⟨xs.length - (i + 1), by omega, rfl, hlt, p'⟩, fun x H' y => ?_⟩
    obtain ⟨T, z, e, nT, eH, f⟩ := y
    subst e eH
    exact hs i z _ T (f xs q) p nT
  · have e : i = xs.length := by omega
    subst e
    exact .inl ⟨⟨xs, q, Nat.le_refl _⟩, hd H p⟩
/-- rows of ints compared -/
theorem eqvAll_ints : ∀ xs ys : List Int, PyData.eqvAll (xs.map PyData.int) (ys.map PyData.int) = decide (xs = ys)
  | [], [] => rfl
  | [], _ :: _ => rfl
  | _ :: _, [] => rfl
  | x :: xs, y :: ys => by
    show (PyData.eqv (.int x) (.int y) && PyData.eqvAll (xs.map PyData.int) (ys.map PyData.int)) = _
    rw [eqvAll_ints xs ys]
    show (x == y && decide (xs = ys)) = _
    by_cases h1 : x = y
    · subst h1
      by_cases h2 : xs = ys
      · subst h2
        simp
      · simp [h2]
    · simp [h1]
theorem eqv_lists (xs ys : List Int) : PyData.eqv (.list (xs.map PyData.int)) (.list (ys.map PyData.int)) = decide (xs = ys) := eqvAll_ints xs ys
theorem nV_map (os : List Nat) : nV os = (os.map fun (i : Nat) => (i : Int)).map V.int := by
  unfold nV
  rw [List.map_map]
  rfl
theorem cast_inj {xs ys : List Nat} : (xs.map fun (i : Nat) => (i : Int)) = (ys.map fun (i : Nat) => (i : Int)) ↔ xs = ys := by
  constructor
  · intro h
    have h2 := congrArg (List.map Int.toNat) h
    rw [List.map_map, List.map_map] at h2
    have e : ∀ l : List Nat, l.map (Int.toNat ∘ fun (i : Nat) => (i : Int)) = l := fun l => by
      calc _ = l.map id := List.map_congr_left fun i _ => by simp
        _ = l := List.map_id l
    rw [e, e] at h2
    exact h2
  · intro h
    rw [h]
end L2
namespace L2
open PySem PySem.Spec PyProof.Rows
theorem cut_take (xs : List V) (k : Nat) : cutV xs none (some (k : Int)) = xs.take k := by
  unfold cutV
  rw [HT.sIx_none, HT.sIx_nat, List.drop_zero, Nat.sub_zero]
  by_cases h : k ≤ xs.length
  · rw [Nat.min_eq_left h]
  · rw [Nat.min_eq_right (by omega), List.take_of_length_le (Nat.le_refl _), List.take_of_length_le (by omega)]
theorem cut_drop (xs : List V) (k : Nat) : cutV xs (some (k : Int)) none = xs.drop k := by
  unfold cutV
  rw [HT.sIx_none, HT.sIx_nat]
  by_cases h : k ≤ xs.length
  · rw [Nat.min_eq_left h]
    exact List.take_of_length_le (by rw [List.length_drop]; exact Nat.le_refl _)
  · rw [Nat.min_eq_right (by omega), List.drop_of_length_le (Nat.le_refl _), List.drop_of_length_le (by omega), List.take_nil]
/-- an item is put in where all ahead are ahead of it and all behind behind it -/
theorem put_stab {f : Nat → Int} {i pl : Nat} {os : List Nat} (s : Stab f i os) (h1 : ∀ x ∈ os.take pl, Lx f x i) (h2 : ∀ x ∈ os.drop pl, Lx f i x) : Stab f (i + 1) (os.take pl ++ [i] ++ os.drop pl) := by
  have e : os.take pl ++ os.drop pl = os := List.take_append_drop pl os
  constructor
  · have p1 : (os.take pl ++ [i] ++ os.drop pl).Perm ((os.take pl ++ os.drop pl) ++ [i]) := by
      rw [List.append_assoc, List.append_assoc]
      exact List.Perm.append_left _ List.perm_append_comm
    rw [e] at p1
    refine p1.trans ?_
    rw [List.range_succ]
    exact s.perm.append_right [i]
  · have so := s.sort
    rw [← e, List.pairwise_append] at so
    rw [List.append_assoc, List.pairwise_append]
    refine ⟨so.1, List.pairwise_cons.mpr ⟨h2, so.2.1⟩, fun x hx y hy => ?_⟩
    rcases List.mem_cons.mp hy with rfl | hy
    · exact h1 x hx
    · exact so.2.2 x hx y hy
end L2

namespace L2
open PySem PySem.Spec PyProof.Rows
/-! ### o[lo:hi] = another list -/
def gSlice (to : TE) (tl th : TO) : TG := fun v σ H Q => to σ H fun o H1 => tl σ H1 fun lo H2 => th σ H2 fun hi H3 =>
  ∃ (l b : Addr) (xs ys : List V) (a c : Int), o = .ref l ∧ v = .ref b ∧ lo = some a ∧ hi = some c ∧ H3 l = some (.lst xs) ∧ H3 b = some (.lst ys) ∧ l ≠ b ∧ 0 ≤ a ∧ a ≤ c ∧ c ≤ xs.length ∧ xs.length + ys.length ≤ sizeLine ∧
    Q σ (upd H3 l (.lst (xs.take a.toNat ++ ys ++ xs.drop c.toNat)))
theorem part_int {u : Value} {i : Int} (h : IsPart u (some i)) : RelV (.int i) u := by
  cases h
  exact ⟨_, rfl⟩
theorem pg_slice {X : Cx} {o : Expr} {lo hi : Option Expr} {to : TE} {tl th : TO} {p2 pos : Pos} (ho : PE X o to) (hl : PO X lo tl) (hu : PO X hi th)
    (ha : ∀ v, assign (.Subscript o (.Slice lo hi none p2) pos) X.env v = (do
      let ov ← holding [v] (eval o X.env)
      let iv ← holding [v, ov] (eval (.Slice lo hi none p2) X.env)
      standAt pos
      holding [v, ov, iv] (setItem ov iv v)
      release [iv, v, ov] []) := by intro _; rfl) : PG X (.Subscript o (.Slice lo hi none p2) pos) (gSlice to tl th) := by
  refine ⟨fun pins s σ H v u Q I r h => ?_⟩
  rw [ha]
  refine wpAny_bind (wpAny_holding (thn (ho.run pins s σ H _ I h) fun ov s1 ⟨x, H1, I1, r1, q1⟩ => ?_))
  refine wpAny_bind (wpAny_holding (wpAny_Slice (thn (hl.run pins s1 σ H1 _ I1 q1) fun vl s2 ⟨l, H2, I2, pl, q2⟩ => thn (hu.run pins s2 σ H2 _ I2 q2) fun vu s3 ⟨w', H3, I3, pu, q3⟩ => ?_)))
  rw [evalPart_none]
  refine wpAny_pure ?_
  have I4 : Inv X pins σ H3 { s3 with heap := s3.heap.push { cls := .type "slice", data := .fields #[vl, vu, .none] } } := I3.kept (t' := s3.toks) fun b ob q => Heap.get?_push_of_some _ q
  obtain ⟨li, b, xs, ys, a, c, rfl, rfl, rfl, rfl, hX, hB, ne, h0, hac, hc, hz, q⟩ := q3
  cases r1
  cases r
  refine wpAny_bind (wpAny_standAt (wpAny_bind (wpAny_holding ?_)))
  refine set_slice I4 hX hB ne (Heap.IsSliceOf.new ..) (part_int pl) (part_int pu) h0 hac hc hz fun s5 I5 => ?_
  exact wpAny_release ⟨σ, _, I5, q⟩
end L2
namespace L2
open PySem PySem.Spec PyProof.Rows
/-! ### how a run is found: the state, step by step -/
structure RF where
  row : List Nat
  pl : Nat
  eq : Nat
  st : Nat
  wt : Option (Nat × Nat)
  ln : Option Nat
namespace RF
def turned (row : List Nat) (lo hi : Nat) : List Nat := row.take lo ++ ((row.drop lo).take (hi - lo)).reverse ++ row.drop hi
def turn (f : RF) (lo : Nat) : RF := { f with row := turned f.row lo f.pl }
def finish (s : Nat) (f : RF) : RF := { f with ln := some (f.pl - s), wt := none }
def turnEq (f : RF) : RF := if 0 < f.eq then { f.turn (f.pl - f.eq - 1) with eq := 0 } else f
def askUp (s e : Nat) (f : RF) : RF := if f.pl < e then { f with wt := some (f.row.getD f.pl 0, f.row.getD (f.pl - 1) 0) } else finish s f
def rise (s e : Nat) (f : RF) : RF := askUp s e { (turnEq f).turn s with st := 5 }
def ask (s e : Nat) (f : RF) : RF := if f.pl < e then { f with wt := some (f.row.getD f.pl 0, f.row.getD (f.pl - 1) 0) } else if f.st = 3 then rise s e f else finish s f
def goOn (s e : Nat) (f : RF) : RF := ask s e { f with pl := f.pl + 1 }
def fall (s e : Nat) (f : RF) : RF := goOn s e { f with st := 3 }
def take1 (s e : Nat) (b : Bool) (f : RF) : RF := if b = false then goOn s e f else if f.pl = s + 1 then fall s e f else { f with st := 2, wt := some (f.row.getD s 0, f.row.getD (f.pl - 1) 0) }
def take2 (s e : Nat) (b : Bool) (f : RF) : RF := if b = true then finish s f else fall s e (f.turn s)
def take3 (s e : Nat) (b : Bool) (f : RF) : RF := if b = true then goOn s e (turnEq f) else { f with st := 4, wt := some (f.row.getD (f.pl - 1) 0, f.row.getD f.pl 0) }
def take4 (s e : Nat) (b : Bool) (f : RF) : RF := if b = true then rise s e f else goOn s e { f with eq := f.eq + 1, st := 3 }
def take5 (s e : Nat) (b : Bool) (f : RF) : RF := if b = true then finish s f else goOn s e f
def take (s e : Nat) (b : Bool) (f : RF) : RF := if f.st = 1 then take1 s e b f else if f.st = 2 then take2 s e b f else if f.st = 3 then take3 s e b f else if f.st = 4 then take4 s e b f else take5 s e b f
def init (row : List Nat) (s e : Nat) : RF := ask s e { row := row, pl := s + 1, eq := 0, st := 1, wt := none, ln := none }
/-- what holds between the steps -/
structure WF (s e : Nat) (f : RF) : Prop where
  sp : s < f.pl
  pe : f.pl ≤ e
  er : e ≤ f.row.length
  eq : f.eq + s < f.pl
  rl : f.row.length ≤ 2000
theorem turned_len {row : List Nat} {lo hi : Nat} (h : lo ≤ hi) (h2 : hi ≤ row.length) : (turned row lo hi).length = row.length := by
  unfold turned
  rw [List.length_append, List.length_append, List.length_take, List.length_reverse, List.length_take, List.length_drop, List.length_drop]
  omega
variable {s e : Nat} {f : RF}
theorem WF.turn (w : WF s e f) {lo : Nat} (h : lo ≤ f.pl) : WF s e (f.turn lo) := by
  obtain ⟨a, b, c, d, g⟩ := w
  have l : (f.turn lo).row.length = f.row.length := turned_len h (by omega)
  exact ⟨a, b, by rw [l]; exact c, d, by rw [l]; exact g⟩
theorem WF.turnEq (w : WF s e f) : WF s e f.turnEq := by
  unfold RF.turnEq
  split
  · have w2 := w.turn (lo := f.pl - f.eq - 1) (by omega)
    exact ⟨w2.sp, w2.pe, w2.er, by show 0 + s < f.pl; have := w.sp; omega, w2.rl⟩
  · exact w
theorem turnEq_pl (f : RF) : f.turnEq.pl = f.pl := by
  unfold RF.turnEq
  split <;> rfl
theorem turnEq_st (f : RF) : f.turnEq.st = f.st := by
  unfold RF.turnEq
  split <;> rfl
end RF
def lenV : Option Nat → V
  | none => .non
  | some n => .int (n : Int)
def flds (r : Addr) (s e : Nat) (f : RF) (wv : V) : List (Str × V) :=
  [("row", .ref r), ("start", .int (s : Int)), ("end", .int (e : Int)), ("place", .int (f.pl : Int)), ("equal", .int (f.eq : Int)), ("step", .int (f.st : Int)), ("waiting", wv), ("length", lenV f.ln)]
def WaitAt (H : Hp) (wv : V) : Option (Nat × Nat) → Prop
  | none => wv = .non
  | some (i, j) => ∃ t, wv = .ref t ∧ H t = some (.tup [.int (i : Int), .int (j : Int)])
theorem WaitAt.keep {H H' : Hp} {wv : V} {o : Option (Nat × Nat)} (h : WaitAt H wv o) (k : ∀ t i j, H t = some (.tup [.int i, .int j]) → H' t = some (.tup [.int i, .int j])) : WaitAt H' wv o := by
  cases o with
  | none => exact h
  | some p =>
    obtain ⟨t, e, ht⟩ := h
    exact ⟨t, e, k _ _ _ ht⟩
theorem WaitAt.upd {H : Hp} {wv : V} {o : Option (Nat × Nat)} {x : Addr} {u v : HO} (h : WaitAt H wv o) (hx : H x = some u) (hn : ∀ i j, u ≠ .tup [.int i, .int j]) : WaitAt (L2.upd H x v) wv o :=
  h.keep fun t i j ht => by
    rw [upd_ne (ne_of ht hx (fun e => hn i j e.symm))]
    exact ht
/-- the finder at x, its row at r -/
def FAt (C : Addr) (H : Hp) (x r : Addr) (s e : Nat) (f : RF) : Prop := x ≠ r ∧ ∃ dx wv, H x = some (.ins C dx (flds r s e f wv)) ∧ WaitAt H wv f.wt ∧ H r = some (.lst (nV f.row))
/-- all but x and r stands -/
def Fr2 (x r : Addr) (H H' : Hp) : Prop := ∀ b o, b ≠ x → b ≠ r → H b = some o → H' b = some o
theorem Fr2.refl (x r : Addr) (H : Hp) : Fr2 x r H H := fun _ _ _ _ h => h
theorem Fr2.trans {x r : Addr} {H H1 H2 : Hp} (a : Fr2 x r H H1) (b : Fr2 x r H1 H2) : Fr2 x r H H2 := fun c o n m h => b c o n m (a c o n m h)
theorem Fr2.of {x r : Addr} {H H' : Hp} (a : Same H H') : Fr2 x r H H' := fun c o _ _ h => a c o h
theorem Fr2.putx {x r : Addr} {H : Hp} {u : HO} : Fr2 x r H (L2.upd H x u) := fun c o n _ h => by rw [upd_ne n]; exact h
theorem Fr2.putr {x r : Addr} {H : Hp} {u : HO} : Fr2 x r H (L2.upd H r u) := fun c o _ m h => by rw [upd_ne m]; exact h
theorem FAt.same {C : Addr} {H H' : Hp} {x r : Addr} {s e : Nat} {f : RF} (h : FAt C H x r s e f) (k : Same H H') : FAt C H' x r s e f := by
  obtain ⟨n, dx, wv, hx, hw, hr⟩ := h
  exact ⟨n, dx, wv, k _ _ hx, hw.keep (fun _ _ _ => k _ _), k _ _ hr⟩
end L2

namespace L2
open PySem PySem.Spec PyProof.Rows
theorem cut_mid (xs : List V) (a b : Nat) (h : a ≤ b) (hb : b ≤ xs.length) : cutV xs (some (a : Int)) (some (b : Int)) = (xs.drop a).take (b - a) := by
  unfold cutV
  rw [HT.sIx_nat, HT.sIx_nat, Nat.min_eq_left hb, Nat.min_eq_left (Nat.le_trans h hb)]
theorem nV_turned (row : List Nat) (lo hi : Nat) : (nV row).take lo ++ (((nV row).drop lo).take (hi - lo)).reverse ++ (nV row).drop hi = nV (RF.turned row lo hi) := by
  unfold RF.turned
  simp only [List.map_append, List.map_take, List.map_drop, List.map_reverse]
theorem nV_get {row : List Nat} {i : Nat} (h : i < row.length) : atI (nV row) (i : Int) = some (.int ((row.getD i 0 : Nat) : Int)) := by
  refine atI_nat ?_
  rw [List.getElem?_map, List.getElem?_eq_getElem h]
  simp [List.getD_eq_getElem?_getD, List.getElem?_eq_getElem h]
theorem FAt.put {C x r : Addr} {H : Hp} {s e : Nat} {f f' : RF} {dx : Addr} {wv wv' : V} (h : FAt C H x r s e f) (hx : H x = some (.ins C dx (flds r s e f wv))) (er : f'.row = f.row) (hw : WaitAt H wv' f'.wt) {w : List (Str × V)} (ew : w = flds r s e f' wv') :
    FAt C (upd H x (.ins C dx w)) x r s e f' := by
  obtain ⟨n, _, _, _, _, hr⟩ := h
  subst ew
  refine ⟨n, dx, wv', upd_same, hw.upd hx (fun i j e => by cases e), ?_⟩
  rw [upd_ne n.symm, er]
  exact hr
/-- an attribute is set -/
theorem FAt.set {C x r : Addr} {H : Hp} {s e : Nat} {f : RF} {dx : Addr} {wv : V} (h : FAt C H x r s e f) (hx : H x = some (.ins C dx (flds r s e f wv))) (f' : RF) (wv' : V) (er : f'.row = f.row) (hw : WaitAt H wv' f'.wt) {w : List (Str × V)} (ew : w = flds r s e f' wv') :
    FAt C (upd H x (.ins C dx w)) x r s e f' ∧ upd H x (.ins C dx w) x = some (.ins C dx (flds r s e f' wv')) ∧ Fr2 x r H (upd H x (.ins C dx w)) := by
  subst ew
  exact ⟨h.put hx er hw rfl, upd_same, Fr2.putx⟩
theorem FAt.wait {C x r : Addr} {H : Hp} {s e : Nat} {f : RF} {dx : Addr} {wv : V} (h : FAt C H x r s e f) (hx : H x = some (.ins C dx (flds r s e f wv))) : WaitAt H wv f.wt := by
  obtain ⟨_, dx2, wv2, hx2, hw, _⟩ := h
  rw [hx] at hx2
  have e1 : flds r s e f wv = flds r s e f wv2 := (HO.ins.inj (Option.some.inj hx2)).2.2
  have e3 : some wv = some wv2 := congrArg (fun l : List (Str × V) => l.lookup ("waiting" : Str)) e1
  rw [Option.some.inj e3]
  exact hw
theorem FAt.putRow {C x r : Addr} {H : Hp} {s e : Nat} {f : RF} (h : FAt C H x r s e f) {row : List Nat} {w : List V} (ew : w = nV row) :
    FAt C (upd H r (.lst w)) x r s e { f with row := row } := by
  obtain ⟨n, dx, wv, hx, hw, hr⟩ := h
  subst ew
  refine ⟨n, dx, wv, ?_, hw.upd hr (fun i j e => by cases e), upd_same⟩
  rw [upd_ne n]
  exact hx
def spF0 (C : Addr) (pre : Nat → Nat → RF → Prop) (fn : Nat → Nat → RF → RF) : Sp := fun vs H Q _ => ∃ (x r : Addr) (s e : Nat) (f : RF), vs = [.ref x] ∧ FAt C H x r s e f ∧ RF.WF s e f ∧ pre s e f ∧ ∀ H', FAt C H' x r s e (fn s e f) → Fr2 x r H H' → Q .non H'
def spG (C : Addr) (fn : Nat → Nat → RF → RF) : Sp := fun vs H Q _ => ∃ (x r : Addr) (s e : Nat) (f : RF), vs = [.ref x] ∧ FAt C H x r s e f ∧ RF.WF s e { f with pl := f.pl + 1 } ∧ ∀ H', FAt C H' x r s e (fn s e f) → Fr2 x r H H' → Q .non H'
def spInit (C : Addr) : Sp := fun vs H Q _ => ∃ (x dx r : Addr) (s e : Nat) (row : List Nat), vs = [.ref x, .ref r, .int (s : Int), .int (e : Int)] ∧ H x = some (.ins C dx []) ∧ H r = some (.lst (nV row)) ∧ x ≠ r ∧ s < e ∧ e ≤ row.length ∧ row.length ≤ 2000 ∧ ∀ H', FAt C H' x r s e (RF.init row s e) → Fr2 x r H H' → Q .non H'
def spF1 (C : Addr) (pre : Nat → Nat → RF → Prop) (fn : Nat → Nat → Bool → RF → RF) : Sp := fun vs H Q _ => ∃ (x r : Addr) (s e : Nat) (f : RF) (b : Bool), vs = [.ref x, .bl b] ∧ FAt C H x r s e f ∧ RF.WF s e f ∧ pre s e f ∧ ∀ H', FAt C H' x r s e (fn s e b f) → Fr2 x r H H' → Q .non H'
def spTurn (C : Addr) : Sp := fun vs H Q _ => ∃ (x r : Addr) (s e lo : Nat) (f : RF), vs = [.ref x, .int (lo : Int)] ∧ FAt C H x r s e f ∧ RF.WF s e f ∧ lo ≤ f.pl ∧ ∀ H', FAt C H' x r s e (f.turn lo) → Fr2 x r H H' → Q .non H'
theorem dnF {n m : Nat} (h : n ≠ m) : V.bl (decide (V.int (n : Int) = V.int (m : Int))) = .bl false := by
  refine congrArg V.bl (decide_eq_false fun e => h ?_)
  have := V.int.inj e
  omega
theorem dnT {n m : Nat} (h : n = m) : V.bl (decide (V.int (n : Int) = V.int (m : Int))) = .bl true := congrArg V.bl (decide_eq_true (by rw [h]))
def noP (_ _ : Nat) (_ : RF) : Prop := True
namespace RF
variable {s e : Nat} {f : RF}
theorem WF.rowSame (w : WF s e f) {f' : RF} (h1 : f'.row = f.row) (h2 : f'.pl = f.pl) (h3 : f'.eq = f.eq) : WF s e f' := by
  obtain ⟨a, b, c, d, g⟩ := w
  exact ⟨by rw [h2]; exact a, by rw [h2]; exact b, by rw [h1]; exact c, by rw [h2, h3]; exact d, by rw [h1]; exact g⟩
theorem WF.finish (w : WF s e f) : WF s e (f.finish s) := w.rowSame rfl rfl rfl
theorem WF.askUp (w : WF s e f) : WF s e (f.askUp s e) := by
  unfold RF.askUp
  split
  · exact w.rowSame rfl rfl rfl
  · exact w.finish
theorem WF.pre5 (w : WF s e f) : WF s e { ((RF.turnEq f).turn s : RF) with st := 5 } := by
  have w1 := w.turnEq
  exact (w1.turn (Nat.le_of_lt w1.sp)).rowSame rfl rfl rfl
theorem WF.rise (w : WF s e f) : WF s e (f.rise s e) := w.pre5.askUp
theorem WF.ask (w : WF s e f) : WF s e (f.ask s e) := by
  unfold RF.ask
  split
  · exact w.rowSame rfl rfl rfl
  · split
    · exact w.rise
    · exact w.finish
theorem WF.next (w : WF s e f) (h : f.pl < e) : WF s e { f with pl := f.pl + 1 } := by
  obtain ⟨a, b, c, d, g⟩ := w
  exact ⟨by show s < f.pl + 1; omega, h, c, by show f.eq + s < f.pl + 1; omega, g⟩
theorem WF.goOn (w : WF s e f) (h : f.pl < e) : WF s e (f.goOn s e) := (w.next h).ask
theorem WF.st (w : WF s e f) (k : Nat) : WF s e { f with st := k } := w.rowSame rfl rfl rfl
theorem WF.fall (w : WF s e f) (h : f.pl < e) : WF s e (f.fall s e) := (w.st 3).goOn h
theorem WF.eq1 (w : WF s e f) (h : f.pl < e) : WF s e { f with eq := f.eq + 1, pl := f.pl + 1, st := 3 } := by
  obtain ⟨a, b, c, d, g⟩ := w
  exact ⟨by show s < f.pl + 1; omega, h, c, by show f.eq + 1 + s < f.pl + 1; omega, g⟩
theorem WF.take (w : WF s e f) (h : f.pl < e) (b : Bool) : WF s e (f.take s e b) := by
  unfold RF.take
  split
  · unfold RF.take1
    split
    · exact w.goOn h
    · split
      · exact w.fall h
      · exact w.rowSame rfl rfl rfl
  · split
    · unfold RF.take2
      split
      · exact w.finish
      · exact (w.turn (Nat.le_of_lt w.sp)).fall h
    · split
      · unfold RF.take3
        split
        · exact w.turnEq.goOn (by rw [turnEq_pl]; exact h)
        · exact w.rowSame rfl rfl rfl
      · split
        · unfold RF.take4
          split
          · exact w.rise
          · exact (w.eq1 h).ask
        · unfold RF.take5
          split
          · exact w.finish
          · exact w.goOn h
/-- what waits is asked ahead of the end -/
def Ahead (e : Nat) (f : RF) : Prop := f.wt ≠ none → f.pl < e
theorem ahead_fin : Ahead e (f.finish s) := fun h => absurd rfl h
theorem ahead_askUp : Ahead e (f.askUp s e) := by
  unfold RF.askUp
  split
  · rename_i h
    exact fun _ => h
  · exact ahead_fin
theorem ahead_ask : Ahead e (f.ask s e) := by
  unfold RF.ask
  split
  · rename_i h
    exact fun _ => h
  · split
    · exact ahead_askUp
    · exact ahead_fin
theorem ahead_take (h : f.pl < e) (b : Bool) : Ahead e (f.take s e b) := by
  unfold RF.take
  split
  · unfold RF.take1
    split
    · exact ahead_ask
    · split
      · exact ahead_ask
      · exact fun _ => h
  · split
    · unfold RF.take2
      split
      · exact ahead_fin
      · exact ahead_ask
    · split
      · unfold RF.take3
        split
        · exact ahead_ask
        · exact fun _ => h
      · split
        · unfold RF.take4
          split
          · exact ahead_askUp
          · exact ahead_ask
        · unfold RF.take5
          split
          · exact ahead_fin
          · exact ahead_ask
end RF
end L2

namespace L2
open PySem PySem.Spec PyProof.Rows
namespace RF
variable {s e : Nat} {f : RF}
/-! rows stay rows of the same items -/
theorem turned_perm {row : List Nat} {lo hi : Nat} (h : lo ≤ hi) : (turned row lo hi).Perm row := by
  unfold turned
  have e1 : row = row.take lo ++ (row.drop lo).take (hi - lo) ++ row.drop hi := by
    have a1 : row.drop hi = (row.drop lo).drop (hi - lo) := by
      rw [List.drop_drop]
      congr 1
      omega
    rw [a1, List.append_assoc, List.take_append_drop, List.take_append_drop]
  have e2 : (row.take lo ++ ((row.drop lo).take (hi - lo)).reverse ++ row.drop hi).Perm (row.take lo ++ (row.drop lo).take (hi - lo) ++ row.drop hi) :=
    List.Perm.append_right _ (List.Perm.append_left _ (List.reverse_perm _))
  exact e2.trans (by rw [← e1])
theorem turn_perm (lo : Nat) (h : lo ≤ f.pl) : (f.turn lo).row.Perm f.row := turned_perm h
theorem turnEq_perm : f.turnEq.row.Perm f.row := by
  unfold RF.turnEq
  split
  · exact turned_perm (by omega)
  · exact List.Perm.refl _
theorem askUp_row : (f.askUp s e).row = f.row := by
  unfold RF.askUp
  split <;> rfl
theorem rise_perm (w : WF s e f) : (f.rise s e).row.Perm f.row := by
  unfold RF.rise
  rw [askUp_row]
  have w1 := w.turnEq
  exact (turn_perm s (Nat.le_of_lt w1.sp)).trans turnEq_perm
theorem ask_perm (w : WF s e f) : (f.ask s e).row.Perm f.row := by
  unfold RF.ask
  split
  · exact List.Perm.refl _
  · split
    · exact rise_perm w
    · exact List.Perm.refl _
theorem take_perm (w : WF s e f) (h : f.pl < e) (b : Bool) : (f.take s e b).row.Perm f.row := by
  unfold RF.take
  split
  · unfold RF.take1
    split
    · exact ask_perm (w.next h)
    · split
      · exact ask_perm ((w.st 3).next h)
      · exact List.Perm.refl _
  · split
    · unfold RF.take2
      split
      · exact List.Perm.refl _
      · exact (ask_perm (((w.turn (Nat.le_of_lt w.sp)).st 3).next h)).trans (turn_perm s (Nat.le_of_lt w.sp))
    · split
      · unfold RF.take3
        split
        · exact (ask_perm (w.turnEq.next (by rw [turnEq_pl]; exact h))).trans turnEq_perm
        · exact List.Perm.refl _
      · split
        · unfold RF.take4
          split
          · exact rise_perm w
          · exact ask_perm (w.eq1 h)
        · unfold RF.take5
          split
          · exact List.Perm.refl _
          · exact ask_perm (w.next h)
/-! a measure: how many questions may still come -/
def stw (k : Nat) : Nat := if k = 1 then 1 else if k = 3 then 2 else if k = 4 then 1 else 0
theorem stw_le (k : Nat) : stw k ≤ 2 := by
  unfold stw
  split
  · omega
  · split
    · omega
    · split <;> omega
def mu (e : Nat) (f : RF) : Nat := if f.wt = none then 0 else 1 + 3 * (e - f.pl) + stw f.st
theorem mu_le (e : Nat) (f : RF) : mu e f ≤ 1 + 3 * (e - f.pl) + stw f.st := by
  unfold mu
  split <;> omega
theorem mu_fin : mu e (f.finish s) = 0 := rfl
theorem mu_askUp : mu e (f.askUp s e) ≤ 1 + 3 * (e - f.pl) + stw f.st := by
  unfold RF.askUp
  split
  · exact mu_le e _
  · rw [mu_fin]
    omega
theorem rise_pl : (f.turnEq.turn s).pl = f.pl := turnEq_pl f
theorem mu_rise : mu e (f.rise s e) ≤ 1 + 3 * (e - f.pl) := by
  unfold RF.rise
  refine Nat.le_trans mu_askUp ?_
  show 1 + 3 * (e - (f.turnEq.turn s).pl) + 0 ≤ _
  rw [rise_pl]
  omega
theorem mu_ask : mu e (f.ask s e) ≤ 1 + 3 * (e - f.pl) + stw f.st := by
  unfold RF.ask
  split
  · exact mu_le e _
  · split
    · have := mu_rise (s := s) (e := e) (f := f)
      omega
    · rw [mu_fin]
      omega
theorem mu_goOn : mu e (f.goOn s e) ≤ 1 + 3 * (e - (f.pl + 1)) + stw f.st := mu_ask
theorem mu_fall : mu e (f.fall s e) ≤ 1 + 3 * (e - (f.pl + 1)) + 2 := mu_ask
theorem mu_take (hw : f.wt ≠ none) (h : f.pl < e) (b : Bool) : mu e (f.take s e b) < mu e f := by
  have h0 : mu e f = 1 + 3 * (e - f.pl) + stw f.st := by
    unfold mu
    rw [if_neg hw]
  rw [h0]
  unfold RF.take
  split
  · rename_i h1
    rw [show stw f.st = 1 by rw [h1]; rfl]
    unfold RF.take1
    split
    · have := mu_goOn (s := s) (e := e) (f := f)
      rw [show stw f.st = 1 by rw [h1]; rfl] at this
      omega
    · split
      · have := mu_fall (s := s) (e := e) (f := f)
        omega
      · have := mu_le e { f with st := 2, wt := some (f.row.getD s 0, f.row.getD (f.pl - 1) 0) }
        have e2 : stw ({ f with st := 2, wt := some (f.row.getD s 0, f.row.getD (f.pl - 1) 0) } : RF).st = 0 := rfl
        rw [e2] at this
        have e3 : ({ f with st := 2, wt := some (f.row.getD s 0, f.row.getD (f.pl - 1) 0) } : RF).pl = f.pl := rfl
        rw [e3] at this
        omega
  · split
    · rename_i h1
      unfold RF.take2
      split
      · rw [mu_fin]
        omega
      · have := mu_fall (s := s) (e := e) (f := f.turn s)
        have e3 : (f.turn s).pl = f.pl := rfl
        rw [e3] at this
        omega
    · split
      · rename_i h1
        rw [show stw f.st = 2 by rw [h1]; rfl]
        unfold RF.take3
        split
        · have := mu_goOn (s := s) (e := e) (f := f.turnEq)
          rw [turnEq_pl, turnEq_st, show stw f.st = 2 by rw [h1]; rfl] at this
          omega
        · have := mu_le e { f with st := 4, wt := some (f.row.getD (f.pl - 1) 0, f.row.getD f.pl 0) }
          have e2 : stw ({ f with st := 4, wt := some (f.row.getD (f.pl - 1) 0, f.row.getD f.pl 0) } : RF).st = 1 := rfl
          rw [e2] at this
          have e3 : ({ f with st := 4, wt := some (f.row.getD (f.pl - 1) 0, f.row.getD f.pl 0) } : RF).pl = f.pl := rfl
          rw [e3] at this
          omega
      · split
        · rename_i h1
          rw [show stw f.st = 1 by rw [h1]; rfl]
          unfold RF.take4
          split
          · have := mu_rise (s := s) (e := e) (f := f)
            omega
          · have := mu_goOn (s := s) (e := e) (f := { f with eq := f.eq + 1, st := 3 })
            have e2 : stw ({ f with eq := f.eq + 1, st := 3 } : RF).st = 2 := rfl
            rw [e2] at this
            have e3 : ({ f with eq := f.eq + 1, st := 3 } : RF).pl = f.pl := rfl
            rw [e3] at this
            omega
        · unfold RF.take5
          split
          · rw [mu_fin]
            omega
          · have := mu_goOn (s := s) (e := e) (f := f)
            omega
/-! what waits are two items of the row -/
def Two (f : RF) : Prop := ∀ q, f.wt = some q → ∃ k l, q = (f.row.getD k 0, f.row.getD l 0) ∧ k < f.row.length ∧ l < f.row.length ∧ k ≠ l
theorem two_none (h : f.wt = none) : Two f := fun q e => by rw [h] at e; cases e
theorem two_mk {f : RF} {k l : Nat} (h : f.wt = some (f.row.getD k 0, f.row.getD l 0)) (h1 : k < f.row.length) (h2 : l < f.row.length) (h3 : k ≠ l) : Two f := fun q e => by
  rw [h] at e
  exact ⟨k, l, (Option.some.inj e).symm, h1, h2, h3⟩
theorem two_up {f' : RF} (a : 0 < f'.pl) (c : e ≤ f'.row.length) : Two (f'.askUp s e) := by
  unfold RF.askUp
  split
  · rename_i h
    exact two_mk (k := f'.pl) (l := f'.pl - 1) rfl (by show f'.pl < f'.row.length; omega) (by show f'.pl - 1 < f'.row.length; omega) (by omega)
  · exact two_none rfl
theorem two_rise (w : WF s e f) : Two (f.rise s e) := by
  have w2 := w.pre5
  exact two_up (Nat.lt_of_le_of_lt (Nat.zero_le _) w2.sp) w2.er
theorem two_ask (w : WF s e f) : Two (f.ask s e) := by
  have := w.sp; have := w.er
  unfold RF.ask
  split
  · rename_i h
    exact two_mk (k := f.pl) (l := f.pl - 1) rfl (by show f.pl < f.row.length; omega) (by show f.pl - 1 < f.row.length; omega) (by omega)
  · split
    · exact two_rise w
    · exact two_none rfl
theorem two_take (w : WF s e f) (h : f.pl < e) (b : Bool) : Two (f.take s e b) := by
  have b1 := w.sp; have b2 := w.er
  unfold RF.take
  split
  · unfold RF.take1
    split
    · exact two_ask (w.next h)
    · split
      · exact two_ask ((w.st 3).next h)
      · exact two_mk (k := s) (l := f.pl - 1) rfl (by show s < f.row.length; omega) (by show f.pl - 1 < f.row.length; omega) (by omega)
  · split
    · unfold RF.take2
      split
      · exact two_none rfl
      · exact two_ask (((w.turn (Nat.le_of_lt w.sp)).st 3).next h)
    · split
      · unfold RF.take3
        split
        · exact two_ask (w.turnEq.next (by rw [turnEq_pl]; exact h))
        · exact two_mk (k := f.pl - 1) (l := f.pl) rfl (by show f.pl - 1 < f.row.length; omega) (by show f.pl < f.row.length; omega) (by omega)
      · split
        · unfold RF.take4
          split
          · exact two_rise w
          · exact two_ask (w.eq1 h)
        · unfold RF.take5
          split
          · exact two_none rfl
          · exact two_ask (w.next h)
/-! the length is there when nothing waits -/
def Len (s : Nat) (f : RF) : Prop := (f.wt = none → f.ln = some (f.pl - s)) ∧ (f.wt ≠ none → f.ln = none)
theorem len_fin : Len s (f.finish s) := ⟨fun _ => rfl, fun h => absurd rfl h⟩
theorem len_some {f : RF} {q : Nat × Nat} (h : f.wt = some q) (h2 : f.ln = none) : Len s f := ⟨fun e => (by rw [h] at e; cases e), fun _ => h2⟩
theorem turnEq_ln (f : RF) : f.turnEq.ln = f.ln := by
  unfold RF.turnEq
  split <;> rfl
theorem len_up {f' : RF} (h : f'.ln = none) : Len s (f'.askUp s e) := by
  unfold RF.askUp
  split
  · exact len_some rfl h
  · exact len_fin
theorem len_rise (h : f.ln = none) : Len s (f.rise s e) := len_up (by show f.turnEq.ln = none; rw [turnEq_ln]; exact h)
theorem len_ask {f : RF} (h : f.ln = none) : Len s (f.ask s e) := by
  unfold RF.ask
  split
  · exact len_some rfl h
  · split
    · exact len_rise h
    · exact len_fin
theorem len_take (h : f.ln = none) (b : Bool) : Len s (f.take s e b) := by
  unfold RF.take
  split
  · unfold RF.take1
    split
    · exact len_ask h
    · split
      · exact len_ask h
      · exact len_some rfl h
  · split
    · unfold RF.take2
      split
      · exact len_fin
      · exact len_ask h
    · split
      · unfold RF.take3
        split
        · exact len_ask (by show f.turnEq.ln = none; rw [turnEq_ln]; exact h)
        · exact len_some rfl h
      · split
        · unfold RF.take4
          split
          · exact len_rise h
          · exact len_ask h
        · unfold RF.take5
          split
          · exact len_fin
          · exact len_ask h
/-! all that holds while a run is found -/
structure Good (s e : Nat) (row0 : List Nat) (f : RF) : Prop where
  wf : WF s e f
  ah : Ahead e f
  pm : f.row.Perm row0
  tw : Two f
  le : Len s f
/-- an item of a row of all n -/
theorem item_lt {row row0 : List Nat} {n k : Nat} (h : row.Perm row0) (h0 : row0.Perm (List.range n)) (hk : k < row.length) : row.getD k 0 < n := by
  refine List.mem_range.mp ((h.trans h0).mem_iff.mp ?_)
  rw [List.getD_eq_getElem?_getD, List.getElem?_eq_getElem hk]
  exact List.getElem_mem hk
theorem Good.items {row0 : List Nat} {n : Nat} (g : Good s e row0 f) (h0 : row0.Perm (List.range n)) {q : Nat × Nat} (h : f.wt = some q) : q.1 < n ∧ q.2 < n ∧ q.1 ≠ q.2 := by
  obtain ⟨k, l, rfl, h1, h2, h3⟩ := g.tw q h
  refine ⟨item_lt g.pm h0 h1, item_lt g.pm h0 h2, fun e => h3 ?_⟩
  have nd : f.row.Nodup := (g.pm.trans h0).nodup_iff.mpr List.nodup_range
  have e2 : f.row.getD k 0 = f.row.getD l 0 := e
  rw [List.getD_eq_getElem?_getD, List.getD_eq_getElem?_getD, List.getElem?_eq_getElem h1, List.getElem?_eq_getElem h2] at e2
  exact (List.getElem_inj nd).mp e2
theorem Good.take {row0 : List Nat} (g : Good s e row0 f) (h : f.wt ≠ none) (b : Bool) : Good s e row0 (f.take s e b) :=
  ⟨g.wf.take (g.ah h) b, ahead_take (g.ah h) b, (take_perm g.wf (g.ah h) b).trans g.pm, two_take g.wf (g.ah h) b, len_take (g.le.2 h) b⟩
theorem Good.init {row : List Nat} (h1 : s < e) (h2 : e ≤ row.length) (h3 : row.length ≤ 2000) : Good s e row (RF.init row s e) := by
  have w : WF s e { row := row, pl := s + 1, eq := 0, st := 1, wt := none, ln := none } := ⟨by show s < s + 1; omega, by show s + 1 ≤ e; omega, h2, by show 0 + s < s + 1; omega, h3⟩
  exact ⟨w.ask, ahead_ask, ask_perm w, two_ask w, len_ask rfl⟩
/-- one question more, answered as ls says -/
def stp (ls : Nat × Nat → Bool) (s e : Nat) (f : RF) : RF := match f.wt with
  | none => f
  | some q => f.take s e (ls q)
def stps (ls : Nat × Nat → Bool) (s e : Nat) (f : RF) : Nat → RF
  | 0 => f
  | n + 1 => stp ls s e (stps ls s e f n)
theorem Good.stp {row0 : List Nat} (ls : Nat × Nat → Bool) (g : Good s e row0 f) : Good s e row0 (f.stp ls s e) := by
  unfold RF.stp
  split
  · exact g
  · rename_i q h
    exact g.take (by rw [h]; exact Option.some_ne_none _) _
theorem Good.stps {row0 : List Nat} (ls : Nat × Nat → Bool) (g : Good s e row0 f) : ∀ n, Good s e row0 (f.stps ls s e n)
  | 0 => g
  | n + 1 => (Good.stps ls g n).stp ls
theorem stps_next {ls : Nat × Nat → Bool} {n : Nat} {q : Nat × Nat} (h : (f.stps ls s e n).wt = some q) : f.stps ls s e (n + 1) = (f.stps ls s e n).take s e (ls q) := by
  show RF.stp ls s e (f.stps ls s e n) = _
  unfold RF.stp
  rw [h]
theorem stps_end {ls : Nat × Nat → Bool} {n : Nat} (h : (f.stps ls s e n).wt = none) : f.stps ls s e (n + 1) = f.stps ls s e n := by
  show RF.stp ls s e (f.stps ls s e n) = _
  unfold RF.stp
  rw [h]
theorem stps_stay {ls : Nat × Nat → Bool} {n : Nat} (h : (f.stps ls s e n).wt = none) : ∀ k, f.stps ls s e (n + k) = f.stps ls s e n
  | 0 => rfl
  | k + 1 => by
    have ih := stps_stay h k
    show RF.stps ls s e f ((n + k) + 1) = _
    rw [stps_end (by rw [ih]; exact h), ih]
/-- the first n questions -/
def asks (ls : Nat × Nat → Bool) (s e : Nat) (f : RF) (n : Nat) : List (Nat × Nat) := (List.range n).map fun i => ((f.stps ls s e i).wt).getD (0, 0)
theorem asks_len (ls : Nat × Nat → Bool) (n : Nat) : (f.asks ls s e n).length = n := by
  unfold asks
  rw [List.length_map, List.length_range]
theorem asks_next {ls : Nat × Nat → Bool} {n : Nat} {q : Nat × Nat} (h : (f.stps ls s e n).wt = some q) : f.asks ls s e (n + 1) = f.asks ls s e n ++ [q] := by
  unfold asks
  rw [List.range_succ, List.map_append, List.map_singleton, h]
  rfl
theorem asks_at {ls : Nat × Nat → Bool} {n i : Nat} (h : i < n) : (f.asks ls s e n)[i]? = some (((f.stps ls s e i).wt).getD (0, 0)) := by
  unfold asks
  rw [List.getElem?_map, List.getElem?_range h]
  rfl
end RF
/-- by the keys -/
def less (ns : List Int) (q : Nat × Nat) : Bool := decide (ns.getD q.1 0 < ns.getD q.2 0)
/-- questions, tuples of two items each, in a list -/
def PairAt (H : Hp) (v : V) (q : Nat × Nat) : Prop := ∃ t, v = .ref t ∧ H t = some (.tup [.int (q.1 : Int), .int (q.2 : Int)])
def QAt (H : Hp) (l : Addr) (qs : List (Nat × Nat)) : Prop := ∃ ts : List V, H l = some (.lst ts) ∧ ts.length = qs.length ∧ ∀ (i : Nat) (v : V) (q : Nat × Nat), ts[i]? = some v → qs[i]? = some q → PairAt H v q
theorem PairAt.keep {H H' : Hp} {v : V} {q : Nat × Nat} (h : PairAt H v q) (k : ∀ t i j, H t = some (.tup [.int i, .int j]) → H' t = some (.tup [.int i, .int j])) : PairAt H' v q := by
  obtain ⟨t, e, g⟩ := h
  exact ⟨t, e, k _ _ _ g⟩
theorem QAt.keep {H H' : Hp} {l : Addr} {qs : List (Nat × Nat)} (h : QAt H l qs) (kl : ∀ x, H l = some x → H' l = some x) (k : ∀ t i j, H t = some (.tup [.int i, .int j]) → H' t = some (.tup [.int i, .int j])) : QAt H' l qs := by
  obtain ⟨ts, g, n, a⟩ := h
  exact ⟨ts, kl _ g, n, fun i v q h1 h2 => (a i v q h1 h2).keep k⟩
theorem QAt.same {H H' : Hp} {l : Addr} {qs : List (Nat × Nat)} (h : QAt H l qs) (k : Same H H') : QAt H' l qs := h.keep (fun _ => k _ _) (fun _ _ _ => k _ _)
theorem QAt.nil {H : Hp} {l : Addr} (h : H l = some (.lst [])) : QAt H l [] := ⟨[], h, rfl, fun i v q h1 => by simp at h1⟩
theorem QAt.push {H : Hp} {l : Addr} {qs : List (Nat × Nat)} {ts : List V} (h : H l = some (.lst ts)) (hq : QAt H l qs) {v : V} {q : Nat × Nat} (hv : PairAt H v q) : QAt (upd H l (.lst (ts ++ [v]))) l (qs ++ [q]) := by
  obtain ⟨ts', g, n, a⟩ := hq
  rw [h] at g
  cases g
  have k : ∀ t i j, H t = some (.tup [.int i, .int j]) → upd H l (.lst (ts ++ [v])) t = some (.tup [.int i, .int j]) := fun t i j ht => by
    rw [upd_ne (ne_of ht h (fun e => by cases e))]
    exact ht
  refine ⟨ts ++ [v], upd_same, by simp [n], fun i v' q' h1 h2 => ?_⟩
  by_cases hi : i < ts.length
  · rw [List.getElem?_append_left hi] at h1
    rw [List.getElem?_append_left (by omega)] at h2
    exact (a i v' q' h1 h2).keep k
  · rw [List.getElem?_append_right (by omega)] at h1
    rw [List.getElem?_append_right (by omega)] at h2
    have e0 : i - ts.length = 0 := by
      cases e1 : i - ts.length with
      | zero => rfl
      | succ m =>
        rw [e1] at h1
        simp at h1
    have e0' : i - qs.length = 0 := by omega
    rw [e0] at h1
    rw [e0'] at h2
    cases h1
    cases h2
    exact hv.keep k
end L2

namespace L2
open PySem PySem.Spec PyProof.Rows
/-! ### the law's own walk -/
structure WS where
  row : List Nat
  pl : Nat
  eq : Nat
  st : Nat
namespace WS
def fallRow (w : WS) : List Nat := RF.turned (if 0 < w.eq then RF.turned w.row (w.pl - w.eq - 1) w.pl else w.row) 0 w.pl
def fall (w : WS) : WS := { w with row := fallRow w }
def ans (b : Bool) (w : WS) : WS :=
  if w.st = 1 ∧ b = true then { w with st := if 1 < w.pl then 2 else 3, pl := w.pl + (if w.pl = 1 then 1 else 0) }
  else if w.st = 2 ∧ b = true then { w with st := 0 }
  else if w.st = 2 then { w with row := RF.turned w.row 0 w.pl, st := 3, pl := w.pl + 1 }
  else if w.st = 3 ∧ b = true then { w with row := if 0 < w.eq then RF.turned w.row (w.pl - w.eq - 1) w.pl else w.row, eq := 0, pl := w.pl + 1 }
  else if w.st = 3 then { w with st := 4 }
  else if w.st = 4 ∧ b = true then { w with row := fallRow w, st := 5 }
  else if w.st = 4 then { w with st := 3, eq := w.eq + 1, pl := w.pl + 1 }
  else if b = true then { w with st := 0 }
  else { w with pl := w.pl + 1 }
def lk (size : Nat) (w : WS) : Option (Nat × Nat) :=
  if w.st = 2 then some (w.row.getD 0 0, w.row.getD (w.pl - 1) 0)
  else if w.st = 4 then some (w.row.getD (w.pl - 1) 0, w.row.getD w.pl 0)
  else if w.pl < size then some (w.row.getD w.pl 0, w.row.getD (w.pl - 1) 0) else none
/-- the walk's state behind a look that finds no question -/
def past (size : Nat) (w : WS) : WS := if w.st = 3 then { w with row := fallRow w, st := 5 } else { w with st := 0 }
/-- how the walk stands to the finder: 3 a question waits, 2 and 1 and 0 the end is told in so many turns -/
def At (size : Nat) (w : WS) (f : RF) : Nat → Prop
  | 3 => ∃ q, f.wt = some q ∧ w.row = f.row ∧ w.pl = f.pl ∧ w.st = f.st ∧ 1 ≤ w.st ∧ w.st ≤ 5 ∧ (w.st ≠ 5 → w.eq = f.eq) ∧ lk size w = some q
  | 2 => f.wt = none ∧ w.st = 3 ∧ size ≤ w.pl ∧ w.pl = f.pl ∧ fallRow w = f.row
  | 1 => f.wt = none ∧ (w.st = 1 ∨ w.st = 5) ∧ size ≤ w.pl ∧ w.pl = f.pl ∧ w.row = f.row
  | 0 => f.wt = none ∧ w.st = 0 ∧ w.pl = f.pl ∧ w.row = f.row
  | _ => False
theorem at_ask {size : Nat} {w : WS} {f : RF} (h1 : w.row = f.row) (h2 : w.pl = f.pl) (h3 : w.st = f.st) (h4 : w.st = 1 ∨ w.st = 3 ∨ w.st = 5) (h5 : w.st ≠ 5 → w.eq = f.eq) : ∃ t, t ≤ 3 ∧ At size w (f.ask 0 size) t := by
  unfold RF.ask
  by_cases hp : f.pl < size
  · rw [if_pos hp]
    refine ⟨3, Nat.le_refl _, _, rfl, h1, h2, h3, by omega, by omega, h5, ?_⟩
    unfold lk
    rw [if_neg (by omega), if_neg (by omega), if_pos (by omega), h1, h2]
  · rw [if_neg hp]
    by_cases h : f.st = 3
    · rw [if_pos h]
      have e1 : f.rise 0 size = RF.finish 0 { (f.turnEq.turn 0 : RF) with st := 5 } := by
        unfold RF.rise RF.askUp
        rw [if_neg (by show ¬ f.turnEq.pl < size; rw [RF.turnEq_pl]; exact hp)]
      rw [e1]
      refine ⟨2, by omega, rfl, by omega, by omega, ?_, ?_⟩
      · show w.pl = f.turnEq.pl
        rw [RF.turnEq_pl, h2]
      · show fallRow w = RF.turned f.turnEq.row 0 f.turnEq.pl
        rw [RF.turnEq_pl]
        unfold fallRow RF.turnEq
        rw [h1, h2, h5 (by omega)]
        by_cases h0 : 0 < f.eq
        · rw [if_pos h0, if_pos h0]
          rfl
        · rw [if_neg h0, if_neg h0]
    · rw [if_neg h]
      exact ⟨1, by omega, rfl, by omega, by omega, h2, h1⟩
theorem at_ans {size : Nat} {w : WS} {f : RF} (hf : 0 < f.pl) (h : At size w f 3) (b : Bool) : ∃ t, t ≤ 3 ∧ At size (w.ans b) (f.take 0 size b) t := by
  obtain ⟨q, hq, h1, h2, h3, h4, h5, h6, h7⟩ := h
  unfold ans RF.take
  by_cases s1 : w.st = 1
  · rw [if_pos (show f.st = 1 by omega)]
    unfold RF.take1
    cases b with
    | false =>
      rw [if_neg (by simp), if_neg (by simp), if_neg (by omega), if_neg (by simp), if_neg (by omega), if_neg (by simp), if_neg (by omega), if_neg (by simp), if_pos rfl]
      exact at_ask (w := { w with pl := w.pl + 1 }) (f := { f with pl := f.pl + 1 }) h1 (by show w.pl + 1 = f.pl + 1; omega) h3 (.inl s1) h6
    | true =>
      rw [if_pos ⟨s1, rfl⟩, if_neg (show ¬ (true = false) by decide)]
      by_cases hp : f.pl = 0 + 1
      · rw [if_pos hp, if_neg (show ¬ 1 < w.pl by omega), if_pos (show w.pl = 1 by omega)]
        exact at_ask (w := { w with st := 3, pl := w.pl + 1 }) (f := { f with st := 3, pl := f.pl + 1 }) h1 (by show w.pl + 1 = f.pl + 1; omega) rfl (.inr (.inl rfl)) (fun _ => h6 (by omega))
      · rw [if_neg hp, if_pos (show 1 < w.pl by omega), if_neg (show ¬ w.pl = 1 by omega)]
        refine ⟨3, Nat.le_refl _, _, rfl, h1, h2, rfl, by show 1 ≤ 2; omega, by show 2 ≤ 5; omega, fun _ => h6 (by omega), ?_⟩
        unfold lk
        rw [if_pos rfl, h1, Nat.add_zero, h2]
  rw [if_neg (fun e => s1 e.1), if_neg (show ¬ f.st = 1 by omega)]
  by_cases s2 : w.st = 2
  · rw [if_pos (show f.st = 2 by omega)]
    unfold RF.take2
    cases b with
    | true =>
      rw [if_pos ⟨s2, rfl⟩, if_pos rfl]
      exact ⟨0, by omega, rfl, rfl, h2, h1⟩
    | false =>
      rw [if_neg (by simp), if_pos s2, if_neg (by simp)]
      exact at_ask (w := { w with row := RF.turned w.row 0 w.pl, st := 3, pl := w.pl + 1 }) (f := { (f.turn 0 : RF) with st := 3, pl := (f.turn 0).pl + 1 }) (by show RF.turned w.row 0 w.pl = RF.turned f.row 0 f.pl; rw [h1, h2]) (by show w.pl + 1 = f.pl + 1; omega) rfl (.inr (.inl rfl)) (fun _ => h6 (by omega))
  rw [if_neg (fun e => s2 e.1), if_neg s2, if_neg (show ¬ f.st = 2 by omega)]
  by_cases s3 : w.st = 3
  · rw [if_pos (show f.st = 3 by omega)]
    unfold RF.take3
    cases b with
    | true =>
      rw [if_pos ⟨s3, rfl⟩, if_pos rfl]
      refine at_ask (w := { w with row := if 0 < w.eq then RF.turned w.row (w.pl - w.eq - 1) w.pl else w.row, eq := 0, pl := w.pl + 1 }) (f := { (f.turnEq : RF) with pl := f.turnEq.pl + 1 }) ?_ (by show w.pl + 1 = f.turnEq.pl + 1; rw [RF.turnEq_pl, h2]) (by show w.st = f.turnEq.st; rw [RF.turnEq_st, h3]) (.inr (.inl s3)) (fun _ => ?_)
      · show (if 0 < w.eq then RF.turned w.row (w.pl - w.eq - 1) w.pl else w.row) = f.turnEq.row
        unfold RF.turnEq
        rw [h1, h2, h6 (by omega)]
        by_cases h0 : 0 < f.eq
        · rw [if_pos h0, if_pos h0]
          rfl
        · rw [if_neg h0, if_neg h0]
      · show 0 = f.turnEq.eq
        unfold RF.turnEq
        by_cases h0 : 0 < f.eq
        · rw [if_pos h0]
        · rw [if_neg h0]
          omega
    | false =>
      rw [if_neg (by simp), if_pos s3, if_neg (by simp)]
      refine ⟨3, Nat.le_refl _, _, rfl, h1, h2, rfl, by show 1 ≤ 4; omega, by show 4 ≤ 5; omega, fun _ => h6 (by omega), ?_⟩
      unfold lk
      rw [if_neg (by show ¬ 4 = 2; decide), if_pos rfl, h1, h2]
  rw [if_neg (fun e => s3 e.1), if_neg s3, if_neg (show ¬ f.st = 3 by omega)]
  by_cases s4 : w.st = 4
  · rw [if_pos (show f.st = 4 by omega)]
    unfold RF.take4
    cases b with
    | true =>
      rw [if_pos ⟨s4, rfl⟩, if_pos rfl]
      have e1 : f.rise 0 size = RF.ask 0 size { (f.turnEq.turn 0 : RF) with st := 5 } := by
        unfold RF.rise RF.askUp RF.ask
        rw [if_neg (show ¬ ({ (f.turnEq.turn 0 : RF) with st := 5 } : RF).st = 3 by show ¬ 5 = 3; decide)]
      rw [e1]
      refine at_ask (w := { w with row := fallRow w, st := 5 }) (f := { (f.turnEq.turn 0 : RF) with st := 5 }) ?_ (by show w.pl = f.turnEq.pl; rw [RF.turnEq_pl, h2]) rfl (.inr (.inr rfl)) (fun e => absurd rfl e)
      show fallRow w = RF.turned f.turnEq.row 0 f.turnEq.pl
      rw [RF.turnEq_pl]
      unfold fallRow RF.turnEq
      rw [h1, h2, h6 (by omega)]
      by_cases h0 : 0 < f.eq
      · rw [if_pos h0, if_pos h0]
        rfl
      · rw [if_neg h0, if_neg h0]
    | false =>
      rw [if_neg (by simp), if_pos s4, if_neg (by simp)]
      exact at_ask (w := { w with st := 3, eq := w.eq + 1, pl := w.pl + 1 }) (f := { f with eq := f.eq + 1, st := 3, pl := f.pl + 1 }) h1 (by show w.pl + 1 = f.pl + 1; omega) rfl (.inr (.inl rfl)) (fun _ => by show w.eq + 1 = f.eq + 1; rw [h6 (by omega)])
  rw [if_neg (fun e => s4 e.1), if_neg s4, if_neg (show ¬ f.st = 4 by omega)]
  unfold RF.take5
  cases b with
  | true =>
    rw [if_pos rfl, if_pos rfl]
    exact ⟨0, by omega, rfl, rfl, h2, h1⟩
  | false =>
    rw [if_neg (by simp), if_neg (by simp)]
    exact at_ask (w := { w with pl := w.pl + 1 }) (f := { f with pl := f.pl + 1 }) h1 (by show w.pl + 1 = f.pl + 1; omega) h3 (.inr (.inr (by show w.st = 5; omega))) h6
/-- what the walk keeps between its steps -/
structure Ok (w : WS) : Prop where
  p1 : 0 < w.pl
  pl : w.pl ≤ w.row.length
  eq : w.eq < w.pl
  rl : w.row.length ≤ 2000
theorem fallRow_len {w : WS} (o : Ok w) : (fallRow w).length = w.row.length := by
  have := o.pl; have := o.eq
  unfold fallRow
  by_cases h0 : 0 < w.eq
  · rw [if_pos h0]
    have l1 : (RF.turned w.row (w.pl - w.eq - 1) w.pl).length = w.row.length := RF.turned_len (by omega) o.pl
    rw [RF.turned_len (Nat.zero_le _) (by omega), l1]
  · rw [if_neg h0]
    exact RF.turned_len (Nat.zero_le _) o.pl
theorem Ok.past {w : WS} (o : Ok w) (size : Nat) : Ok (past size w) ∧ (WS.past size w).row.length = w.row.length := by
  obtain ⟨a, b, c, d⟩ := id o
  unfold WS.past
  split
  · have l := fallRow_len o
    exact ⟨⟨a, by show w.pl ≤ (fallRow w).length; omega, c, by show (fallRow w).length ≤ 2000; omega⟩, l⟩
  · exact ⟨⟨a, b, c, d⟩, rfl⟩
theorem Ok.ans {w : WS} (o : Ok w) (h : w.pl < w.row.length) (b : Bool) : Ok (w.ans b) ∧ (w.ans b).row.length = w.row.length := by
  obtain ⟨p1, p2, p3, p4⟩ := id o
  have lf := fallRow_len o
  have l0 : (RF.turned w.row 0 w.pl).length = w.row.length := RF.turned_len (Nat.zero_le _) p2
  have l1 : (if 0 < w.eq then RF.turned w.row (w.pl - w.eq - 1) w.pl else w.row).length = w.row.length := by
    split
    · exact RF.turned_len (by omega) p2
    · rfl
  unfold WS.ans
  split
  · refine ⟨⟨?_, ?_, ?_, p4⟩, rfl⟩
    · show 0 < w.pl + _
      omega
    · show w.pl + (if w.pl = 1 then 1 else 0) ≤ w.row.length
      split <;> omega
    · show w.eq < w.pl + _
      omega
  split
  · exact ⟨⟨p1, p2, p3, p4⟩, rfl⟩
  split
  · exact ⟨⟨by show 0 < w.pl + 1; omega, by show w.pl + 1 ≤ (RF.turned w.row 0 w.pl).length; omega, by show w.eq < w.pl + 1; omega, by show (RF.turned w.row 0 w.pl).length ≤ 2000; omega⟩, l0⟩
  split
  · exact ⟨⟨by show 0 < w.pl + 1; omega, by show w.pl + 1 ≤ (if 0 < w.eq then RF.turned w.row (w.pl - w.eq - 1) w.pl else w.row).length; omega, by show 0 < w.pl + 1; omega, by show (if 0 < w.eq then RF.turned w.row (w.pl - w.eq - 1) w.pl else w.row).length ≤ 2000; omega⟩, l1⟩
  split
  · exact ⟨⟨p1, p2, p3, p4⟩, rfl⟩
  split
  · exact ⟨⟨p1, by show w.pl ≤ (fallRow w).length; omega, p3, by show (fallRow w).length ≤ 2000; omega⟩, lf⟩
  split
  · exact ⟨⟨by show 0 < w.pl + 1; omega, by show w.pl + 1 ≤ w.row.length; omega, by show w.eq + 1 < w.pl + 1; omega, p4⟩, rfl⟩
  split
  · exact ⟨⟨p1, p2, p3, p4⟩, rfl⟩
  · exact ⟨⟨by show 0 < w.pl + 1; omega, by show w.pl + 1 ≤ w.row.length; omega, by show w.eq < w.pl + 1; omega, p4⟩, rfl⟩
end WS
namespace RF
/-- told the answers bs one after another -/
def fed (size : Nat) (bs : List Bool) : Nat → RF
  | 0 => RF.init (List.range size) 0 size
  | k + 1 => match (fed size bs k).wt with
    | none => fed size bs k
    | some _ => (fed size bs k).take 0 size (bs.getD k false)
theorem fed_next {size : Nat} {bs : List Bool} {k : Nat} {q : Nat × Nat} (h : (fed size bs k).wt = some q) : fed size bs (k + 1) = (fed size bs k).take 0 size (bs.getD k false) := by
  show (match (fed size bs k).wt with
    | none => fed size bs k
    | some _ => (fed size bs k).take 0 size (bs.getD k false)) = _
  rw [h]
theorem fed_end {size : Nat} {bs : List Bool} {k : Nat} (h : (fed size bs k).wt = none) : fed size bs (k + 1) = fed size bs k := by
  show (match (fed size bs k).wt with
    | none => fed size bs k
    | some _ => (fed size bs k).take 0 size (bs.getD k false)) = _
  rw [h]
theorem fed_stay {size : Nat} {bs : List Bool} {n : Nat} (h : (fed size bs n).wt = none) : ∀ k, fed size bs (n + k) = fed size bs n
  | 0 => rfl
  | k + 1 => by
    have ih := fed_stay h k
    show fed size bs ((n + k) + 1) = _
    rw [fed_end (by rw [ih]; exact h), ih]
theorem fed_good {size : Nat} (h1 : 0 < size) (h2 : size ≤ 2000) (bs : List Bool) : ∀ k, Good 0 size (List.range size) (fed size bs k)
  | 0 => Good.init h1 (by rw [List.length_range]; exact Nat.le_refl _) (by rw [List.length_range]; exact h2)
  | k + 1 => by
    have ih := fed_good h1 h2 bs k
    cases h : (fed size bs k).wt with
    | none => rw [fed_end h]; exact ih
    | some q => rw [fed_next h]; exact ih.take (by rw [h]; exact Option.some_ne_none _) _
def askB (size : Nat) (bs : List Bool) (n : Nat) : List (Nat × Nat) := (List.range n).map fun i => ((fed size bs i).wt).getD (0, 0)
theorem askB_len (size : Nat) (bs : List Bool) (n : Nat) : (askB size bs n).length = n := by
  unfold askB
  rw [List.length_map, List.length_range]
theorem askB_next {size : Nat} {bs : List Bool} {n : Nat} {q : Nat × Nat} (h : (fed size bs n).wt = some q) : askB size bs (n + 1) = askB size bs n ++ [q] := by
  unfold askB
  rw [List.range_succ, List.map_append, List.map_singleton, h]
  rfl
end RF
theorem QAt.ne {H : Hp} {l r : Addr} {qs : List (Nat × Nat)} {row : List Nat} (h : QAt H l qs) (hr : H r = some (.lst (nV row))) (n : row ≠ []) : r ≠ l := by
  intro e
  obtain ⟨ts, h1, h2, h3⟩ := h
  rw [← e, hr] at h1
  cases row with
  | nil => exact n rfl
  | cons x rest =>
    have e2 : ts = nV (x :: rest) := (HO.lst.inj (Option.some.inj h1)).symm
    cases qs with
    | nil => rw [e2] at h2; cases h2
    | cons q qs =>
      obtain ⟨t, e3, _⟩ := h3 0 (.int (x : Int)) q (by rw [e2]; rfl) rfl
      cases e3
end L2

namespace L2
open PySem PySem.Spec PyProof.Rows
namespace RF
/-! ### a run at s is a run at 0, moved by s -/
def shRow (s : Nat) (row : List Nat) : List Nat := List.range s ++ row.map (fun i => s + i)
def sh (s : Nat) (g : RF) : RF := { row := shRow s g.row, pl := s + g.pl, eq := g.eq, st := g.st, wt := g.wt.map (fun q => (s + q.1, s + q.2)), ln := g.ln }
variable {s size : Nat} {g : RF}
theorem shRow_len (s : Nat) (row : List Nat) : (shRow s row).length = s + row.length := by
  unfold shRow
  rw [List.length_append, List.length_range, List.length_map]
theorem shRow_range (s n : Nat) : shRow s (List.range n) = List.range (s + n) := by
  unfold shRow
  rw [List.range_add]
theorem turned_sh (s lo hi : Nat) (row : List Nat) : turned (shRow s row) (s + lo) (s + hi) = shRow s (turned row lo hi) := by
  unfold turned shRow
  have l : (List.range s).length = s := List.length_range
  have e1 : (List.range s ++ row.map (fun i => s + i)).take (s + lo) = List.range s ++ (row.take lo).map (fun i => s + i) := by
    rw [List.take_append, List.take_of_length_le (by omega), l, Nat.add_sub_cancel_left, List.map_take]
  have e2 : ∀ k, (List.range s ++ row.map (fun i => s + i)).drop (s + k) = (row.drop k).map (fun i => s + i) := fun k => by
    rw [List.drop_append, List.drop_of_length_le (by omega), l, Nat.add_sub_cancel_left, List.map_drop]
    rfl
  rw [e1, e2, e2, show s + hi - (s + lo) = hi - lo by omega]
  simp only [List.map_append, List.map_reverse, List.map_take, List.append_assoc]
theorem getD_sh {row : List Nat} {k : Nat} (h : k < row.length) : (shRow s row).getD (s + k) 0 = s + row.getD k 0 := by
  unfold shRow
  rw [List.getD_eq_getElem?_getD, List.getD_eq_getElem?_getD, List.getElem?_append_right (by rw [List.length_range]; omega), List.length_range, Nat.add_sub_cancel_left, List.getElem?_map, List.getElem?_eq_getElem h]
  rfl
theorem ext {f g : RF} (h1 : f.row = g.row) (h2 : f.pl = g.pl) (h3 : f.eq = g.eq) (h4 : f.st = g.st) (h5 : f.wt = g.wt) (h6 : f.ln = g.ln) : f = g := by
  cases f
  cases g
  cases h1
  cases h2
  cases h3
  cases h4
  cases h5
  cases h6
  rfl
theorem sh_turn (lo : Nat) : (sh s g).turn (s + lo) = sh s (g.turn lo) := ext (turned_sh s lo g.pl g.row) rfl rfl rfl rfl rfl
theorem sh_turnEq (w : WF 0 size g) : (sh s g).turnEq = sh s g.turnEq := by
  unfold RF.turnEq
  by_cases h : 0 < g.eq
  · have := w.eq
    rw [if_pos h, if_pos (show 0 < (sh s g).eq from h)]
    have e : (sh s g).pl - (sh s g).eq - 1 = s + (g.pl - g.eq - 1) := by show s + g.pl - g.eq - 1 = _; omega
    rw [e, sh_turn]
    rfl
  · rw [if_neg h, if_neg (show ¬ 0 < (sh s g).eq from h)]
theorem sh_fin : (sh s g).finish s = sh s (g.finish 0) := ext rfl rfl rfl rfl rfl (by show some (s + g.pl - s) = some (g.pl - 0); rw [Nat.add_sub_cancel_left]; rfl)
theorem sh_w {g' : RF} {k l : Nat} (h1 : k < g'.row.length) (h2 : l < g'.row.length) : ({ sh s g' with wt := some ((sh s g').row.getD (s + k) 0, (sh s g').row.getD (s + l) 0) } : RF) = sh s { g' with wt := some (g'.row.getD k 0, g'.row.getD l 0) } := by
  refine ext rfl rfl rfl rfl ?_ rfl
  show some ((shRow s g'.row).getD (s + k) 0, (shRow s g'.row).getD (s + l) 0) = some (s + g'.row.getD k 0, s + g'.row.getD l 0)
  rw [getD_sh h1, getD_sh h2]
theorem sh_up {g' : RF} (a : 0 < g'.pl) (c : size ≤ g'.row.length) : (sh s g').askUp s (s + size) = sh s (g'.askUp 0 size) := by
  unfold RF.askUp
  by_cases h : g'.pl < size
  · rw [if_pos h, if_pos (show (sh s g').pl < s + size by show s + g'.pl < s + size; omega)]
    have e : (sh s g').pl - 1 = s + (g'.pl - 1) := by show s + g'.pl - 1 = _; omega
    rw [e]
    exact sh_w (by omega) (by omega)
  · rw [if_neg h, if_neg (show ¬ (sh s g').pl < s + size by show ¬ s + g'.pl < s + size; omega)]
    exact sh_fin
theorem sh_rise (w : WF 0 size g) : (sh s g).rise s (s + size) = sh s (g.rise 0 size) := by
  unfold RF.rise
  have w2 := w.pre5
  have e : ({ ((sh s g).turnEq.turn s : RF) with st := 5 } : RF) = sh s { (g.turnEq.turn 0 : RF) with st := 5 } := by
    have e1 : (sh s g).turnEq.turn s = sh s (g.turnEq.turn 0) := by
      rw [sh_turnEq w]
      exact sh_turn 0
    rw [e1]
    rfl
  rw [e]
  exact sh_up (Nat.lt_of_le_of_lt (Nat.zero_le _) w2.sp) w2.er
theorem sh_ask (w : WF 0 size g) : (sh s g).ask s (s + size) = sh s (g.ask 0 size) := by
  have b1 := w.sp; have b2 := w.er
  unfold RF.ask
  by_cases h : g.pl < size
  · rw [if_pos h, if_pos (show (sh s g).pl < s + size by show s + g.pl < s + size; omega)]
    have e : (sh s g).pl - 1 = s + (g.pl - 1) := by show s + g.pl - 1 = _; omega
    rw [e]
    exact sh_w (by omega) (by omega)
  · rw [if_neg h, if_neg (show ¬ (sh s g).pl < s + size by show ¬ s + g.pl < s + size; omega)]
    by_cases h3 : g.st = 3
    · rw [if_pos h3, if_pos (show (sh s g).st = 3 from h3)]
      exact sh_rise w
    · rw [if_neg h3, if_neg (show ¬ (sh s g).st = 3 from h3)]
      exact sh_fin
theorem sh_goOn (w : WF 0 size { g with pl := g.pl + 1 }) : (sh s g).goOn s (s + size) = sh s (g.goOn 0 size) := by
  unfold RF.goOn
  rw [← sh_ask w]
  rfl
theorem sh_take (w : WF 0 size g) (h : g.pl < size) (b : Bool) : (sh s g).take s (s + size) b = sh s (g.take 0 size b) := by
  have b1 := w.sp; have b2 := w.er
  unfold RF.take
  show (if g.st = 1 then _ else if g.st = 2 then _ else if g.st = 3 then _ else if g.st = 4 then _ else _) = sh s (if g.st = 1 then _ else if g.st = 2 then _ else if g.st = 3 then _ else if g.st = 4 then _ else _)
  by_cases s1 : g.st = 1
  · rw [if_pos s1, if_pos s1]
    unfold RF.take1
    cases b with
    | false =>
      rw [if_pos rfl, if_pos rfl]
      exact sh_goOn (w.next h)
    | true =>
      rw [if_neg (show ¬ (true = false) by decide), if_neg (show ¬ (true = false) by decide)]
      by_cases hp : g.pl = 0 + 1
      · rw [if_pos hp, if_pos (show (sh s g).pl = s + 1 by show s + g.pl = s + 1; omega)]
        exact sh_goOn (g := { g with st := 3 }) ((w.st 3).next h)
      · rw [if_neg hp, if_neg (show ¬ (sh s g).pl = s + 1 by show ¬ s + g.pl = s + 1; omega)]
        have e : (sh s g).pl - 1 = s + (g.pl - 1) := by show s + g.pl - 1 = _; omega
        rw [e]
        exact sh_w (g' := { g with st := 2 }) (k := 0) (l := g.pl - 1) (by show 0 < g.row.length; omega) (by show g.pl - 1 < g.row.length; omega)
  rw [if_neg s1, if_neg s1]
  by_cases s2 : g.st = 2
  · rw [if_pos s2, if_pos s2]
    unfold RF.take2
    cases b with
    | true =>
      rw [if_pos rfl, if_pos rfl]
      exact sh_fin
    | false =>
      rw [if_neg (show ¬ (false = true) by decide), if_neg (show ¬ (false = true) by decide)]
      have e : (sh s g).turn s = sh s (g.turn 0) := sh_turn 0
      rw [e]
      exact sh_goOn (g := { (g.turn 0 : RF) with st := 3 }) (((w.turn (Nat.le_of_lt w.sp)).st 3).next h)
  rw [if_neg s2, if_neg s2]
  by_cases s3 : g.st = 3
  · rw [if_pos s3, if_pos s3]
    unfold RF.take3
    cases b with
    | true =>
      rw [if_pos rfl, if_pos rfl, sh_turnEq w]
      exact sh_goOn (w.turnEq.next (by rw [turnEq_pl]; exact h))
    | false =>
      rw [if_neg (show ¬ (false = true) by decide), if_neg (show ¬ (false = true) by decide)]
      have e : (sh s g).pl - 1 = s + (g.pl - 1) := by show s + g.pl - 1 = _; omega
      rw [e]
      exact sh_w (g' := { g with st := 4 }) (k := g.pl - 1) (l := g.pl) (by show g.pl - 1 < g.row.length; omega) (by show g.pl < g.row.length; omega)
  rw [if_neg s3, if_neg s3]
  by_cases s4 : g.st = 4
  · rw [if_pos s4, if_pos s4]
    unfold RF.take4
    cases b with
    | true =>
      rw [if_pos rfl, if_pos rfl]
      exact sh_rise w
    | false =>
      rw [if_neg (show ¬ (false = true) by decide), if_neg (show ¬ (false = true) by decide)]
      exact sh_goOn (g := { g with eq := g.eq + 1, st := 3 }) (w.eq1 h)
  rw [if_neg s4, if_neg s4]
  unfold RF.take5
  cases b with
  | true =>
    rw [if_pos rfl, if_pos rfl]
    exact sh_fin
  | false =>
    rw [if_neg (show ¬ (false = true) by decide), if_neg (show ¬ (false = true) by decide)]
    exact sh_goOn (w.next h)
theorem sh_init (h : 0 < size) (h2 : size ≤ 2000) : RF.init (List.range (s + size)) s (s + size) = sh s (RF.init (List.range size) 0 size) := by
  unfold RF.init
  have w : WF 0 size { row := List.range size, pl := 0 + 1, eq := 0, st := 1, wt := none, ln := none } := ⟨by show 0 < 0 + 1; omega, by show 0 + 1 ≤ size; omega, by show size ≤ (List.range size).length; rw [List.length_range]; exact Nat.le_refl _, by show 0 + 0 < 0 + 1; omega, by show (List.range size).length ≤ 2000; rw [List.length_range]; exact h2⟩
  rw [← sh_ask w]
  congr 1
  exact ext (shRow_range s size).symm rfl rfl rfl rfl rfl
/-! behind the place nothing has moved -/
def Tail (n : Nat) (f : RF) : Prop := ∀ k, f.pl ≤ k → f.row.drop k = (List.range n).drop k
theorem turned_tail {row : List Nat} {lo hi k : Nat} (h : lo ≤ hi) (h2 : hi ≤ row.length) (hk : hi ≤ k) : (turned row lo hi).drop k = row.drop k := by
  unfold turned
  have l : (row.take lo ++ ((row.drop lo).take (hi - lo)).reverse).length = hi := by
    rw [List.length_append, List.length_take, List.length_reverse, List.length_take, List.length_drop]
    omega
  rw [List.drop_append, List.drop_of_length_le (by omega), l, List.drop_drop, List.nil_append]
  congr 1
  omega
section
variable {n : Nat} {f : RF} {e : Nat}
theorem tail_turn {lo : Nat} (t : Tail n f) (h : lo ≤ f.pl) (h2 : f.pl ≤ f.row.length) : Tail n (f.turn lo) := fun k hk => (turned_tail h h2 hk).trans (t k hk)
theorem tail_turnEq (t : Tail n f) (h2 : f.pl ≤ f.row.length) : Tail n f.turnEq := by
  unfold RF.turnEq
  split
  · exact fun k hk => tail_turn t (by omega) h2 k hk
  · exact t
theorem tail_up (t : Tail n f) : Tail n (f.askUp s e) := by
  unfold RF.askUp
  split
  · exact t
  · exact t
theorem tail_rise (w : WF s e f) (t : Tail n f) : Tail n (f.rise s e) := by
  have w1 := w.turnEq
  have h2 : f.pl ≤ f.row.length := Nat.le_trans w.pe w.er
  have t1 : Tail n f.turnEq := tail_turnEq t h2
  exact tail_up (f := { (f.turnEq.turn s : RF) with st := 5 }) (tail_turn t1 (Nat.le_of_lt w1.sp) (Nat.le_trans w1.pe w1.er))
theorem tail_ask (w : WF s e f) (t : Tail n f) : Tail n (f.ask s e) := by
  unfold RF.ask
  split
  · exact t
  · split
    · exact tail_rise w t
    · exact t
theorem tail_next (t : Tail n f) : Tail n { f with pl := f.pl + 1 } := fun k hk => t k (Nat.le_of_succ_le hk)
theorem tail_take (w : WF s e f) (h : f.pl < e) (t : Tail n f) (b : Bool) : Tail n (f.take s e b) := by
  have h2 : f.pl ≤ f.row.length := Nat.le_trans w.pe w.er
  unfold RF.take
  split
  · unfold RF.take1
    split
    · exact tail_ask (w.next h) (tail_next t)
    · split
      · exact tail_ask ((w.st 3).next h) (tail_next t)
      · exact t
  · split
    · unfold RF.take2
      split
      · exact t
      · exact tail_ask (((w.turn (Nat.le_of_lt w.sp)).st 3).next h) (tail_next (tail_turn t (Nat.le_of_lt w.sp) h2))
    · split
      · unfold RF.take3
        split
        · exact tail_ask (w.turnEq.next (by rw [turnEq_pl]; exact h)) (tail_next (tail_turnEq t h2))
        · exact t
      · split
        · unfold RF.take4
          split
          · exact tail_rise w t
          · exact tail_ask (w.eq1 h) (tail_next t)
        · unfold RF.take5
          split
          · exact t
          · exact tail_ask (w.next h) (tail_next t)
end
theorem fed_tail {size : Nat} (h1 : 0 < size) (h2 : size ≤ 2000) (bs : List Bool) : ∀ k, Tail size (fed size bs k)
  | 0 => by
    have w : WF 0 size { row := List.range size, pl := 0 + 1, eq := 0, st := 1, wt := none, ln := none } := ⟨by show 0 < 0 + 1; omega, by show 0 + 1 ≤ size; omega, by show size ≤ (List.range size).length; rw [List.length_range]; exact Nat.le_refl _, by show 0 + 0 < 0 + 1; omega, by show (List.range size).length ≤ 2000; rw [List.length_range]; exact h2⟩
    exact tail_ask w (fun k _ => rfl)
  | k + 1 => by
    have ih := fed_tail h1 h2 bs k
    have g := fed_good h1 h2 bs k
    cases h : (fed size bs k).wt with
    | none => rw [fed_end h]; exact ih
    | some q => rw [fed_next h]; exact tail_take g.wf (g.ah (by rw [h]; exact Option.some_ne_none _)) ih _
theorem fed_congr {size : Nat} {bs cs : List Bool} : ∀ {k : Nat}, (∀ i, i < k → bs.getD i false = cs.getD i false) → fed size bs k = fed size cs k
  | 0, _ => rfl
  | k + 1, h => by
    have ih := fed_congr (size := size) (k := k) (fun i hi => h i (by omega))
    cases e : (fed size bs k).wt with
    | none => rw [fed_end e, fed_end (by rw [← ih]; exact e), ih]
    | some q => rw [fed_next e, fed_next (q := q) (by rw [← ih]; exact e), ih, h k (by omega)]
/-- the steps by the keys are the steps by their answers, moved -/
theorem stps_fed {ls : Nat × Nat → Bool} {s size N : Nat} (h1 : 0 < size) (h2 : size ≤ 2000) (hw : ∀ i, i < N → ((RF.init (List.range (s + size)) s (s + size)).stps ls s (s + size) i).wt ≠ none) :
    ∀ k, k ≤ N → (RF.init (List.range (s + size)) s (s + size)).stps ls s (s + size) k = sh s (fed size (((RF.init (List.range (s + size)) s (s + size)).asks ls s (s + size) N).map ls) k)
  | 0, _ => sh_init h1 h2
  | k + 1, hk => by
    have ih := stps_fed h1 h2 hw k (by omega)
    cases e : ((RF.init (List.range (s + size)) s (s + size)).stps ls s (s + size) k).wt with
    | none => exact absurd e (hw k (by omega))
    | some q =>
      rw [stps_next e]
      rw [ih] at e
      have e0 : ∃ q0, (fed size (((RF.init (List.range (s + size)) s (s + size)).asks ls s (s + size) N).map ls) k).wt = some q0 := by
        cases e1 : (fed size (((RF.init (List.range (s + size)) s (s + size)).asks ls s (s + size) N).map ls) k).wt with
        | none =>
          exfalso
          have e2 : (sh s (fed size (((RF.init (List.range (s + size)) s (s + size)).asks ls s (s + size) N).map ls) k)).wt = none := by
            show Option.map _ _ = none
            rw [e1]
            rfl
          rw [e2] at e
          cases e
        | some q0 => exact ⟨q0, rfl⟩
      obtain ⟨q0, e0⟩ := e0
      have g := fed_good h1 h2 (((RF.init (List.range (s + size)) s (s + size)).asks ls s (s + size) N).map ls) k
      rw [fed_next e0, ih, ← sh_take g.wf (g.ah (by rw [e0]; exact Option.some_ne_none _))]
      congr 1
      rw [List.getD_eq_getElem?_getD, List.getElem?_map, asks_at (by omega), ih, e]
      rfl
theorem range_drop (k n : Nat) (h : k ≤ n) : (List.range n).drop k = (List.range (n - k)).map (fun i => k + i) := by
  have e : List.range n = List.range k ++ (List.range (n - k)).map (fun i => k + i) := by
    rw [← List.range_add]
    congr 1
    omega
  rw [e, List.drop_append, List.drop_of_length_le (by rw [List.length_range]; exact Nat.le_refl _), List.length_range, Nat.sub_self]
  rfl
/-- the whole row, told by what lies ahead, the run and the rest -/
theorem row_split {s size : Nat} {g : RF} (w : WF 0 size g) (t : Tail size g) : (sh s g).row = List.range s ++ ((sh s g).row.drop s).take g.pl ++ (List.range (size - g.pl)).map (fun i => s + g.pl + i) := by
  have l : (List.range s).length = s := List.length_range
  have e1 : (sh s g).row.drop s = g.row.map (fun i => s + i) := by
    show (List.range s ++ g.row.map (fun i => s + i)).drop s = _
    rw [List.drop_append, List.drop_of_length_le (by omega), l, Nat.sub_self]
    rfl
  rw [e1, List.append_assoc]
  show List.range s ++ g.row.map (fun i => s + i) = _
  congr 1
  have e2 : g.row = g.row.take g.pl ++ (List.range (size - g.pl)).map (fun i => g.pl + i) := by
    rw [← range_drop _ _ w.pe, ← t _ (Nat.le_refl _), List.take_append_drop]
  rw [← List.map_take]
  conv => lhs; rw [e2]
  rw [List.map_append, List.map_map]
  congr 1
  exact List.map_congr_left fun i _ => by show s + (g.pl + i) = s + g.pl + i; omega
end RF
end L2

namespace L2
open PySem PySem.Spec PyProof.Rows
/-! ### for over a list or a tuple -/
section
variable {X : Cx} {tg : Expr} {pins : List (Addr × Obj)} {σ : L2.St} {H : Hp} {s : Shared} {a : Addr} {xs : List V} {R : It → Hp → Prop}
theorem lone_fresh (I : Inv X pins σ H s) : ∀ b ∈ [s.heap.objs.size], FpOk X pins H b := fun b hb => by
  rw [List.mem_singleton.mp hb]
  exact I.fpOk (Nat.le_refl _) (I.hok.fresh (Nat.le_refl _))
theorem walk_list (I : Inv X pins σ H s) (h : SqL X.K H a xs) (q : R (Itl X.K a) H) : wpAny (model X.prog X.w) X.A (pyIter (.ref a)) (PIE X pins σ tg R) X.xe s := by
  obtain ⟨items, _, isl, _⟩ := I.list h
  exact wpAny_pyIter_list isl.isList ⟨_, [_], _, _, H, rfl, I.kept (t' := s.toks) (fun _ _ e => Heap.get?_push_of_some _ e), turn_list a _, ⟨_, Heap.get?_push_size _ rfl, rfl, rfl⟩, lone_fresh I, q⟩
theorem walk_tup (I : Inv X pins σ H s) (h : SqT X.K H a xs) (q : R (Itt X.K a) H) : wpAny (model X.prog X.w) X.A (pyIter (.ref a)) (PIE X pins σ tg R) X.xe s := by
  obtain ⟨items, _, ist, _⟩ := I.tuple h
  have ist' : s.heap.IsTuple a items.toArray := ist
  exact wpAny_pyIter_tuple ist' ⟨_, [_], _, _, H, rfl, I.kept (t' := s.toks) (fun _ _ e => Heap.get?_push_of_some _ e), turn_tuple a _, ⟨_, Heap.get?_push_size _ rfl, rfl, rfl⟩, lone_fresh I, q⟩
def iLT (K : PySem.W.Frag) (tl : TE) : TI := fun σ H R => tl σ H fun x H1 => ∃ (a : Addr) (xs : List V), x = .ref a ∧ ((SqL K H1 a xs ∧ R (Itl K a) H1) ∨ (SqT K H1 a xs ∧ R (Itt K a) H1))
theorem pi_lt {l : Expr} {tl : TE} (hl : PE X l tl) : PI X tg l (iLT X.K tl) :=
  ⟨fun pins s σ H R I h => thn (hl.run pins s σ H _ I h) fun v s1 ⟨x, H1, I1, r1, a, xs, e, q⟩ => by
    subst e
    cases r1
    rcases q with ⟨hs, q⟩ | ⟨hs, q⟩
    · exact walk_list I1 hs q
    · exact walk_tup I1 hs q⟩
end
/-- for over the entries, whichever of the two it is -/
theorem for_lt {K : PySem.W.Frag} {a : Addr} {xs : List V} {g : TG} {tb : TS} {D : Ends} {σ : L2.St} {H : Hp} (Pv : Nat → L2.St → Hp → Prop) (h0 : Pv 0 σ H) (h : (∀ i σ' H', Pv i σ' H' → SqL K H' a xs) ∨ (∀ i σ' H', Pv i σ' H' → SqT K H' a xs))
    (hs : ∀ i x σ H, xs[i]? = some x → Pv i σ H → g x σ H fun σ2 H2 => tb { D with nx := Pv (i + 1), ct := Pv (i + 1), bk := D.nx } σ2 H2) (hd : ∀ σ H, Pv xs.length σ H → D.nx σ H) :
    (SqL K H a xs ∧ ∃ W : Nat → Nat → L2.St → Hp → Prop, (∃ m, W 0 m σ H) ∧ ∀ i m σ H, W i m σ H →
      ((Itl K a).stop i H ∧ D.nx σ H) ∨ ((Itl K a).go i H ∧ ∃ N : L2.St → Hp → Prop, (∀ σ' H', N σ' H' → ∃ m', m' < m ∧ W (i + 1) m' σ' H') ∧ ∀ x H', (Itl K a).yld i H x H' → g x σ H' fun σ2 H2 => tb { D with nx := N, ct := N, bk := D.nx } σ2 H2)) ∨
    (SqT K H a xs ∧ ∃ W : Nat → Nat → L2.St → Hp → Prop, (∃ m, W 0 m σ H) ∧ ∀ i m σ H, W i m σ H →
      ((Itt K a).stop i H ∧ D.nx σ H) ∨ ((Itt K a).go i H ∧ ∃ N : L2.St → Hp → Prop, (∀ σ' H', N σ' H' → ∃ m', m' < m ∧ W (i + 1) m' σ' H') ∧ ∀ x H', (Itt K a).yld i H x H' → g x σ H' fun σ2 H2 => tb { D with nx := N, ct := N, bk := D.nx } σ2 H2)) := by
  rcases h with h | h
  · exact .inl ⟨h _ _ _ h0, for_list Pv h0 (fun i σ' H' _ p => h i σ' H' p) hs hd⟩
  · exact .inr ⟨h _ _ _ h0, for_tup Pv h0 (fun i σ' H' _ p => h i σ' H' p) hs hd⟩
theorem rg_nat (n : Nat) : rgV 0 (n : Int) = nV (List.range n) := by
  unfold rgV
  rw [show ((n : Int) - 0).toNat = n by omega]
  exact List.map_congr_left fun i _ => congrArg V.int (by omega)
theorem rgOk_nat {n : Nat} (h : n ≤ 2000) : RgOk 0 (n : Int) := ⟨by omega, by omega, by omega, by omega, by omega⟩
end L2

namespace L2
open PySem PySem.Spec PyProof.Rows
namespace RF
/-- given the answers bs one after another, from any state on -/
def gv (s e : Nat) (f : RF) (bs : List Bool) : Nat → RF
  | 0 => f
  | k + 1 => match (gv s e f bs k).wt with
    | none => gv s e f bs k
    | some _ => (gv s e f bs k).take s e (bs.getD k false)
theorem gv_next {s e : Nat} {f : RF} {bs : List Bool} {k : Nat} {q : Nat × Nat} (h : (gv s e f bs k).wt = some q) : gv s e f bs (k + 1) = (gv s e f bs k).take s e (bs.getD k false) := by
  show (match (gv s e f bs k).wt with
    | none => gv s e f bs k
    | some _ => (gv s e f bs k).take s e (bs.getD k false)) = _
  rw [h]
theorem gv_end {s e : Nat} {f : RF} {bs : List Bool} {k : Nat} (h : (gv s e f bs k).wt = none) : gv s e f bs (k + 1) = gv s e f bs k := by
  show (match (gv s e f bs k).wt with
    | none => gv s e f bs k
    | some _ => (gv s e f bs k).take s e (bs.getD k false)) = _
  rw [h]
theorem gv_good {s e : Nat} {f : RF} {row : List Nat} (g : Good s e row f) (bs : List Bool) : ∀ k, Good s e row (gv s e f bs k)
  | 0 => g
  | k + 1 => by
    have ih := gv_good g bs k
    cases h : (gv s e f bs k).wt with
    | none => rw [gv_end h]; exact ih
    | some q => rw [gv_next h]; exact ih.take (by rw [h]; exact Option.some_ne_none _) _
def gvq (s e : Nat) (f : RF) (bs : List Bool) (n : Nat) : List (Nat × Nat) := (List.range n).map fun i => ((gv s e f bs i).wt).getD (0, 0)
theorem gvq_len (s e : Nat) (f : RF) (bs : List Bool) (n : Nat) : (gvq s e f bs n).length = n := by
  unfold gvq
  rw [List.length_map, List.length_range]
theorem gvq_next {s e : Nat} {f : RF} {bs : List Bool} {n : Nat} {q : Nat × Nat} (h : (gv s e f bs n).wt = some q) : gvq s e f bs (n + 1) = gvq s e f bs n ++ [q] := by
  unfold gvq
  rw [List.range_succ, List.map_append, List.map_singleton, h]
  rfl
theorem gv_fed (size : Nat) (bs : List Bool) : ∀ k, gv 0 size (RF.init (List.range size) 0 size) bs k = fed size bs k
  | 0 => rfl
  | k + 1 => by
    have ih := gv_fed size bs k
    cases h : (fed size bs k).wt with
    | none => rw [fed_end h, gv_end (by rw [ih]; exact h), ih]
    | some q => rw [fed_next h, gv_next (by rw [ih]; exact h), ih]
theorem gvq_ask (size : Nat) (bs : List Bool) (n : Nat) : gvq 0 size (RF.init (List.range size) 0 size) bs n = askB size bs n := by
  unfold gvq askB
  exact List.map_congr_left fun i _ => by rw [gv_fed]
theorem gv_stps {s e : Nat} {f : RF} {ls : Nat × Nat → Bool} {bs : List Bool} : ∀ {k : Nat}, (∀ i q, i < k → (f.stps ls s e i).wt = some q → bs.getD i false = ls q) → gv s e f bs k = f.stps ls s e k
  | 0, _ => rfl
  | k + 1, h => by
    have ih := gv_stps (k := k) fun i q hi hq => h i q (by omega) hq
    cases hw : (f.stps ls s e k).wt with
    | none => rw [stps_end hw, gv_end (by rw [ih]; exact hw), ih]
    | some q => rw [stps_next hw, gv_next (by rw [ih]; exact hw), ih, h k q (by omega) hw]
end RF
/-- answers: a list or a tuple of bools -/
def AnsAt (H : Hp) (p : Addr) (bs : List Bool) : Prop := H p = some (.lst (bs.map V.bl)) ∨ H p = some (.tup (bs.map V.bl))
theorem AnsAt.same {H H' : Hp} {p : Addr} {bs : List Bool} (e : Same H H') (h : AnsAt H p bs) : AnsAt H' p bs := h.imp (e _ _) (e _ _)
theorem ans_item {bs : List Bool} {i : Nat} {x : V} (h : (bs.map V.bl)[i]? = some x) : ∃ z, bs[i]? = some z ∧ x = .bl z := by
  rw [List.getElem?_map] at h
  cases e : bs[i]? with
  | none => rw [e] at h; cases h
  | some z => rw [e] at h; exact ⟨z, rfl, (Option.some.inj h).symm⟩
theorem AnsAt.free {H : Hp} {p z : Addr} {bs : List Bool} (h : AnsAt H p bs) (n : H z = none) : p ≠ z := fun e => by
  rw [← e] at n
  rcases h with h | h
  · rw [h] at n; cases n
  · rw [h] at n; cases n
end L2

namespace L2
open PySem PySem.Spec PyProof.Rows
namespace RF
/-! ### how many questions there may be: two less than twice the items -/
variable {e : Nat} {f : RF}
def ph (st pl n : Nat) : Nat := if st = 5 then n else if st = 4 then 2 * n else if st = 3 then 2 * n + 1 else if st = 2 then 2 * n else if pl = 1 then 2 * n else 2 * n + 1
def phi (e : Nat) (f : RF) : Nat := if f.wt = none then 0 else ph f.st f.pl (e - f.pl)
theorem phi_none (h : f.wt = none) : phi e f = 0 := if_pos h
theorem phi_some {q : Nat × Nat} (h : f.wt = some q) : phi e f = ph f.st f.pl (e - f.pl) := if_neg (by rw [h]; exact Option.some_ne_none _)
theorem phi_ask {f : RF} {b : Nat} (h : f.pl < e → ph f.st f.pl (e - f.pl) ≤ b) : phi e (f.ask 0 e) ≤ b := by
  unfold RF.ask
  split
  · rename_i hp
    rw [phi_some (q := (f.row.getD f.pl 0, f.row.getD (f.pl - 1) 0)) rfl]
    exact h hp
  · rename_i hp
    split
    · have : phi e (f.rise 0 e) = 0 := by
        unfold RF.rise RF.askUp
        rw [if_neg (by show ¬ f.turnEq.pl < e; rw [turnEq_pl]; exact hp)]
        exact phi_none rfl
      omega
    · rw [phi_none (f := f.finish 0) rfl]
      exact Nat.zero_le _
theorem phi_take {q : Nat × Nat} (hw : f.wt = some q) (h0 : 0 < f.pl) (h : f.pl < e) (hs : 1 ≤ f.st ∧ f.st ≤ 5) (b : Bool) : phi e (f.take 0 e b) < phi e f := by
  rw [phi_some hw]
  unfold RF.take
  by_cases s1 : f.st = 1
  · rw [if_pos s1]
    have hb : ph f.st f.pl (e - f.pl) = if f.pl = 1 then 2 * (e - f.pl) else 2 * (e - f.pl) + 1 := by rw [s1]; rfl
    unfold RF.take1
    split
    · have : phi e (f.goOn 0 e) ≤ 2 * (e - f.pl) - 1 := phi_ask fun hp => by
        have hp' : f.pl + 1 < e := hp
        show ph f.st (f.pl + 1) (e - (f.pl + 1)) ≤ _
        rw [s1]
        show (if f.pl + 1 = 1 then 2 * (e - (f.pl + 1)) else 2 * (e - (f.pl + 1)) + 1) ≤ _
        rw [if_neg (by omega)]
        omega
      rw [hb]
      split <;> omega
    · split
      · rename_i hp1
        have : phi e (f.fall 0 e) ≤ 2 * (e - f.pl) - 1 := phi_ask fun hp => by
          have hp' : f.pl + 1 < e := hp
          show 2 * (e - (f.pl + 1)) + 1 ≤ _
          omega
        rw [hb, if_pos (by omega)]
        omega
      · rename_i hp1
        rw [phi_some (f := { f with st := 2, wt := some (f.row.getD 0 0, f.row.getD (f.pl - 1) 0) }) rfl, hb, if_neg (by omega)]
        show 2 * (e - f.pl) < _
        omega
  rw [if_neg s1]
  by_cases s2 : f.st = 2
  · rw [if_pos s2]
    have hb : ph f.st f.pl (e - f.pl) = 2 * (e - f.pl) := by rw [s2]; rfl
    unfold RF.take2
    split
    · rw [phi_none (f := f.finish 0) rfl, hb]
      omega
    · have : phi e ((f.turn 0).fall 0 e) ≤ 2 * (e - f.pl) - 1 := phi_ask fun hp => by
        have hp' : f.pl + 1 < e := hp
        show 2 * (e - (f.pl + 1)) + 1 ≤ _
        omega
      rw [hb]
      omega
  rw [if_neg s2]
  by_cases s3 : f.st = 3
  · rw [if_pos s3]
    have hb : ph f.st f.pl (e - f.pl) = 2 * (e - f.pl) + 1 := by rw [s3]; rfl
    unfold RF.take3
    split
    · have : phi e (f.turnEq.goOn 0 e) ≤ 2 * (e - f.pl) - 1 := phi_ask fun hp => by
        have hp' : f.turnEq.pl + 1 < e := hp
        rw [turnEq_pl] at hp'
        show ph f.turnEq.st (f.turnEq.pl + 1) (e - (f.turnEq.pl + 1)) ≤ _
        rw [turnEq_st, turnEq_pl, s3]
        show 2 * (e - (f.pl + 1)) + 1 ≤ _
        omega
      rw [hb]
      omega
    · rw [phi_some (f := { f with st := 4, wt := some (f.row.getD (f.pl - 1) 0, f.row.getD f.pl 0) }) rfl, hb]
      show 2 * (e - f.pl) < _
      omega
  rw [if_neg s3]
  by_cases s4 : f.st = 4
  · rw [if_pos s4]
    have hb : ph f.st f.pl (e - f.pl) = 2 * (e - f.pl) := by rw [s4]; rfl
    unfold RF.take4
    split
    · have e1 : f.rise 0 e = RF.ask 0 e { (f.turnEq.turn 0 : RF) with st := 5 } := by
        unfold RF.rise RF.askUp RF.ask
        rw [if_neg (show ¬ ({ (f.turnEq.turn 0 : RF) with st := 5 } : RF).st = 3 by show ¬ 5 = 3; decide)]
      have : phi e (f.rise 0 e) ≤ e - f.pl := by
        rw [e1]
        exact phi_ask fun hp => by
          show e - f.turnEq.pl ≤ _
          rw [turnEq_pl]
          exact Nat.le_refl _
      rw [hb]
      omega
    · have : phi e (({ f with eq := f.eq + 1, st := 3 } : RF).goOn 0 e) ≤ 2 * (e - f.pl) - 1 := phi_ask fun hp => by
        have hp' : f.pl + 1 < e := hp
        show 2 * (e - (f.pl + 1)) + 1 ≤ _
        omega
      rw [hb]
      omega
  rw [if_neg s4]
  have s5 : f.st = 5 := by omega
  have hb : ph f.st f.pl (e - f.pl) = e - f.pl := by rw [s5]; rfl
  unfold RF.take5
  split
  · rw [phi_none (f := f.finish 0) rfl, hb]
    omega
  · have : phi e (f.goOn 0 e) ≤ e - f.pl - 1 := phi_ask fun hp => by
      have hp' : f.pl + 1 < e := hp
      show ph f.st (f.pl + 1) (e - (f.pl + 1)) ≤ _
      rw [s5]
      show e - (f.pl + 1) ≤ _
      omega
    rw [hb]
    omega
/-- the step is one of the five -/
def St5 (f : RF) : Prop := 1 ≤ f.st ∧ f.st ≤ 5
theorem st5_ask {f : RF} (h : St5 f) : St5 (f.ask 0 e) := by
  unfold RF.ask
  split
  · exact h
  · split
    · unfold RF.rise RF.askUp
      split
      · exact ⟨by show 1 ≤ 5; decide, by show 5 ≤ 5; decide⟩
      · exact ⟨by show 1 ≤ 5; decide, by show 5 ≤ 5; decide⟩
    · exact h
theorem st5_rise : St5 (f.rise 0 e) := by
  unfold RF.rise RF.askUp
  split
  · exact ⟨by show 1 ≤ 5; decide, by show 5 ≤ 5; decide⟩
  · exact ⟨by show 1 ≤ 5; decide, by show 5 ≤ 5; decide⟩
theorem st5_three {f : RF} (h : f.st = 3) : St5 f := ⟨by omega, by omega⟩
theorem st5_take (h : St5 f) (b : Bool) : St5 (f.take 0 e b) := by
  unfold RF.take
  split
  · unfold RF.take1
    split
    · exact st5_ask h
    · split
      · exact st5_ask (st5_three rfl)
      · exact ⟨by show 1 ≤ 2; decide, by show 2 ≤ 5; decide⟩
  · split
    · unfold RF.take2
      split
      · exact h
      · exact st5_ask (st5_three rfl)
    · split
      · rename_i h3
        unfold RF.take3
        split
        · exact st5_ask (st5_three (by show f.turnEq.st = 3; rw [turnEq_st]; exact h3))
        · exact ⟨by show 1 ≤ 4; decide, by show 4 ≤ 5; decide⟩
      · split
        · unfold RF.take4
          split
          · exact st5_rise
          · exact st5_ask (st5_three rfl)
        · unfold RF.take5
          split
          · exact h
          · exact st5_ask h
theorem fed_st5 {size : Nat} {bs : List Bool} : ∀ k, St5 (fed size bs k)
  | 0 => st5_ask ⟨by show 1 ≤ 1; decide, by show 1 ≤ 5; decide⟩
  | k + 1 => by
    have ih := fed_st5 (size := size) (bs := bs) k
    cases h : (fed size bs k).wt with
    | none => rw [fed_end h]; exact ih
    | some q => rw [fed_next h]; exact st5_take ih _
theorem phi_zero {size : Nat} {bs : List Bool} (h : 0 < size) : phi size (fed size bs 0) ≤ 2 * (size - 1) := phi_ask fun hp => by
  show (if 0 + 1 = 1 then 2 * (size - (0 + 1)) else 2 * (size - (0 + 1)) + 1) ≤ _
  rw [if_pos rfl]
  omega
theorem fed_phi {size : Nat} (h1 : 0 < size) (h2 : size ≤ 2000) (bs : List Bool) : ∀ k, (∀ i, i < k → (fed size bs i).wt ≠ none) → k + phi size (fed size bs k) ≤ 2 * (size - 1)
  | 0, _ => by
    have := phi_zero (bs := bs) h1
    omega
  | k + 1, h => by
    have ih := fed_phi h1 h2 bs k (fun i hi => h i (by omega))
    have g := fed_good h1 h2 bs k
    cases e0 : (fed size bs k).wt with
    | none => exact absurd e0 (h k (by omega))
    | some q =>
      have := phi_take e0 g.wf.sp (g.ah (by rw [e0]; exact Option.some_ne_none _)) (fed_st5 k) (bs.getD k false)
      rw [← fed_next e0] at this
      omega
/-- at most two questions less than twice the items -/
theorem fed_few {size : Nat} (h1 : 0 < size) (h2 : size ≤ 2000) (bs : List Bool) {k : Nat} (h : ∀ i, i < k → (fed size bs i).wt ≠ none) : k ≤ 2 * (size - 1) := by
  have := fed_phi h1 h2 bs k h
  omega
/-- a run of two items, where there are two -/
def Long (e : Nat) (f : RF) : Prop := 2 ≤ f.pl ∨ (f.pl = 1 ∧ f.st = 1 ∧ f.wt ≠ none) ∨ e ≤ 1
theorem ask_pl {f : RF} : (f.ask 0 e).pl = f.pl := by
  unfold RF.ask
  split
  · rfl
  · split
    · unfold RF.rise RF.askUp
      split
      · exact turnEq_pl f
      · exact turnEq_pl f
    · rfl
theorem go_pl {f : RF} : f.pl ≤ (f.goOn 0 e).pl := by
  have e1 : (f.goOn 0 e).pl = f.pl + 1 := ask_pl
  omega
theorem fall_pl {f : RF} : f.pl ≤ (f.fall 0 e).pl := by
  have e1 : (f.fall 0 e).pl = f.pl + 1 := ask_pl
  omega
theorem take_pl (b : Bool) : f.pl ≤ (f.take 0 e b).pl := by
  unfold RF.take
  split
  · unfold RF.take1
    split
    · exact go_pl
    · split
      · exact fall_pl
      · exact Nat.le_refl _
  · split
    · unfold RF.take2
      split
      · exact Nat.le_refl _
      · exact fall_pl (f := f.turn 0)
    · split
      · unfold RF.take3
        split
        · refine Nat.le_trans (Nat.le_succ _) (Nat.le_of_eq ?_)
          have e1 : (f.turnEq.goOn 0 e).pl = f.turnEq.pl + 1 := ask_pl
          rw [e1, turnEq_pl]
        · exact Nat.le_refl _
      · split
        · unfold RF.take4
          split
          · have e1 : (f.rise 0 e).pl = f.pl := by
              unfold RF.rise RF.askUp
              split
              · exact turnEq_pl f
              · exact turnEq_pl f
            exact Nat.le_of_eq e1.symm
          · exact go_pl (f := { f with eq := f.eq + 1, st := 3 })
        · unfold RF.take5
          split
          · exact Nat.le_refl _
          · exact go_pl
theorem fed_long {size : Nat} {bs : List Bool} : ∀ k, Long size (fed size bs k)
  | 0 => by
    by_cases h : size ≤ 1
    · exact .inr (.inr h)
    · refine .inr (.inl ⟨ask_pl, ?_, ?_⟩)
      · show (RF.ask 0 size _).st = 1
        unfold RF.ask
        rw [if_pos (by show 0 + 1 < size; omega)]
      · show (RF.ask 0 size _).wt ≠ none
        unfold RF.ask
        rw [if_pos (by show 0 + 1 < size; omega)]
        exact Option.some_ne_none _
  | k + 1 => by
    have ih := fed_long (size := size) (bs := bs) k
    cases h : (fed size bs k).wt with
    | none => rw [fed_end h]; exact ih
    | some q =>
      rw [fed_next h]
      rcases ih with ih | ⟨i1, i2, _⟩ | ih
      · exact .inl (Nat.le_trans ih (take_pl _))
      · refine .inl ?_
        unfold RF.take
        rw [if_pos i2]
        unfold RF.take1
        rw [if_pos (show (fed size bs k).pl = 0 + 1 by omega)]
        split
        · have e1 : ((fed size bs k).goOn 0 size).pl = (fed size bs k).pl + 1 := ask_pl
          omega
        · have e1 : ((fed size bs k).fall 0 size).pl = (fed size bs k).pl + 1 := ask_pl
          omega
      · exact .inr (.inr ih)
theorem fed_two {size : Nat} (h1 : 0 < size) (h2 : size ≤ 2000) {bs : List Bool} {k : Nat} (h : (fed size bs k).wt = none) : min 2 size ≤ (fed size bs k).pl := by
  have g := (fed_good h1 h2 bs k).wf.sp
  rcases fed_long (size := size) (bs := bs) k with l | ⟨_, _, l⟩ | l
  · omega
  · exact absurd h l
  · omega
end RF
end L2

namespace L2
open PySem PySem.Spec PyProof.Rows
/-! ### what told_run tells, as data -/
def pD (q : Nat × Nat) : PyData := .tuple [.int (q.1 : Int), .int (q.2 : Int)]
def lnD : Option Nat → PyData
  | none => .none
  | some n => .int (n : Int)
def toldD (ln : Option Nat) (row : List Nat) (qs : List (Nat × Nat)) : PyData := .tuple [lnD ln, .list ((row.map fun (i : Nat) => (i : Int)).map PyData.int), .list (qs.map pD)]
theorem canLay_pairs : ∀ qs : List (Nat × Nat), PyData.canLayAll0 (qs.map pD) = true
  | [] => rfl
  | q :: r => by
    show (PyData.canLay0 (pD q) && PyData.canLayAll0 (r.map pD)) = true
    rw [canLay_pairs r]
    rfl
theorem depth_pairs : ∀ qs : List (Nat × Nat), PyData.depthAll (qs.map pD) ≤ 1
  | [] => Nat.zero_le _
  | q :: r => by
    show max (PyData.depth (pD q)) (PyData.depthAll (r.map pD)) ≤ 1
    have h1 : PyData.depth (pD q) = 1 := rfl
    have h2 := depth_pairs r
    omega
theorem shaped_told (ln : Option Nat) (row : List Nat) (qs : List (Nat × Nat)) : SeqAt.shaped (toldD ln row qs) = true := by
  unfold SeqAt.shaped
  rw [Bool.and_eq_true]
  constructor
  · show (PyData.canLay0 (lnD ln) && (PyData.canLayAll0 ((row.map fun (i : Nat) => (i : Int)).map PyData.int) && (PyData.canLayAll0 (qs.map pD) && true))) = true
    rw [canLay_ints, canLay_pairs]
    cases ln <;> rfl
  · refine decide_eq_true ?_
    show max (PyData.depth (lnD ln)) (max (PyData.depthAll ((row.map fun (i : Nat) => (i : Int)).map PyData.int) + 1) (max (PyData.depthAll (qs.map pD) + 1) 0)) + 1 ≤ 64
    have h1 : PyData.depth (lnD ln) = 0 := by cases ln <;> rfl
    have h2 := depth_pairs qs
    rw [depth_ints, h1]
    omega
theorem eqv_told (ln : Option Nat) (row : List Nat) (qs : List (Nat × Nat)) : PyData.eqv (toldD ln row qs) (toldD ln row qs) = true := SeqAt.eqv_refl _ (SeqAt.canLay_of_shaped (shaped_told ln row qs))
theorem dpAll_pairs {K : PySem.W.Frag} {H : Hp} : ∀ {ts : List V} {qs : List (Nat × Nat)}, ts.length = qs.length → (∀ (i : Nat) (v : V) (q : Nat × Nat), ts[i]? = some v → qs[i]? = some q → PairAt H v q) → DpAll K H ts (qs.map pD)
  | [], [], _, _ => .nil
  | v :: ts, q :: qs, hl, h => by
    obtain ⟨t, e, ht⟩ := h 0 v q rfl rfl
    subst e
    refine .cons (.tup (L2.st_of ht) (.cons (.int _) (.cons (.int _) .nil))) (dpAll_pairs (by simpa using hl) fun i v' q' h1 h2 => h (i + 1) v' q' h1 h2)
theorem dp_told {K : PySem.W.Frag} {H : Hp} {t r l : Addr} {ln : Option Nat} {row : List Nat} {qs : List (Nat × Nat)} (ht : H t = some (.tup [lenV ln, .ref r, .ref l])) (hr : H r = some (.lst (nV row))) (hq : QAt H l qs) : Dp K H (.ref t) (toldD ln row qs) := by
  obtain ⟨ts, h1, h2, h3⟩ := hq
  refine .tup (L2.st_of ht) (.cons ?_ (.cons ?_ (.cons (.lst (L2.sq_of h1) (dpAll_pairs h2 h3)) .nil)))
  · cases ln with
    | none => exact .non
    | some n => exact .int _
  · exact dp_ints (by rw [← nV_map]; exact L2.sq_of hr)
/-- a sorted row of the same ints is one -/
theorem sorted_one : ∀ {a b : List Int}, a.Perm b → a.Pairwise (· ≤ ·) → b.Pairwise (· ≤ ·) → a = b
  | [], b, p, _, _ => (List.nil_perm.mp p).symm
  | x :: a, b, p, ha, hb => by
    cases b with
    | nil => exact absurd p.length_eq (by simp)
    | cons y b =>
      have ha' := List.pairwise_cons.mp ha
      have hb' := List.pairwise_cons.mp hb
      have e : x = y := by
        have h1 : x ∈ y :: b := p.mem_iff.mp List.mem_cons_self
        have h2 : y ∈ x :: a := p.mem_iff.mpr List.mem_cons_self
        rcases List.mem_cons.mp h1 with h1 | h1
        · exact h1
        · rcases List.mem_cons.mp h2 with h2 | h2
          · exact h2.symm
          · have := hb'.1 x h1
            have := ha'.1 y h2
            omega
      subst e
      rw [sorted_one (List.perm_cons x |>.mp p) ha'.2 hb'.2]
theorem range_sorted (n : Nat) : ((List.range n).map fun (i : Nat) => (i : Int)).Pairwise (· ≤ ·) := by
  rw [List.pairwise_map]
  exact List.Pairwise.imp (fun h => by omega) (List.pairwise_lt_range (n := n))
end L2

namespace L2
open PySem PySem.Spec PyProof.Rows
/-! ### placing: the state, step by step -/
structure PF where
  row : List Nat
  pl : Nat
  lo : Nat
  hi : Nat
  mid : Nat
  wt : Option (Nat × Nat)
namespace PF
def moved (row : List Nat) (lo pl : Nat) : List Nat := row.take lo ++ row.getD pl 0 :: ((row.drop lo).take (pl - lo) ++ row.drop (pl + 1))
def askM (f : PF) : PF := { f with mid := (f.lo + f.hi) / 2, wt := some (f.row.getD f.pl 0, f.row.getD ((f.lo + f.hi) / 2) 0) }
def begin (e : Nat) (f : PF) : PF := if f.pl < e then askM { f with lo := 0, hi := f.pl, wt := none } else { f with wt := none }
def put (e : Nat) (f : PF) : PF := begin e { f with row := moved f.row f.lo f.pl, pl := f.pl + 1 }
def half (b : Bool) (f : PF) : PF := if b = true then { f with hi := f.mid } else { f with lo := f.mid + 1 }
def take (e : Nat) (b : Bool) (f : PF) : PF := if (half b f).lo < (half b f).hi then askM (half b f) else put e (half b f)
def init (row : List Nat) (e rd : Nat) : PF := begin e { row := row, pl := max rd 1, lo := 0, hi := 0, mid := 0, wt := none }
/-- amid an item -/
structure Act (e : Nat) (f : PF) : Prop where
  pe : f.pl < e
  hp : f.hi ≤ f.pl
  lh : f.lo < f.hi
  md : f.mid = (f.lo + f.hi) / 2
  wq : f.wt = some (f.row.getD f.pl 0, f.row.getD f.mid 0)
structure Good (e : Nat) (row0 : List Nat) (f : PF) : Prop where
  len : f.row.length = e
  e64 : e ≤ 64
  p1 : 1 ≤ f.pl
  pm : f.row.Perm row0
  act : f.wt ≠ none → Act e f
  fin : f.wt = none → e ≤ f.pl
theorem moved_perm {row : List Nat} {lo pl : Nat} (h1 : lo ≤ pl) (h2 : pl < row.length) : (moved row lo pl).Perm row := by
  have e1 : row.take lo ++ ((row.drop lo).take (pl - lo) ++ row.getD pl 0 :: row.drop (pl + 1)) = row := by
    have a1 : row.drop pl = row.getD pl 0 :: row.drop (pl + 1) := by
      rw [List.drop_eq_getElem_cons h2]
      simp [List.getD_eq_getElem?_getD, List.getElem?_eq_getElem h2]
    have a2 : (row.drop lo).drop (pl - lo) = row.drop pl := by
      rw [List.drop_drop]
      congr 1
      omega
    rw [← a1, ← a2, List.take_append_drop, List.take_append_drop]
  unfold moved
  refine List.Perm.trans ?_ (List.Perm.of_eq e1)
  refine List.Perm.append_left _ ?_
  exact List.perm_middle.symm
theorem moved_len {row : List Nat} {lo pl : Nat} (h1 : lo ≤ pl) (h2 : pl < row.length) : (moved row lo pl).length = row.length := (moved_perm h1 h2).length_eq
theorem Good.begin {e : Nat} {row0 : List Nat} {f : PF} (l : f.row.length = e) (h64 : e ≤ 64) (p : 1 ≤ f.pl) (pm : f.row.Perm row0) : Good e row0 (begin e f) := by
  unfold PF.begin
  by_cases h : f.pl < e
  · rw [if_pos h]
    exact ⟨l, h64, p, pm, fun _ => ⟨h, Nat.le_refl _, p, rfl, rfl⟩, fun z => by cases z⟩
  · rw [if_neg h]
    exact ⟨l, h64, p, pm, fun z => absurd rfl z, fun _ => by show e ≤ f.pl; omega⟩
theorem Good.put {e : Nat} {row0 : List Nat} {f : PF} (l : f.row.length = e) (h64 : e ≤ 64) (h1 : f.lo ≤ f.pl) (h2 : f.pl < e) (pm : f.row.Perm row0) : Good e row0 (put e f) :=
  Good.begin (by show (moved f.row f.lo f.pl).length = e; rw [moved_len h1 (by omega)]; exact l) h64 (by show 1 ≤ f.pl + 1; omega) ((moved_perm h1 (by omega)).trans pm)
theorem half_row (b : Bool) (f : PF) : (half b f).row = f.row := by unfold half; split <;> rfl
theorem half_pl (b : Bool) (f : PF) : (half b f).pl = f.pl := by unfold half; split <;> rfl
theorem half_in {e : Nat} {f : PF} (a : Act e f) (b : Bool) : (half b f).lo ≤ (half b f).hi ∧ (half b f).hi ≤ f.pl := by
  have h1 := a.hp; have h2 := a.lh; have h3 := a.md
  unfold half
  split
  · exact ⟨by show f.lo ≤ f.mid; omega, by show f.mid ≤ f.pl; omega⟩
  · exact ⟨by show f.mid + 1 ≤ f.hi; omega, h1⟩
theorem Good.take {e : Nat} {row0 : List Nat} {f : PF} (g : Good e row0 f) (h : f.wt ≠ none) (b : Bool) : Good e row0 (take e b f) := by
  have a := g.act h
  obtain ⟨i1, i2⟩ := half_in a b
  unfold PF.take
  split
  · rename_i hl
    exact ⟨by show (half b f).row.length = e; rw [half_row]; exact g.len, g.e64, by show 1 ≤ (half b f).pl; rw [half_pl]; exact g.p1, by show (half b f).row.Perm row0; rw [half_row]; exact g.pm,
      fun _ => ⟨by show (half b f).pl < e; rw [half_pl]; exact a.pe, by show (half b f).hi ≤ (half b f).pl; rw [half_pl]; exact i2, hl, rfl, rfl⟩, fun z => by cases z⟩
  · exact Good.put (by rw [half_row]; exact g.len) g.e64 (by rw [half_pl]; omega) (by rw [half_pl]; exact a.pe) (by rw [half_row]; exact g.pm)
theorem Good.init {row : List Nat} {e rd : Nat} (l : row.length = e) (h64 : e ≤ 64) : Good e row (init row e rd) := Good.begin l h64 (Nat.le_max_right _ _) (List.Perm.refl _)
/-- by the keys -/
def stp (ls : Nat × Nat → Bool) (e : Nat) (f : PF) : PF := match f.wt with
  | none => f
  | some q => f.take e (ls q)
def stps (ls : Nat × Nat → Bool) (e : Nat) (f : PF) : Nat → PF
  | 0 => f
  | n + 1 => stp ls e (stps ls e f n)
theorem stps_next {ls : Nat × Nat → Bool} {e : Nat} {f : PF} {n : Nat} {q : Nat × Nat} (h : (f.stps ls e n).wt = some q) : f.stps ls e (n + 1) = (f.stps ls e n).take e (ls q) := by
  show PF.stp ls e (f.stps ls e n) = _
  unfold PF.stp
  rw [h]
theorem stps_end {ls : Nat × Nat → Bool} {e : Nat} {f : PF} {n : Nat} (h : (f.stps ls e n).wt = none) : f.stps ls e (n + 1) = f.stps ls e n := by
  show PF.stp ls e (f.stps ls e n) = _
  unfold PF.stp
  rw [h]
theorem Good.stps {e : Nat} {row0 : List Nat} {f : PF} (ls : Nat × Nat → Bool) (g : Good e row0 f) : ∀ n, Good e row0 (f.stps ls e n)
  | 0 => g
  | n + 1 => by
    have ih := Good.stps ls g n
    cases h : (f.stps ls e n).wt with
    | none => rw [stps_end h]; exact ih
    | some q => rw [stps_next h]; exact ih.take (by rw [h]; exact Option.some_ne_none _) _
def asks (ls : Nat × Nat → Bool) (e : Nat) (f : PF) (n : Nat) : List (Nat × Nat) := (List.range n).map fun i => ((f.stps ls e i).wt).getD (0, 0)
theorem asks_len (ls : Nat × Nat → Bool) (e : Nat) (f : PF) (n : Nat) : (f.asks ls e n).length = n := by
  unfold asks
  rw [List.length_map, List.length_range]
theorem asks_next {ls : Nat × Nat → Bool} {e : Nat} {f : PF} {n : Nat} {q : Nat × Nat} (h : (f.stps ls e n).wt = some q) : f.asks ls e (n + 1) = f.asks ls e n ++ [q] := by
  unfold asks
  rw [List.range_succ, List.map_append, List.map_singleton, h]
  rfl
theorem asks_at {ls : Nat × Nat → Bool} {e : Nat} {f : PF} {n i : Nat} (h : i < n) : (f.asks ls e n)[i]? = some (((f.stps ls e i).wt).getD (0, 0)) := by
  unfold asks
  rw [List.getElem?_map, List.getElem?_range h]
  rfl
/-- by answers of any kind -/
def gv (e : Nat) (f : PF) (bs : List Bool) : Nat → PF
  | 0 => f
  | k + 1 => match (gv e f bs k).wt with
    | none => gv e f bs k
    | some _ => (gv e f bs k).take e (bs.getD k false)
theorem gv_next {e : Nat} {f : PF} {bs : List Bool} {k : Nat} {q : Nat × Nat} (h : (gv e f bs k).wt = some q) : gv e f bs (k + 1) = (gv e f bs k).take e (bs.getD k false) := by
  show (match (gv e f bs k).wt with
    | none => gv e f bs k
    | some _ => (gv e f bs k).take e (bs.getD k false)) = _
  rw [h]
theorem gv_end {e : Nat} {f : PF} {bs : List Bool} {k : Nat} (h : (gv e f bs k).wt = none) : gv e f bs (k + 1) = gv e f bs k := by
  show (match (gv e f bs k).wt with
    | none => gv e f bs k
    | some _ => (gv e f bs k).take e (bs.getD k false)) = _
  rw [h]
theorem gv_stay {e : Nat} {f : PF} {bs : List Bool} {n : Nat} (h : (gv e f bs n).wt = none) : ∀ k, gv e f bs (n + k) = gv e f bs n
  | 0 => rfl
  | k + 1 => by
    have ih := gv_stay h k
    show gv e f bs ((n + k) + 1) = _
    rw [gv_end (by rw [ih]; exact h), ih]
theorem Good.gv {e : Nat} {row0 : List Nat} {f : PF} (g : Good e row0 f) (bs : List Bool) : ∀ k, Good e row0 (gv e f bs k)
  | 0 => g
  | k + 1 => by
    have ih := Good.gv g bs k
    cases h : (PF.gv e f bs k).wt with
    | none => rw [gv_end h]; exact ih
    | some q => rw [gv_next h]; exact ih.take (by rw [h]; exact Option.some_ne_none _) _
def gvq (e : Nat) (f : PF) (bs : List Bool) (n : Nat) : List (Nat × Nat) := (List.range n).map fun i => ((gv e f bs i).wt).getD (0, 0)
theorem gvq_len (e : Nat) (f : PF) (bs : List Bool) (n : Nat) : (gvq e f bs n).length = n := by
  unfold gvq
  rw [List.length_map, List.length_range]
theorem gvq_next {e : Nat} {f : PF} {bs : List Bool} {n : Nat} {q : Nat × Nat} (h : (gv e f bs n).wt = some q) : gvq e f bs (n + 1) = gvq e f bs n ++ [q] := by
  unfold gvq
  rw [List.range_succ, List.map_append, List.map_singleton, h]
  rfl
theorem gv_congr {e : Nat} {f : PF} {bs cs : List Bool} : ∀ {k : Nat}, (∀ i, i < k → bs.getD i false = cs.getD i false) → gv e f bs k = gv e f cs k
  | 0, _ => rfl
  | k + 1, h => by
    have ih := gv_congr (e := e) (f := f) (k := k) fun i hi => h i (by omega)
    cases hw : (gv e f bs k).wt with
    | none => rw [gv_end hw, gv_end (by rw [← ih]; exact hw), ih]
    | some q => rw [gv_next hw, gv_next (q := q) (by rw [← ih]; exact hw), ih, h k (by omega)]
theorem gv_stps {e : Nat} {f : PF} {ls : Nat × Nat → Bool} {bs : List Bool} : ∀ {k : Nat}, (∀ i q, i < k → (f.stps ls e i).wt = some q → bs.getD i false = ls q) → gv e f bs k = f.stps ls e k
  | 0, _ => rfl
  | k + 1, h => by
    have ih := gv_stps (k := k) fun i q hi hq => h i q (by omega) hq
    cases hw : (f.stps ls e k).wt with
    | none => rw [stps_end hw, gv_end (by rw [ih]; exact hw), ih]
    | some q => rw [stps_next hw, gv_next (q := q) (by rw [ih]; exact hw), ih, h k q (by omega) hw]
/-! how many questions -/
def bl (m : Nat) : Nat := if m = 0 then 0 else m.log2 + 1
theorem bl_half {m m' : Nat} (h : 0 < m) (h2 : m' ≤ m / 2) : bl m' + 1 ≤ bl m := by
  unfold bl
  rw [if_neg (by omega : m ≠ 0)]
  by_cases e : m' = 0
  · rw [if_pos e]
    omega
  · rw [if_neg e]
    have a1 : 2 ^ m'.log2 ≤ m' := Nat.log2_self_le e
    have : m'.log2 + 1 ≤ m.log2 := (Nat.le_log2 (by omega)).mpr (by rw [Nat.pow_succ]; omega)
    omega
theorem bl_63 {m : Nat} (h : m ≤ 63) : bl m ≤ 6 := by
  unfold bl
  split
  · omega
  · rename_i e
    have : m.log2 < 6 := (Nat.log2_lt e).mpr (by omega)
    omega
def phi (e : Nat) (f : PF) : Nat := if f.wt = none then 0 else bl (f.hi - f.lo) + 6 * (e - 1 - f.pl)
theorem phi_begin {e : Nat} {f : PF} (h64 : e ≤ 64) (h : 1 ≤ f.pl) : phi e (begin e f) ≤ 6 * (e - f.pl) := by
  unfold PF.begin
  by_cases hp : f.pl < e
  · rw [if_pos hp]
    unfold phi
    rw [if_neg (by intro z; cases z)]
    show bl (f.pl - 0) + 6 * (e - 1 - f.pl) ≤ _
    have := bl_63 (m := f.pl - 0) (by omega)
    omega
  · rw [if_neg hp]
    unfold phi
    rw [if_pos rfl]
    omega
theorem phi_take {e : Nat} {row0 : List Nat} {f : PF} (g : Good e row0 f) (h : f.wt ≠ none) (b : Bool) : phi e (take e b f) + 1 ≤ phi e f := by
  have a := g.act h
  have h1 := a.hp; have h2 := a.lh; have h3 := a.md; have h4 := a.pe; have h5 := g.e64
  have e1 : phi e f = bl (f.hi - f.lo) + 6 * (e - 1 - f.pl) := by unfold phi; rw [if_neg h]
  have hb : 1 ≤ bl (f.hi - f.lo) := by unfold bl; rw [if_neg (by omega)]; omega
  rw [e1]
  unfold PF.take
  split
  · rename_i hl
    have e2 : phi e (askM (half b f)) = bl ((half b f).hi - (half b f).lo) + 6 * (e - 1 - (half b f).pl) := by
      unfold phi
      rw [if_neg (by intro z; cases z)]
      rfl
    rw [e2, half_pl]
    have : bl ((half b f).hi - (half b f).lo) + 1 ≤ bl (f.hi - f.lo) := by
      refine bl_half (by omega) ?_
      unfold half
      split
      · show f.mid - f.lo ≤ _; omega
      · show f.hi - (f.mid + 1) ≤ _; omega
    omega
  · have : phi e (put e (half b f)) ≤ 6 * (e - ((half b f).pl + 1)) := phi_begin (f := { half b f with row := moved (half b f).row (half b f).lo (half b f).pl, pl := (half b f).pl + 1 }) h5 (by show 1 ≤ (half b f).pl + 1; omega)
    rw [half_pl] at this
    omega
theorem phi_init {row : List Nat} {e rd : Nat} (h64 : e ≤ 64) : phi e (init row e rd) ≤ 6 * (e - 1) := by
  have := phi_begin (e := e) (f := { row := row, pl := max rd 1, lo := 0, hi := 0, mid := 0, wt := none }) h64 (Nat.le_max_right _ _)
  have h2 : 1 ≤ max rd 1 := Nat.le_max_right _ _
  show phi e (begin e _) ≤ _
  refine Nat.le_trans this ?_
  show 6 * (e - max rd 1) ≤ 6 * (e - 1)
  omega
theorem phi_gv {e : Nat} {row0 : List Nat} {f : PF} (g : Good e row0 f) (bs : List Bool) : ∀ k, (∀ i, i < k → (gv e f bs i).wt ≠ none) → k + phi e (gv e f bs k) ≤ phi e f
  | 0, _ => by show 0 + phi e f ≤ phi e f; omega
  | k + 1, h => by
    have ih := phi_gv g bs k fun i hi => h i (by omega)
    have hk := h k (by omega)
    obtain ⟨q, hq⟩ := Option.ne_none_iff_exists'.mp hk
    have := phi_take (g.gv bs k) hk (bs.getD k false)
    rw [gv_next hq]
    omega
theorem few {row : List Nat} {e rd : Nat} {bs : List Bool} (l : row.length = e) (h64 : e ≤ 64) {k : Nat} (h : ∀ i, i < k → (gv e (init row e rd) bs i).wt ≠ none) : k ≤ 6 * (e - 1) := by
  have h1 := phi_gv (Good.init (rd := rd) l h64) bs k h
  have h2 := phi_init (row := row) (e := e) (rd := rd) h64
  omega
theorem Good.pmRange {e n : Nat} {row : List Nat} {f : PF} (g : Good e row f) (pm : row.Perm (List.range n)) : Good e (List.range n) f := ⟨g.len, g.e64, g.p1, g.pm.trans pm, g.act, g.fin⟩
theorem Good.items {e n : Nat} {f : PF} (g : Good e (List.range n) f) {q : Nat × Nat} (h : f.wt = some q) : q.1 < n ∧ q.2 < n ∧ q.1 ≠ q.2 := by
  have hne : f.wt ≠ none := by rw [h]; exact Option.some_ne_none _
  have a := g.act hne
  have h1 := a.hp; have h2 := a.lh; have h3 := a.md; have h4 := a.pe; have h5 := g.len
  rw [a.wq] at h
  have eq := (Option.some.inj h).symm
  subst eq
  have gd : ∀ i, i < f.row.length → f.row.getD i 0 = f.row[i]! := fun i hi => by simp [List.getD_eq_getElem?_getD, List.getElem?_eq_getElem hi, hi]
  have mem : ∀ i, i < f.row.length → f.row.getD i 0 < n := fun i hi => by
    have : f.row.getD i 0 ∈ f.row := by
      rw [List.getD_eq_getElem?_getD, List.getElem?_eq_getElem hi]
      exact List.getElem_mem hi
    exact List.mem_range.mp (g.pm.mem_iff.mp this)
  refine ⟨mem _ (by omega), mem _ (by omega), fun e0 => ?_⟩
  have nd : f.row.Nodup := g.pm.nodup_iff.mpr List.nodup_range
  have e1 : f.row[f.pl]'(by omega) = f.row[f.mid]'(by omega) := by
    have a1 : f.row.getD f.pl 0 = f.row[f.pl]'(by omega) := by rw [List.getD_eq_getElem?_getD, List.getElem?_eq_getElem (by omega)]; rfl
    have a2 : f.row.getD f.mid 0 = f.row[f.mid]'(by omega) := by rw [List.getD_eq_getElem?_getD, List.getElem?_eq_getElem (by omega)]; rfl
    rw [← a1, ← a2]
    exact e0
  have := (List.getElem_inj nd).mp e1
  omega
end PF
/-! ### the placer in the heap -/
def fldsP (r : Addr) (e : Nat) (f : PF) (wv : V) : List (Str × V) :=
  [("row", .ref r), ("start", .int 0), ("end", .int (e : Int)), ("place", .int (f.pl : Int)), ("low", .int (f.lo : Int)), ("high", .int (f.hi : Int)), ("middle", .int (f.mid : Int)), ("waiting", wv)]
def PAt (C : Addr) (H : Hp) (x r : Addr) (e : Nat) (f : PF) : Prop := x ≠ r ∧ ∃ dx wv, H x = some (.ins C dx (fldsP r e f wv)) ∧ WaitAt H wv f.wt ∧ H r = some (.lst (nV f.row))
theorem PAt.same {C : Addr} {H H' : Hp} {x r : Addr} {e : Nat} {f : PF} (h : PAt C H x r e f) (k : Same H H') : PAt C H' x r e f := by
  obtain ⟨n, dx, wv, hx, hw, hr⟩ := h
  exact ⟨n, dx, wv, k _ _ hx, hw.keep (fun _ _ _ => k _ _), k _ _ hr⟩
theorem PAt.set {C x r : Addr} {H : Hp} {e : Nat} {f : PF} {dx : Addr} {wv : V} (h : PAt C H x r e f) (hx : H x = some (.ins C dx (fldsP r e f wv))) (f' : PF) (wv' : V) (er : f'.row = f.row) (hw : WaitAt H wv' f'.wt) {w : List (Str × V)} (ew : w = fldsP r e f' wv') :
    PAt C (upd H x (.ins C dx w)) x r e f' ∧ upd H x (.ins C dx w) x = some (.ins C dx (fldsP r e f' wv')) ∧ Fr2 x r H (upd H x (.ins C dx w)) := by
  obtain ⟨n, _, _, _, _, hr⟩ := h
  subst ew
  refine ⟨⟨n, dx, wv', upd_same, hw.upd hx (fun i j e => by cases e), ?_⟩, upd_same, Fr2.putx⟩
  rw [upd_ne n.symm, er]
  exact hr
theorem PAt.putRow {C x r : Addr} {H : Hp} {e : Nat} {f : PF} (h : PAt C H x r e f) {row : List Nat} {w : List V} (ew : w = nV row) : PAt C (upd H r (.lst w)) x r e { f with row := row } := by
  obtain ⟨n, dx, wv, hx, hw, hr⟩ := h
  subst ew
  refine ⟨n, dx, wv, ?_, hw.upd hr (fun i j e => by cases e), upd_same⟩
  rw [upd_ne n]
  exact hx
end L2

namespace L2
open PySem PySem.Spec PyProof.Rows
/-! ### what placing tells, as data -/
def plD (b : Bool) (row : List Nat) (qs : List (Nat × Nat)) : PyData := .tuple [.bool b, .list ((row.map fun (i : Nat) => (i : Int)).map PyData.int), .list (qs.map pD)]
theorem shaped_pl (b : Bool) (row : List Nat) (qs : List (Nat × Nat)) : SeqAt.shaped (plD b row qs) = true := by
  unfold SeqAt.shaped
  rw [Bool.and_eq_true]
  constructor
  · show (PyData.canLay0 (.bool b) && (PyData.canLayAll0 ((row.map fun (i : Nat) => (i : Int)).map PyData.int) && (PyData.canLayAll0 (qs.map pD) && true))) = true
    rw [canLay_ints, canLay_pairs]
    rfl
  · refine decide_eq_true ?_
    show max (PyData.depth (.bool b)) (max (PyData.depthAll ((row.map fun (i : Nat) => (i : Int)).map PyData.int) + 1) (max (PyData.depthAll (qs.map pD) + 1) 0)) + 1 ≤ 64
    have h1 : PyData.depth (.bool b) = 0 := rfl
    have h2 := depth_pairs qs
    rw [depth_ints, h1]
    omega
theorem eqv_pl (b : Bool) (row : List Nat) (qs : List (Nat × Nat)) : PyData.eqv (plD b row qs) (plD b row qs) = true := SeqAt.eqv_refl _ (SeqAt.canLay_of_shaped (shaped_pl b row qs))
theorem dp_pl {K : PySem.W.Frag} {H : Hp} {t r l : Addr} {b : Bool} {row : List Nat} {qs : List (Nat × Nat)} (ht : H t = some (.tup [.bl b, .ref r, .ref l])) (hr : H r = some (.lst (nV row))) (hq : QAt H l qs) : Dp K H (.ref t) (plD b row qs) := by
  obtain ⟨ts, h1, h2, h3⟩ := hq
  exact .tup (L2.st_of ht) (.cons (.bl _) (.cons (dp_ints (by rw [← nV_map]; exact L2.sq_of hr)) (.cons (.lst (L2.sq_of h1) (dpAll_pairs h2 h3)) .nil)))
/-- taken out at one place, put in at another one -/
theorem ins_moved {row : List Nat} {lo pl : Nat} (h1 : lo ≤ pl) (h2 : pl < row.length) : ((nV row).eraseIdx pl).take lo ++ [.int ((row.getD pl 0 : Nat) : Int)] ++ ((nV row).eraseIdx pl).drop lo = nV (PF.moved row lo pl) := by
  have l1 : ((nV row).take pl).length = pl := by rw [List.length_take, List.length_map]; omega
  rw [List.eraseIdx_eq_take_drop_succ, List.take_append_of_le_length (by omega), List.drop_append_of_le_length (by omega), List.take_take, Nat.min_eq_left h1, List.drop_take]
  unfold PF.moved
  simp only [List.map_append, List.map_take, List.map_drop, List.map_cons, List.append_assoc, List.singleton_append]
namespace PF
theorem mid_eq {e : Nat} {f : PF} (a : Act e f) : f.lo + (f.hi - f.lo) / 2 = f.mid := by
  have h1 := a.lh; have h2 := a.md
  omega
/-- at the start of an item -/
def Fresh (f : PF) : Prop := f.wt ≠ none → f.lo = 0 ∧ f.hi = f.pl
theorem fresh_begin (e : Nat) (f : PF) : Fresh (begin e f) ∧ (begin e f).pl = f.pl ∧ (begin e f).row = f.row := by
  unfold PF.begin
  by_cases h : f.pl < e
  · rw [if_pos h]
    exact ⟨fun _ => ⟨rfl, rfl⟩, rfl, rfl⟩
  · rw [if_neg h]
    exact ⟨fun z => absurd rfl z, rfl, rfl⟩
theorem fresh_put (e : Nat) (f : PF) : Fresh (put e f) ∧ (put e f).pl = f.pl + 1 ∧ (put e f).row = moved f.row f.lo f.pl := fresh_begin e { f with row := moved f.row f.lo f.pl, pl := f.pl + 1 }
end PF
end L2

/-! sum of a list or a tuple of ints -/
namespace L2
open PySem PySem.Spec PyProof.Rows
theorem preSum_getD (ns : List Int) : ∀ k, k ≤ ns.length → preSum (fun i => ns.getD i 0) k = (ns.take k).sum
  | 0, _ => rfl
  | k + 1, h => by
    have ih := preSum_getD ns k (by omega)
    rw [List.take_add_one, List.getElem?_eq_getElem (by omega), List.sum_append, ← ih]
    simp [preSum, List.getD_eq_getElem?_getD, List.getElem?_eq_getElem (show k < ns.length by omega)]
def rSumLT (K : PySem.W.Frag) : List V → Hp → VK → Prop := fun vs H Q => ∃ (a : Addr) (ns : List Int), vs = [V.ref a] ∧ (SqL K H a (ns.map V.int) ∨ SqT K H a (ns.map V.int)) ∧ Q (.int ns.sum) H
theorem cr_sumLT {X : Cx} (hc : X.calm = true) : CallR X (.builtin "sum") (rSumLT X.K) := by
  intro pins s σ H vs us Q I r h
  obtain ⟨a, ns, rfl, hs | hs, q⟩ := h
  · exact cr_sum hc pins s σ H _ us Q I r ⟨a, ns, rfl, hs, q⟩
  · obtain ⟨its, rv, pt, hz⟩ := I.tuple hs
    have hi : IntsAre its.toArray.toList ns := ints_of_vals rv
    have ist : s.heap.IsTuple a its.toArray := pt
    have ln : its.toArray.size = ns.length := by rw [← Array.length_toList]; exact IntsAre.length hi
    have ha : a < s.heap.objs.size := by
      obtain ⟨o, ho, _⟩ := id ist
      exact Heap.lt_size ho
    rw [Vals.ref1 r]
    refine call_sum_walkG (wpAny_pyIter_tuple ist ⟨_, _, _, _, _, _, fun i => ns.getD i 0, rfl, Walks.tuple (A := X.A.in1) (I.ok.hd hc) _ a (Nat.ne_of_lt ha) its.toArray, ⟨⟨_, Heap.get?_push_size _ rfl, rfl, rfl⟩, ist.push _⟩, ?_, ?_, ?_⟩)
    · intro b hb
      rw [Heap.size_push]
      rcases List.mem_cons.mp hb with e | hb
      · rw [e]
        exact Nat.lt_succ_self _
      · rw [List.mem_singleton.mp hb]
        exact Nat.lt_succ_of_lt ha
    · intro i v hv
      exact PyProof.Rows.IntsAre.int_at hi i v (by rw [Array.getElem?_toList]; exact hv)
    · intro h2 tk t2 hk
      have e : preSum (fun i => ns.getD i 0) its.toArray.size = ns.sum := by
        rw [ln, preSum_getD ns _ (Nat.le_refl _), List.take_length]
      rw [e]
      refine ⟨.int _, H, I.kept (t' := tk) fun b o ho => hk b o ?_ (Heap.get?_push_of_some _ ho), ⟨_, rfl⟩, q⟩
      intro z
      have := Heap.lt_size ho
      rw [List.mem_singleton.mp z] at this
      exact Nat.lt_irrefl _ this
end L2

/-! a comprehension over zip of two lists that are equally long -/
namespace L2
open PySem PySem.Spec PyProof.Rows
theorem lc_zip2 {K : PySem.W.Frag} {a b : Addr} {xs ys : List V} {g : TG} {tt : TT} {te : TE} {vs : List Nat} {σ : L2.St} {H1 : Hp} {D : Addr} {Qd : Hp → Prop} (le : xs.length = ys.length) (Pv : Nat → Hp → Prop) (h0 : Pv 0 (upd H1 D (.lst []))) (hl : ∀ i H, Pv i H → SqL K H a xs ∧ SqL K H b ys)
    (hs : ∀ i x y H T, xs[i]? = some x → ys[i]? = some y → Pv i H → H T = none → g (.ref T) (wipe σ vs) (upd H T (.tup [x, y])) fun σ2 H2 => wipe σ2 vs = wipe σ vs ∧ tt σ2 H2 fun c H3 =>
      if c = true then te σ2 H3 fun y H4 => ∃ acc, H4 D = some (.lst acc) ∧ acc.length < sizeLine ∧ Pv (i + 1) (upd H4 D (.lst (acc ++ [y]))) else Pv (i + 1) H3) (hd : ∀ H, Pv xs.length H → Qd H) :
    ∃ W : Nat → Nat → Hp → Prop, (∃ m, W 0 m (upd H1 D (.lst []))) ∧ ∀ i m H, W i m H →
      ((Itz K a b).stop i H ∧ Qd H) ∨ ((Itz K a b).go i H ∧ ∃ Nx : Hp → Prop, (∀ H', Nx H' → ∃ m', m' < m ∧ W (i + 1) m' H') ∧ ∀ x H', (Itz K a b).yld i H x H' → g x (wipe σ vs) H' fun σ2 H2 => wipe σ2 vs = wipe σ vs ∧ tt σ2 H2 fun c H3 =>
        if c = true then te σ2 H3 fun y H4 => ∃ acc, H4 D = some (.lst acc) ∧ acc.length < sizeLine ∧ Nx (upd H4 D (.lst (acc ++ [y]))) else Nx H3) := by
  refine ⟨fun i m H => m = xs.length - i ∧ i ≤ xs.length ∧ Pv i H, ⟨xs.length, by simp, Nat.zero_le _, h0⟩, ?_⟩
  rintro i m H ⟨rfl, hi, p⟩
  obtain ⟨qa, qb⟩ := hl i H p
  by_cases hlt : i < xs.length
  · refine .inr ⟨⟨xs, ys, xs[i], ys[i], qa, qb, by simp [hlt], by simp [← le, hlt]⟩, Pv (i + 1), fun H' p' => ⟨xs.length - (i + 1), by omega, rfl, hlt, p'⟩, fun x H' y => ?_⟩
    obtain ⟨T, u, v, e, nT, eH, f, f2⟩ := y
    subst e eH
    exact hs i u v _ T (f xs qa) (f2 ys qb) p nT
  · have e : i = xs.length := by omega
    subst e
    exact .inl ⟨⟨xs, ys, qa, qb, .inl (Nat.le_refl _)⟩, hd H p⟩
end L2

/-! sorted(xs, key=lambda x: g[x]), g a list of ints that is captured -/
namespace L2
open PySem PySem.Spec PyProof.Rows PySem.W LamX
section
variable {prog : Program} {w : World} {A : Around} {s : Shared}
/-- the lambda called with an index: it gives the item, and the heap only grows -/
theorem lam_key {qual : Str} {params : Arguments} {scope : Scope} {cl : List (Str × Addr)} {pm ctv : Value} {f c' c p : Addr} {g x : Str} {xp gp pos : Pos} {its : List Value} {i : Nat} {n : Int} {t t2 : Tok}
    (hroom : A.depth < recursionLimit) (lim : s.heap.NoLimit)
    (of1 : s.heap.get? f = some (kla_obj "<lambda>" qual params (.Subscript (.Name g gp) (.Name x xp) pos) scope cl pm c' ctv)) (hcd : s.heap.CodeRec (.ref c') qual)
    (hbind : ∀ v : Value, bindArgs (kla_fn "<lambda>" qual params (.Subscript (.Name g gp) (.Name x xp) pos) scope cl pm (.ref c') ctv) ⟨[v], []⟩ = pure [(x, v)])
    (hk : scope.kind = .function) (hco : scope.isCoroutine = false) (hgen : scope.isGenerator = false) (hcell : ∀ y ∈ scope.names, y.2 ≠ .cell) (hx : scope.names.lookup x = some .local) (hg : scope.names.lookup g = some .free)
    (hc : cl.lookup g = some c) (hcc : s.heap.IsCell c (some (.ref p))) (hl : s.heap.IsList p its.toArray) (hi : its[i]? = some (.int n t2))
    (hsz : its.length ≤ sizeLine)
    (d1 : (x == ("__debug__" : Str)) = false) (d2 : (g == ("__debug__" : Str)) = false) (d3 : (g == ("__classdict__" : Str)) = false) :
    wpAny (model prog w) A (call (.ref f) [.int (i : Int) t]) (KeyPure (.int n) s) (fun _ _ => False) s := by
  refine wpAny_call ?_
  refine kla_callFunE hroom of1 rfl hco hgen rfl hcd ?_
  rw [hbind]
  refine wpAny_pure (wpAny_newFunctionEnv hcell (fun y hy => by rw [List.mem_singleton.mp hy]; exact hx) (fun h₁ hns hsb => ⟨lim.fresh _ hsb, ?_⟩) hk)
  show codeAny _ _ (.expr _ (envX qual scope s.heap.objs.size f (.ref c') cl)) _ _
  have kp : ∀ b o, s.heap.get? b = some o → h₁.get? b = some o := fun b o e => hsb.extBut b o (Nat.ne_of_lt (Heap.lt_size e)) (Heap.get?_push_of_some _ e)
  have hcc1 : h₁.IsCell c (some (.ref p)) := by
    obtain ⟨o, ho, hd⟩ := hcc
    exact ⟨o, kp _ _ ho, hd⟩
  have hl1 : h₁.IsList p its.toArray := by
    obtain ⟨o, ho, hd⟩ := hl
    exact ⟨o, kp _ _ ho, hd⟩
  refine kla_codeExpr ?_
  refine PySem.wpAny_Subscript_Name (T := "list") slot_list_getitem.lookup ?_
  refine wpAny_Name (wpAny_loadName_free (c := c) (v := .ref p) hk hg hc hcc1 ?_ d3) d2
  refine wpAny_Name (wpAny_loadName_local (m := fun y => ([(x, Value.int (i : Int) t)]).reverse.lookup y) hk hx hns (v := .int (i : Int) t) ?_ ?_) d1
  · show List.lookup x [(x, _)] = _
    simp [List.lookup]
  have li : i < its.length := (List.getElem?_eq_some_iff.mp hi).1
  have h63 := line63
  refine ⟨hl1.typeIs, getItem_listL hl1 (by omega) (by omega) (by rw [Int.toNat_natCast]; exact hi) ⟨h₁, _, rfl, kp, Reads.int _ _⟩⟩
end
theorem key_each : ∀ {us : List Value} {ns : List Int}, IntsAre us ns → EachIs (fun v a => ∃ t, v = Value.int a t) us ns
  | _, _, .nil => .nil
  | _, _, .cons n t h => .cons ⟨t, rfl⟩ (key_each h)
theorem key_ints : ∀ {us : List Value} {ns : List Int}, EachIs (fun v a => ∃ t, v = Value.int a t) us ns → IntsAre us ns
  | _, _, .nil => .nil
  | _, _, .cons ⟨t, e⟩ h => by
    subst e
    exact .cons _ t (key_ints h)
theorem SqL.extN {K : PySem.W.Frag} {H H' : Hp} {a : Addr} {xs : List V} (e : ExtN H H') (h : SqL K H a xs) : SqL K H' a xs := by
  rcases h with (h | ⟨o, h⟩) | h
  · exact .inl (.inl (e _ _ h fun ps z => by cases z))
  · exact .inl (.inr ⟨o, e _ _ h fun ps z => by cases z⟩)
  · exact .inr h
def gSortKL (K : PySem.W.Frag) (T : List (Addr × Str)) (j : Nat) (σ : L2.St) (Q : VK) : VK := fun v H1 => Tabs T H1 ∧ ∃ (l p : Addr) (ns ms : List Int), v = .ref l ∧ σ[j]? = some (some (.ref p)) ∧ SqL K H1 l (ns.map V.int) ∧ SqL K H1 p (ms.map V.int) ∧ (∀ n ∈ ns, 0 ≤ n ∧ n < (ms.length : Int)) ∧
  ∀ (H2 : Hp) (r : Addr), ExtN H1 H2 → Tabs T H2 → H2 r = none → Q (.ref r) (upd H2 r (.lst ((ns.mergeSort fun a b => decide (ms.getD a.toNat 0 ≤ ms.getD b.toNat 0)).map V.int)))
def tSortKL (K : PySem.W.Frag) (T : List (Addr × Str)) (j : Nat) (te : TE) : TE := fun σ H Q => te σ H (gSortKL K T j σ Q)
section
variable {X : Cx}
theorem pe_sortedKL {T : List (Addr × Str)} {j : Nat} {te : TE} {e : Expr} {g x : Str} {params : Arguments} {scope : Scope} {c P : Addr} {sp pos lpos kpos gp xp bp : Pos} (hr : Room 2 X.A)
    (hg : Gl X "sorted") (hm : X.mg "sorted" = none) (hpa : PA X [e] (tCons te tNil))
    (TB : TabB X.base X.mg c P) (hcode : X.env.code = .ref c) (hmT : (P, X.env.qual ++ "<lambda>") ∈ T) (hu : ∀ p ∈ T, p.1 = P → p.2 = X.env.qual ++ "<lambda>")
    (hfree : ∀ y ∈ scope.names, y.2 = .free → X.env.scope.names.lookup y.1 = some .cell ∨ X.env.scope.names.lookup y.1 = some .free) (hdef : defaultsOf params X.env = ([], []))
    (hk : scope.kind = .function) (hco : scope.isCoroutine = false) (hgen : scope.isGenerator = false) (hcell : ∀ y ∈ scope.names, y.2 ≠ .cell) (hx : scope.names.lookup x = some .local) (hgf : scope.names.lookup g = some .free)
    (hgN : X.N[j]? = some g) (hgc : X.env.scope.names.lookup g = some .cell)
    (hbind : ∀ (q : Str) (cl : List (Str × Addr)) (pm cv ctv v : Value), bindArgs (kla_fn "<lambda>" q params (.Subscript (.Name g gp) (.Name x xp) bp) scope cl pm cv ctv) ⟨[v], []⟩ = pure [(x, v)])
    (hst : backTo pos (starEach [e] X.env) = (false, eval e X.env) :: backTo pos (starEach [] X.env) := by rfl) (hpl : (backTo pos (starEach [e] X.env)).any (·.1) = false := by rfl)
    (d1 : (x == ("__debug__" : Str)) = false := by decide) (d2 : (g == ("__debug__" : Str)) = false := by decide) (d3 : (g == ("__classdict__" : Str)) = false := by decide) :
    PE X (.Call (.Name "sorted" sp) [e] [⟨some (Str.ofString "key"), .Lambda params (.Subscript (.Name g gp) (.Name x xp) bp) scope lpos, kpos⟩] pos) (tSortKL X.K T j te) := by
  refine ⟨fun pins s σ H Q I h => ?_⟩
  refine wpAny_Call_Name_kw (ld_blt I hg hm (show bootBuiltins "sorted" = some (.builtin "sorted") by decide +kernel) ?_)
  refine PyProof.Rows.callWith_kw (thn (hpa.run pos pins s σ H (fun vs H1 => match vs with | [v] => gSortKL X.K T j σ Q v H1 | _ => False) I ?_) fun us s1 ⟨vs, H1, I1, r1, q1⟩ => ?_) hst hpl
  · exact h
  match vs, q1, r1 with
  | [v], q1, r1 =>
  obtain ⟨hT, l, p, ns, ms, rfl, hj, hl, hp, hb, q⟩ := (show gSortKL X.K T j σ Q v H1 from q1)
  obtain rfl := Vals.ref1 r1
  have hfC : ∀ y ∈ scope.names, y.2 = .free → ∃ c, X.env.cells.lookup y.1 = some c := fun y hy e => (hfree y hy e).elim (fun z => I1.ok.has _ (.inl z)) fun z => I1.ok.has _ (.inr z)
  refine wpAny_evalAll_cons (wpAny_bind (lam_make2 I1 TB hcode hmT hu hT hdef hfC fun f c' pm' ctv H2 s2 I2 eN T2 hf hfn hfr hco' => wpAny_bind (wpAny_standAt (wpAny_pure ?_))))
  refine wpAny_evalAll_nil ?_
  show wpAny _ _ (call (.builtin "sorted") [.ref l] [(Str.ofString "key", .ref f)]) _ _ _
  obtain ⟨its, rv, hpl2, hz⟩ := I2.list (hl.extN eN)
  obtain ⟨mts, mv, hml, hmz⟩ := I2.list (hp.extN eN)
  have hz : ns.length ≤ sizeLine := by rw [List.length_map] at hz; exact hz
  have hei := key_each rv.ints
  refine sorted_key_data (b := false) (fun a : Int => .int (ms.getD a.toNat 0)) hpl2.isList hei (AllAlike.of fun _ _ => by simp [alike]) (Sortable.others fun _ => ⟨(fun z => by cases z), (fun _ z => by cases z)⟩) hz (fun a _ => ?_) (ksk_s1 _ _) (fun _ => ksk_l1 _ _) (fun _ => ksk_t1 _ _) (fun v a hva ha h tk kp => ?_) fun out c2 h' tk kp fresh hD lout eo => ?_
  · have := hr.un
    show X.A.units + 2 + 0 < cLine
    omega
  · obtain ⟨t, rfl⟩ := hva
    obtain ⟨b0, b1⟩ := hb a ha
    obtain ⟨i, rfl⟩ : ∃ i : Nat, a = (i : Int) := ⟨a.toNat, (Int.toNat_of_nonneg b0).symm⟩
    have hi : i < ms.length := by omega
    obtain ⟨m, hn, hlk⟩ := I2.loc
    obtain ⟨u, ru, lk⟩ := hlk j g (.ref p) hgN hj (.inr (.inl hgc))
    obtain rfl : u = Value.ref p := ru
    have hgc2 : X.env.kindOf g = some .cell := hgc
    obtain ⟨c0, hc0, hcc⟩ : ∃ c0, X.env.cells.lookup g = some c0 ∧ s2.heap.IsCell c0 (some (.ref p)) := by
      rcases lk with ⟨z, _⟩ | ⟨_, c0, a1, a2⟩
      · rw [hgc2] at z
        cases z
      · exact ⟨c0, a1, a2⟩
    have hcl : (cloFrom X.env.cells scope.names []).lookup g = some c0 := NdefX.clo_has hfC (PySem.mem_of_lookup hgf) hc0
    have hmi : (ms.map V.int)[i]? = some (V.int (ms.getD i 0)) := by
      rw [List.getElem?_map, List.getElem?_eq_getElem hi]
      simp [List.getD_eq_getElem?_getD, List.getElem?_eq_getElem hi]
    obtain ⟨wv, ew, t2, rfl⟩ := mv.get hmi
    obtain ⟨⟨oc, vs', tq, k1, k2, k3⟩, _, _⟩ := I2.hok c' _ hco'
    rw [Int.toNat_natCast]
    refine lam_key (c := c0) (p := p) (its := mts) (t2 := t2) hr.in1.in1.depth ?_ (kp _ _ hf) ⟨c', oc, vs', tq, rfl, kp _ _ k1, k2, k3⟩ (fun v => hbind _ _ _ _ _ v) hk hco hgen hcell hx hgf hcl ?_ ?_ ew ?_ d1 d2 d3
    · exact I2.nolimit.keeps kp
    · obtain ⟨o, ho, hd⟩ := hcc
      exact ⟨o, kp _ _ ho, hd⟩
    · obtain ⟨o, ho, hd⟩ := hml.isList
      exact ⟨o, kp _ _ ho, hd⟩
    · rw [← mv.length]
      exact hmz
  · rw [dataLe_int] at eo
    have hlen : ((ns.mergeSort fun a b => decide (ms.getD a.toNat 0 ≤ ms.getD b.toNat 0)).map V.int).length ≤ sizeLine := by
      rw [List.length_map, List.length_mergeSort]
      exact hz
    exact ⟨.ref _, _, I2.laid (o := .lst ((ns.mergeSort fun a b => decide (ms.getD a.toNat 0 ≤ ms.getD b.toNat 0)).map V.int)) (t' := tk) kp (Nat.le_succ _) ⟨hlen, out, c2, vals_of_ints (key_ints eo), hD⟩, rfl, q _ _ eN T2 (I2.hok.fresh (Nat.le_succ _))⟩
/-- the names of the lambda and of the def that makes it -/
def keyScB (sc scope : Scope) (x g : Str) : Bool :=
  decide (scope.kind = .function) && !scope.isCoroutine && !scope.isGenerator && scope.names.all (fun y => !decide (y.2 = .cell)) && decide (scope.names.lookup x = some .local) && decide (scope.names.lookup g = some .free) && decide (sc.names.lookup g = some .cell) &&
    scope.names.all fun y => !decide (y.2 = .free) || decide (sc.names.lookup y.1 = some .cell) || decide (sc.names.lookup y.1 = some .free)
/-- .. with one table -/
theorem pe_sortedK1 {j : Nat} {te : TE} {e : Expr} {g x q : Str} {params : Arguments} {scope : Scope} {c P : Addr} {sp pos lpos kpos gp xp bp : Pos} (hr : Room 2 X.A)
    (hg : Gl X "sorted") (hm : X.mg "sorted" = none) (hpa : PA X [e] (tCons te tNil)) (TB : TabB X.base X.mg c P) (hcode : X.env.code = .ref c) (hq : X.env.qual ++ "<lambda>" = q) (hsc : keyScB X.env.scope scope x g = true) (hdef : defaultsOf params X.env = ([], []))
    (hgN : X.N[j]? = some g)
    (hbind : ∀ (q : Str) (cl : List (Str × Addr)) (pm cv ctv v : Value), bindArgs (kla_fn "<lambda>" q params (.Subscript (.Name g gp) (.Name x xp) bp) scope cl pm cv ctv) ⟨[v], []⟩ = pure [(x, v)])
    (hst : backTo pos (starEach [e] X.env) = (false, eval e X.env) :: backTo pos (starEach [] X.env) := by rfl) (hpl : (backTo pos (starEach [e] X.env)).any (·.1) = false := by rfl)
    (d1 : (x == ("__debug__" : Str)) = false := by decide) (d2 : (g == ("__debug__" : Str)) = false := by decide) (d3 : (g == ("__classdict__" : Str)) = false := by decide) :
    PE X (.Call (.Name "sorted" sp) [e] [⟨some (Str.ofString "key"), .Lambda params (.Subscript (.Name g gp) (.Name x xp) bp) scope lpos, kpos⟩] pos) (tSortKL X.K [(P, q)] j te) := by
  unfold keyScB at hsc
  simp only [Bool.and_eq_true, Bool.or_eq_true, Bool.not_eq_true', decide_eq_true_eq, decide_eq_false_iff_not, List.all_eq_true] at hsc
  obtain ⟨⟨⟨⟨⟨⟨⟨h1, h2⟩, h3⟩, h4⟩, h5⟩, h6⟩, h7⟩, h8⟩ := hsc
  exact pe_sortedKL hr hg hm hpa TB hcode (List.mem_singleton.mpr (by rw [hq])) (fun p hp _ => by rw [List.mem_singleton.mp hp, hq]) (fun y hy e => (h8 y hy).elim (fun z => z.elim (fun z => absurd e z) .inl) .inr) hdef h1 h2 h3 h4 h5 h6 hgN h7 hbind hst hpl d1 d2 d3
end
section
variable {P : Program} {w : World} {K : PySem.W.Frag} {mg : Str → Option Value} {base : Heap}
/-- a def whose code object is known -/
theorem Fun.okC {x qual : Str} {st : Stmt} {f c : Addr} {fd : FuncData} {N ps : List Str} {k : Nat} {sp : Sp} (F : Fun K x qual st f fd) (hc : fd.code = .ref c) (S : FnScope N ps (defScope st)) (len : ∀ vs H Q E, sp vs H Q E → vs.length = ps.length)
    (hbody : ∀ (A : Around) (outer : List Env) (s : Shared) (H : Hp) (vs : List V) (Q : VK) (E : XK), Room k (A.deeper (envOfC qual (defScope st) s.heap.objs.size f (.ref c))) → sp vs H Q E →
      ∃ t, PSs (cxOf CX0 P w K mg base N qual (defScope st) f (.ref c) A outer s H E).nox (defBody st) t ∧ t { nx := fun _ H' => Q .non H', rt := Q } (start N vs) H) : FnOk P w K mg base CX0 (k + 1) f fd ps sp := by
  obtain ⟨oc, od, kV, doc, pm, an, cdv, ct, osl, rfl, lk, hcd⟩ := F.ex
  have e : cdv = .ref c := hc
  subst e
  refine fn_of lk hcd S len fun A outer s H vs Q E hr hsp => ?_
  obtain ⟨t, h, q⟩ := hbody A outer s H vs Q E hr hsp
  exact ⟨t, h.nox, q⟩
end
end L2

/-! a lambda of one parameter that is handed to a def with other things -/
namespace L2
open PySem PySem.Spec PyProof.Rows PySem.W LamX
/-- one parameter, no other name of its own: captured ones and globals -/
structure LamS1 (sc scope : Scope) (x : Str) : Prop where
  kind : scope.kind = .function
  co : scope.isCoroutine = false
  gen : scope.isGenerator = false
  own : ∀ y ∈ scope.names, y.2 ≠ .cell
  loc : ∀ y ∈ scope.names, y.2 = .local → y.1 = x
  hx : scope.names.lookup x = some .local
  free : ∀ y ∈ scope.names, y.2 = .free → sc.names.lookup y.1 = some .cell ∨ sc.names.lookup y.1 = some .free
def lamS1B (sc scope : Scope) (x : Str) : Bool :=
  decide (scope.kind = .function) && !scope.isCoroutine && !scope.isGenerator && decide (scope.names.lookup x = some .local) && scope.names.all fun y => !decide (y.2 = .cell) && (!decide (y.2 = .local) || decide (y.1 = x)) && (!decide (y.2 = .free) || decide (sc.names.lookup y.1 = some .cell) || decide (sc.names.lookup y.1 = some .free))
theorem lamS1_by {sc scope : Scope} {x : Str} (h : lamS1B sc scope x = true) : LamS1 sc scope x := by
  unfold lamS1B at h
  simp only [Bool.and_eq_true, Bool.or_eq_true, Bool.not_eq_true', decide_eq_true_eq, decide_eq_false_iff_not, List.all_eq_true] at h
  obtain ⟨⟨⟨⟨h1, h2⟩, h3⟩, h5⟩, h4⟩ := h
  refine ⟨h1, h2, h3, fun y hy => (h4 y hy).1.1, fun y hy e => ?_, h5, fun y hy e => ?_⟩
  · rcases (h4 y hy).1.2 with z | z
    · exact absurd e z
    · exact z
  · rcases (h4 y hy).2 with (z | z) | z
    · exact absurd e z
    · exact .inl z
    · exact .inr z
theorem LamS1.has {X : Cx} {scope : Scope} {x : Str} (L : LamS1 X.env.scope scope x) (ok : X.Ok) : ∀ y ∈ scope.names, y.2 = .free → ∃ c, X.env.cells.lookup y.1 = some c := fun y hy e => by
  rcases L.free y hy e with k | k
  · exact ok.has _ (.inl k)
  · exact ok.has _ (.inr k)
/-- the context of the lambda's body: the names of the def that made it, and the parameter behind them -/
def lamCx1 (X : Cx) (A : Around) (outer : List Env) (s : Shared) (H : Hp) (E : XK) (scope : Scope) (x : Str) (f c' : Addr) : Cx := { lamCx X A outer s H E scope f c' with N := X.N ++ [x] }
section
variable {X : Cx} {pins : List (Addr × Obj)} {σ : L2.St} {H HZ : Hp} {s s1 : Shared}
theorem lam_start1 {A : Around} {outer : List Env} {E : XK} {scope : Scope} {x : Str} {v : V} {u : Value} {f c' : Addr} {h₁ : Heap} {tk : Nat} (I : Inv X pins σ H s) (L : LamS1 X.env.scope scope x) (hxN : x ∉ X.N) (r : L2.RelV v u) (e0 : Env0 X.prog X.w X.K X.mg X.base A outer s1 HZ) (hd : A.handled = none)
    (un : Un (frs X.stack) [] H HZ s.heap s1.heap) (hns : h₁.Ns s1.heap.objs.size fun y => ([(x, u)] : List (Str × Value)).reverse.lookup y) (kp : ∀ b o, s1.heap.get? b = some o → h₁.get? b = some o) :
    Inv (lamCx1 X A outer s1 HZ E scope x f c') [] (σ ++ [some v]) HZ { s1 with heap := h₁, toks := tk } := by
  have hfree := L.has I.ok
  have cm : ∀ {y c}, (cloFrom X.env.cells scope.names []).lookup y = some c → X.env.cells.lookup y = some c := fun {y c} e => by
    rcases cloFrom_mem (PySem.mem_of_lookup e) with hm | ⟨h1, h2⟩
    · cases hm
    · obtain ⟨c1, hc⟩ := hfree _ h1 rfl
      have hc : X.env.cells.lookup y = some c1 := hc
      have e2 : c = c1 := by
        rw [h2, hc] <;> rfl
      rw [e2]
      exact hc
  have look : ∀ {y}, scope.names.lookup y = some .free → ∃ c, (cloFrom X.env.cells scope.names []).lookup y = some c := fun {y} hl => by
    have hy : (y, NameKind.free) ∈ scope.names := PySem.mem_of_lookup hl
    exact mem_lookup (cloFrom_has (cells := X.env.cells) (acc := []) hy)
  have cellK : ∀ {c : Addr} {v : Option Value}, H c = none → s.heap.IsCell c v → h₁.IsCell c v := fun {c v} n ⟨o, ho, hd⟩ => by
    obtain ⟨sl, q⟩ := un.any ho n (by simp)
    exact ⟨_, kp _ _ q, hd⟩
  have noA : ∀ b : Addr, b ∉ (lamCx1 X A outer s1 HZ E scope x f c').ex := fun b z => absurd (show b ∈ ([] : List Addr) from z) (by simp)
  have ln := I.len
  refine ⟨⟨e0.mod, L.kind, rfl, rfl, Nat.le_refl _, fun y z c e1 e2 => I.ok.inj y z c (cm e1) (cm e2), fun y hy => ?_, fun y c z _ => ?_, fun _ => hd, Around.frames_deeper e0.frames, .inr ⟨rfl, rfl⟩, fun b z => absurd z (noA b), e0.bs, e0.bsz, fun b _ _ => noA b,
      fun b z => absurd z (noA b), e0.funs, e0.frf⟩,
    rfl, e0.bare, Un.kept kp, ⟨_, hns, fun i y v' e1 e2 e3 => ?_⟩, fun y c e => ?_, e0.hok.fresh (Nat.le_refl _), fun y c e => ?_, fun q hq => absurd (show q ∈ ([] : List (Addr × Obj)) ++ [] from hq) (by simp), e0.hok.kept kp, ?_⟩
  · have hy : scope.names.lookup y = some .cell ∨ scope.names.lookup y = some .free := hy
    rcases hy with hy | hy
    · exact absurd rfl (L.own _ (PySem.mem_of_lookup hy))
    · exact look hy
  · have z : false = true := z
    cases z
  · have e1 : (X.N ++ [x])[i]? = some y := e1
    have e3 : Vis scope y := e3
    by_cases hi : i < X.N.length
    · rw [List.getElem?_append_left hi] at e1
      rw [List.getElem?_append_left (by omega)] at e2
      have nx : y ≠ x := fun z => hxN (z ▸ List.mem_of_getElem? e1)
      rcases e3 with k | k | k
      · exact absurd (L.loc _ (PySem.mem_of_lookup k) rfl) nx
      · exact absurd rfl (L.own _ (PySem.mem_of_lookup k))
      · obtain ⟨m, hn, hl⟩ := I.loc
        have hvis : Vis X.env.scope y := (L.free _ (PySem.mem_of_lookup k) rfl).elim (fun k => .inr (.inl k)) (fun k => .inr (.inr k))
        obtain ⟨w', r, q⟩ := hl i y v' e1 e2 hvis
        obtain ⟨c2, h2⟩ := look k
        refine ⟨w', r, .inr ⟨.inr k, c2, h2, ?_⟩⟩
        have c1 := cm h2
        rcases q with ⟨k', _⟩ | ⟨_, c3, e', z⟩
        · have k' : X.env.scope.names.lookup y = some .local := k'
          rcases L.free _ (PySem.mem_of_lookup k) rfl with k2 | k2 <;> rw [show X.env.scope.names.lookup y = _ from k2] at k' <;> cases k'
        · rw [c1] at e'
          cases e'
          exact cellK (I.freeC y _ c1) z
    · rw [List.getElem?_append_right (by omega)] at e1
      rw [List.getElem?_append_right (by omega)] at e2
      obtain hz : i - X.N.length = 0 := by
        cases h : i - X.N.length with
        | zero => rfl
        | succ j => rw [h] at e1; simp at e1
      rw [hz] at e1
      rw [ln, hz] at e2
      obtain rfl : x = y := Option.some.inj e1
      obtain rfl : v = v' := Option.some.inj (Option.some.inj e2)
      refine ⟨u, r, .inl ⟨L.hx, ?_⟩⟩
      show List.lookup x [(x, u)] = some u
      simp [List.lookup]
  · obtain ⟨w', z⟩ := I.cell y c (cm e)
    exact ⟨w', cellK (I.freeC y c (cm e)) z⟩
  · obtain ⟨v, o, ho, hd⟩ := I.cell y c (cm e)
    exact un.free c o ho (I.freeC y c (cm e)) (by simp)
  · show (σ ++ [some v]).length = (X.N ++ [x]).length
    rw [List.length_append, List.length_append, ln]
    rfl
/-- x(e), in the def that got the lambda: Z is that def's context, entered at s -/
theorem pe_act1 {CXg : CXT} {Eg : XK} {Ng : List Str} {qg : Str} {sg : Scope} {g f c' : Addr} {cdg pm ctv : Value} {params : Arguments} {body : Expr} {scope : Scope} {k i : Nat} {a x : Str} {pn : List (Addr × Obj)} {xe : Value → Shared → Prop} {W : WX} {E : XK} {tb te : TE} {e : Expr} {p1 p2 : Pos}
    (I : Inv X pins σ H s) (L : LamS1 X.env.scope scope x) (hxN : x ∉ X.N) (hf : s.heap.get? f = some (PySem.W.kla_obj "<lambda>" (X.env.qual ++ "<lambda>") params body scope (cloFrom X.env.cells scope.names []) pm c' ctv)) (hfn : H f = none) (hfr : f ∉ frs X.stack)
    (hbind : ∀ u : Value, bindArgs (PySem.W.kla_fn "<lambda>" (X.env.qual ++ "<lambda>") params body scope (cloFrom X.env.cells scope.names []) pm (.ref c') ctv) ⟨[u], []⟩ = pure [(x, u)])
    (tk : Takes ((cxOf CXg X.prog X.w X.K X.mg X.base Ng qg sg g cdg X.A X.stack s H Eg).tr pn xe) W) (hW : ∀ cls d σ' H', E cls d H' → W cls d σ' H') (hr : Room (k + 1) (X.A.deeper (envOfC qg sg s.heap.objs.size g cdg)))
    (hbody : ∀ (A : Around) (outer : List Env) (s : Shared) (H : Hp), Room k (A.deeper (lamEnv X scope s.heap.objs.size f c')) → PE (lamCx1 X A outer s H E scope x f c') body tb)
    (hN : Ng[i]? = some a) (hv : Vis sg a) (he : PE ((cxOf CXg X.prog X.w X.K X.mg X.base Ng qg sg g cdg X.A X.stack s H Eg).tr pn xe) e te) (hd : (a == ("__debug__" : Str)) = false := by decide) (hcd : (a == ("__classdict__" : Str)) = false := by decide)
    (hs : starEach [e] ((cxOf CXg X.prog X.w X.K X.mg X.base Ng qg sg g cdg X.A X.stack s H Eg).tr pn xe).env = (false, eval e ((cxOf CXg X.prog X.w X.K X.mg X.base Ng qg sg g cdg X.A X.stack s H Eg).tr pn xe).env) :: starEach [] ((cxOf CXg X.prog X.w X.K X.mg X.base Ng qg sg g cdg X.A X.stack s H Eg).tr pn xe).env := by rfl)
    (hpl : (backTo p2 (starEach [] ((cxOf CXg X.prog X.w X.K X.mg X.base Ng qg sg g cdg X.A X.stack s H Eg).tr pn xe).env)).any (·.1) = false := by rfl) :
    PE ((cxOf CXg X.prog X.w X.K X.mg X.base Ng qg sg g cdg X.A X.stack s H Eg).tr pn xe) (.Call (.Name a p1) [e] [] p2)
      (fun σZ HZ Q => σZ[i]? = some (some (.ref f)) ∧ te σZ HZ fun v H1 => H1 c' = some (CodeO c' (X.env.qual ++ "<lambda>")) ∧ tb (σ ++ [some v]) H1 Q) := by
  refine ⟨fun pinsZ sZ σZ HZ Q IZ h => ?_⟩
  obtain ⟨hsl, ht⟩ := h
  refine wpAny_Call_Name_kw (thn ((pe_var (pos := p1) (i := i) hN hv hd hcd).run pinsZ sZ σZ HZ (fun v H1 => v = .ref f ∧ H1 = HZ) IZ ⟨.ref f, hsl, rfl, rfl⟩) fun u s1 ⟨v, H1, I1, r1, q1⟩ => ?_)
  obtain ⟨ev, eH⟩ := q1
  subst ev
  rw [eH] at I1
  obtain rfl : u = Value.ref f := r1
  have of1 := fun (s2 : Shared) (H2 : Hp) (I2 : Inv ((cxOf CXg X.prog X.w X.K X.mg X.base Ng qg sg g cdg X.A X.stack s H Eg).tr pn xe) pinsZ σZ H2 s2) => I2.base.keep f _ hf hfn hfr (fun z => nomatch (show f ∈ ([] : List Addr) from z))
  refine PySem.W.callWith_F (first := []) ⟨_, _, _, _, of1 s1 HZ I1⟩ (thn ((pa_cons he pa_nil hs).run p2 pinsZ s1 σZ HZ (fun vs H2 => match vs with | [v] => H2 c' = some (CodeO c' (X.env.qual ++ "<lambda>")) ∧ tb (σ ++ [some v]) H2 Q | _ => False) I1 ?_) fun us s2 ⟨vs, H2, I2, r, q⟩ => ?_) hs hpl
  · exact ht
  match vs, q, r with
  | [v], q, r =>
  obtain ⟨u, rfl, rv⟩ : ∃ u, us = [u] ∧ L2.RelV v u := by
    cases r with
    | cons r1 r2 => cases r2; exact ⟨_, rfl, r1⟩
  have of2 := of1 s2 H2 I2
  refine ⟨⟨_, _, _, _, of2⟩, ?_⟩
  show wpAny _ _ (call (.ref f) [u]) _ _ _
  obtain ⟨hc, hb⟩ := q
  have un : Un (frs X.stack) [] H H2 s.heap s2.heap := I2.base
  obtain ⟨⟨oc, ws, t, hoc, hdc, hvc⟩, _, _⟩ := I2.hok c' _ hc
  have rc : codeAny (model X.prog X.w) (X.A.deeper (envOfC qg sg s.heap.objs.size g cdg)) (.call (.ref f) ⟨[u], []⟩) (CR (L2.CX X.prog X.w) (envOfC qg sg s.heap.objs.size g cdg :: X.stack) X.prog X.w H2 s2 Q E) s2 := by
    refine PySem.W.kla_callFunE hr.depth of2 rfl L.co L.gen rfl ⟨c', oc, ws, t, rfl, hoc, hdc, hvc⟩ ?_
    rw [hbind]
    refine wpAny_pure (wpAny_newFunctionEnv (fun y hy => L.own y hy) (fun y hy => by rw [List.mem_singleton.mp hy]; exact L.hx) (fun h₁ hns hsb => ⟨I2.nolimit.fresh _ hsb, ?_⟩) L.kind)
    show codeAny _ _ (.expr body (lamEnv X scope s2.heap.objs.size f c')) _ _
    have kp : ∀ b o, s2.heap.get? b = some o → h₁.get? b = some o := fun b o e => hsb.extBut b o (Nat.ne_of_lt (Heap.lt_size e)) (Heap.get?_push_of_some _ e)
    have J : Inv (lamCx1 X (X.A.deeper (envOfC qg sg s.heap.objs.size g cdg)) (envOfC qg sg s.heap.objs.size g cdg :: X.stack) s2 H2 E scope x f c') [] (σ ++ [some v]) H2 { s2 with heap := h₁, toks := s2.toks + ([(x, u)] : List (Str × Value)).length } :=
      lam_start1 I L hxN rv I2.env0 hr.hd un hns kp
    refine PySem.W.kla_codeExpr (wpAny_mono ((hbody _ _ s2 H2 (hr.deeper _)).run [] _ _ H2 Q J hb) (fun v s' hq => ?_) fun e s' hq => hq)
    obtain ⟨w', H', J', rv, q⟩ := hq
    exact ⟨w', H', J'.os, J'.bare, J'.base, J'.hok, rv, q⟩
  have hx : Passes (L2.CX X.prog X.w) ((cxOf CXg X.prog X.w X.K X.mg X.base Ng qg sg g cdg X.A X.stack s H Eg).tr pn xe) E := passes_call tk hW
  refine wpAny_call (codeAny_mono rc fun r s' hq => ?_)
  cases r with
  | error e => exact hx pinsZ σZ H2 s2 e s' I2 hq
  | ok fl =>
    cases fl with
    | ret u => exact I2.after hq
    | next => exact False.elim hq
    | brk => exact False.elim hq
    | cont => exact False.elim hq
end
/-- a def of three parameters that calls the third one -/
def GivesTo3 (P : Program) (w : World) (K : PySem.W.Frag) (mg : Str → Option Value) (base : Heap) (k : Nat) (Ng : List Str) (x : Str) (sg : Scope) (g : Addr) (bg : List Stmt) (a : Str) (TT : V → V → (V → Hp → VK → Prop) → Hp → VK → Prop) : Prop :=
  ∀ (q : Str) (cdg : Value) (A : Around) (outer : List Env) (f c' : Addr) (s : Shared) (H : Hp) (Q : VK) (v1 v2 : V) (tl : V → Hp → VK → Prop), Room k (A.deeper (envOfC x sg s.heap.objs.size g cdg)) →
    (∀ (e : Expr) (te : TE) (p1 p2 : Pos), PE (cxOf C8.CX0 P w K mg base Ng x sg g cdg A outer s H C8.E0).nox e te → (starEach [e] (cxOf C8.CX0 P w K mg base Ng x sg g cdg A outer s H C8.E0).nox.env = (false, eval e (cxOf C8.CX0 P w K mg base Ng x sg g cdg A outer s H C8.E0).nox.env) :: starEach [] (cxOf C8.CX0 P w K mg base Ng x sg g cdg A outer s H C8.E0).nox.env) →
      PE (cxOf C8.CX0 P w K mg base Ng x sg g cdg A outer s H C8.E0).nox (.Call (.Name a p1) [e] [] p2) (fun σZ HZ Q => σZ[2]? = some (some (.ref f)) ∧ te σZ HZ fun v H1 => H1 c' = some (CodeO c' q) ∧ tl v H1 Q)) →
    H c' = some (CodeO c' q) → TT v1 v2 tl H Q →
    ∃ t, PSs (cxOf C8.CX0 P w K mg base Ng x sg g cdg A outer s H C8.E0).nox bg t ∧ t { nx := fun _ H' => Q .non H', rt := Q } (L2.start Ng [v1, v2, .ref f]) H
def tLam3 (T : List (Addr × Str)) (TT : V → V → (V → Hp → VK → Prop) → Hp → VK → Prop) (t1 t2 t : TE) : TE := fun σ H Q => t1 σ H fun v1 H1 => t2 σ H1 fun v2 H2 => Tabs T H2 ∧ ∀ H3, ExtN H2 H3 → Tabs T H3 → TT v1 v2 (fun v H' Q' => t (σ ++ [some v]) H' Q') H3 Q
section
variable {X : Cx}
/-- x(e1, e2, lambda y: body) -/
theorem pe_lam3 {T : List (Addr × Str)} {TT : V → V → (V → Hp → VK → Prop) → Hp → VK → Prop} {x y a n1 n2 : Str} {st : Stmt} {g c P : Addr} {k : Nat} {fd : FuncData} {Ng : List Str} {e1 e2 : Expr} {t1 t2 : TE}
    {params : Arguments} {body : Expr} {scope : Scope} {t : TE} {p lpos pos : Pos} (F : Fun X.K x x st g fd) (hg : Gl X x) (hm : X.mg x = some (.ref g)) (hk : PySem.W.keepIn X.K (.ref g) = true)
    (hb : L2.Binds X.K fd [n1, n2, a] []) (Sg : FnScope Ng [n1, n2, a] (defScope st)) (hNg : Ng[2]? = some a) (hva : Vis (defScope st) a)
    (hG : GivesTo3 X.prog X.w X.K X.mg X.base (k + 1) Ng x (defScope st) g (defBody st) a TT) (h1 : PE X e1 t1) (h2 : PE X e2 t2)
    (TB : TabB X.base X.mg c P) (hcode : X.env.code = .ref c) (hmT : (P, X.env.qual ++ "<lambda>") ∈ T) (hu : ∀ p ∈ T, p.1 = P → p.2 = X.env.qual ++ "<lambda>") (hr : Room (k + 2) X.A) (L : LamS1 X.env.scope scope y) (hyN : y ∉ X.N) (hdef : defaultsOf params X.env = ([], []))
    (hbind : ∀ (q : Str) (cl : List (Str × Addr)) (pm cv ctv v : Value), bindArgs (PySem.W.kla_fn "<lambda>" q params body scope cl pm cv ctv) ⟨[v], []⟩ = pure [(y, v)])
    (hbody : ∀ (A : Around) (outer : List Env) (s : Shared) (H : Hp) (f c' : Addr), Room k (A.deeper (lamEnv X scope s.heap.objs.size f c')) → PE (lamCx1 X A outer s H (fun _ _ _ => False) scope y f c') body t)
    (hst : starEach (e1 :: [e2, .Lambda params body scope lpos]) X.env = (false, eval e1 X.env) :: starEach [e2, .Lambda params body scope lpos] X.env := by rfl) (hst2 : starEach (e2 :: [.Lambda params body scope lpos]) X.env = (false, eval e2 X.env) :: starEach [.Lambda params body scope lpos] X.env := by rfl)
    (hpl : (backTo pos (starEach [e2, .Lambda params body scope lpos] X.env)).any (·.1) = false := by rfl)
    (hdb : (x == ("__debug__" : Str)) = false := by decide) (hd : (a == ("__debug__" : Str)) = false := by decide) (hcd : (a == ("__classdict__" : Str)) = false := by decide) :
    PE X (.Call (.Name x p) [e1, e2, .Lambda params body scope lpos] [] pos) (tLam3 T TT t1 t2 t) := by
  refine ⟨fun pins s σ H Q I h => ?_⟩
  refine wpAny_Call_Name_kw (ld_glob I hg hm ?_ hdb)
  refine PySem.W.callWith_K (h₀ := X.base) I.ok.mod.kin hk ?_ hst hpl
  rw [hst]
  show wpAny _ _ (spliced ((false, eval e1 X.env) :: backTo pos (starEach [e2, .Lambda params body scope lpos] X.env))) _ _ s
  refine Calls.spliced_cons (thn (h1.run pins s σ H _ I h) fun u1 s1 ⟨v1, H1, I1, r1, q1⟩ => ?_)
  rw [hst2]
  show wpAny _ _ (spliced ((false, eval e2 X.env) :: backTo pos (starEach [.Lambda params body scope lpos] X.env))) _ _ s1
  refine Calls.spliced_cons (thn (h2.run pins s1 σ H1 _ I1 q1) fun u2 s2 ⟨v2, H2, I2, r2, q2⟩ => ?_)
  obtain ⟨hT, q2⟩ := q2
  show wpAny _ _ (spliced ((false, eval (.Lambda params body scope lpos) X.env) :: backTo pos (starEach [] X.env))) _ _ s2
  refine Calls.spliced_cons (lam_make2 I2 TB hcode hmT hu hT hdef (L.has I2.ok) fun f c' pm' ctv H3 s3 I3 eN T3 hf hfn hfr hco => ?_)
  refine Calls.spliced_nil ⟨I3.kIn, ?_⟩
  obtain ⟨oc, od, kV, doc, pm, an, cdv, ct, osl, rfl, lk, hcg⟩ := F.ex
  have rc : codeAny (model X.prog X.w) X.A (.call (.ref g) ⟨[u1, u2, .ref f], []⟩) (CR C8.CX0 X.stack X.prog X.w H3 s3 Q C8.E0) s3 := by
    refine run_ofS (N := Ng) (ps := [n1, n2, a]) (us := [u1, u2, .ref f]) (vs := [v1, v2, .ref f]) lk hcg Sg hr I3.env0 (hb s3 [u1, u2, .ref f] I3.kIn rfl) (.cons r1 (.cons r2 (.cons rfl .nil))) rfl fun hr' => ?_
    refine Exists.elim (hG _ cdv X.A X.stack f c' s3 H3 Q v1 v2 (fun v H' Q' => t (σ ++ [some v]) H' Q') hr' (fun e te p1 p2 he hs => ?_) hco (q2 H3 eN T3)) fun t' h' => ⟨t', h'.1.nox, h'.2⟩
    exact pe_act1 (i := 2) (pn := []) (xe := fun _ _ => False) (W := fun _ _ _ _ => False) (E := fun _ _ _ => False) I3 L hyN hf hfn hfr (fun u => hbind _ _ _ _ _ u) takes0 (fun _ _ _ _ z => z) hr' (fun A outer s H hr2 => hbody A outer s H f c' hr2) hNg hva he hd hcd hs rfl
  refine wpAny_call (codeAny_mono rc fun r s2 hq => ?_)
  cases r with
  | error e => exact (show False from hq).elim
  | ok fl =>
    cases fl with
    | ret u => exact I3.after hq
    | next => exact False.elim hq
    | brk => exact False.elim hq
    | cont => exact False.elim hq
end
/-- of several defs that the slot may hold -/
def tCallR (i : Nat) (S : Addr → Sp → Prop) (t : TA) : TE := fun σ H Q => ∃ f sp, σ[i]? = some (some (.ref f)) ∧ S f sp ∧ t σ H fun vs H1 => sp vs H1 Q (fun _ _ _ => False)
theorem pe_callR {X : Cx} {k i : Nat} {x : Str} {p pos : Pos} {e : Expr} {es : List Expr} {t : TA} {S : Addr → Sp → Prop} (A : ∀ f sp, S f sp → Held X.prog X.w X.K X.mg X.base k f sp) (hr : Room k X.A) (hN : X.N[i]? = some x) (hv : Vis X.env.scope x) (ha : PA X (e :: es) t)
    (hdb : (x == ("__debug__" : Str)) = false := by decide) (hcd : (x == ("__classdict__" : Str)) = false := by decide)
    (he : starEach (e :: es) X.env = (false, eval e X.env) :: starEach es X.env := by rfl) (hpl : (backTo pos (starEach es X.env)).any (·.1) = false := by rfl) : PE X (.Call (.Name x p) (e :: es) [] pos) (tCallR i S t) := by
  refine ⟨fun pins s σ H Q I h => ?_⟩
  obtain ⟨f, sp, hs, hS, ht⟩ := h
  obtain ⟨fd, ps, F, hk, hb⟩ := (A f sp hS).ex
  refine (pe_callL (i := i) (f := f) (sp := sp) (dvs := []) (E := fun _ _ _ => False) F hr hN hv hk hb .nil (fun _ _ _ _ _ _ _ z => z.elim) ha hdb hcd he hpl).run pins s σ H Q I ⟨hs, ?_⟩
  have e0 : (fun (vs : List V) (H1 : Hp) => sp (vs ++ []) H1 Q (fun _ _ _ => False)) = fun vs H1 => sp vs H1 Q (fun _ _ _ => False) := by
    funext vs H1
    rw [List.append_nil]
  show t σ H (fun vs H1 => sp (vs ++ []) H1 Q (fun _ _ _ => False))
  rw [e0]
  exact ht
/-- .. by keywords alone -/
structure HeldK (P : Program) (w : World) (K : PySem.W.Frag) (mg : Str → Option Value) (base : Heap) (k : Nat) (f : Addr) (sp : Sp) (ks : List Str) (gV : List V → List V → List V) : Prop where
  ex : ∃ (fd : FuncData) (ps : List Str) (g : List Value → List Value → List Value), FnOk P w K mg base (fun _ _ _ _ _ _ => False) k f fd ps sp ∧ PySem.W.keepIn K (.ref f) = true ∧ KBn K fd ps 0 ks g gV
theorem pe_callRK {X : Cx} {k i : Nat} {x : Str} {p pos : Pos} {kws : List Keyword} {ks : List Str} {tk : TA} {S : Addr → Sp → (List V → List V → List V) → Prop} (A : ∀ f sp gV, S f sp gV → HeldK X.prog X.w X.K X.mg X.base k f sp ks gV) (hr : Room k X.A) (hN : X.N[i]? = some x) (hv : Vis X.env.scope x)
    (hkw : PK X kws tk) (hall : (backToKw pos (keywordEach kws X.env)).all (·.1.isSome) = true := by rfl) (hks : (backToKw pos (keywordEach kws X.env)).filterMap (·.1) = ks := by rfl)
    (hdb : (x == ("__debug__" : Str)) = false := by decide) (hcd : (x == ("__classdict__" : Str)) = false := by decide)
    (hpl : ((backTo pos (starEach [] X.env)).any (·.1) || (backToKw pos (keywordEach kws X.env)).any (·.1.isNone)) = false := by rfl) :
    PE X (.Call (.Name x p) [] kws pos) (fun σ H Q => ∃ f sp gV, σ[i]? = some (some (.ref f)) ∧ S f sp gV ∧ tk σ H fun zs H2 => zs.length = ks.length ∧ sp (gV [] zs) H2 Q (fun _ _ _ => False)) := by
  refine ⟨fun pins s σ H Q I h => ?_⟩
  obtain ⟨f, sp, gV, hs, hS, ht⟩ := h
  obtain ⟨fd, ps, g, F, hk, hb⟩ := (A f sp gV hS).ex
  refine wpAny_Call_Name_kw (thn ((pe_var (pos := p) hN hv hdb hcd).run pins s σ H (fun v H1 => v = .ref f ∧ H1 = H) I ⟨.ref f, hs, rfl, rfl⟩) fun u s1 ⟨v, H1, I1, r1, q1⟩ => ?_)
  obtain ⟨rfl, rfl⟩ := q1
  cases r1
  refine PySem.W.callWith_KW0 (h₀ := X.base) I1.ok.mod.kin hk hall ?_ hpl
  refine thn (hkw.run pos pins s1 σ _ _ I1 ht) fun ws s2 ⟨zs, H2, I2, rz, l2, q2⟩ => ⟨I2.kIn, ?_⟩
  rw [hks]
  exact run_fnN F hr hb (fun _ _ _ _ _ _ _ z => z.elim) I2 .nil rz rfl l2 q2
theorem fac {α : Type} {P : α → Prop} {x : α} {l : List α} (h : P x) (t : ∀ p ∈ l, P p) : ∀ p ∈ x :: l, P p := fun p hp => by
  rcases List.mem_cons.mp hp with e | hp
  · rw [e]; exact h
  · exact t p hp
theorem fan {α : Type} {P : α → Prop} : ∀ p ∈ ([] : List α), P p := fun p hp => by cases hp
end L2

namespace L2
open PySem PySem.Spec PyProof.Rows
/-! ### Base.__init__(self, ..) where Base is a class of the program that has no own one -/
section
variable {X : Cx} {e : Expr} {es : List Expr} {ta : TA} {x : Str} {B : Addr} {p1 p2 pos : Pos}
theorem pe_baseinit {pl : Sem Bool} (hg : Gl X x) (hm : X.mg x = some (.ref B)) (rd1 : PySem.W.readsIn X.K B (.type "type") = true) (rd2 : PySem.W.specialIn X.K (.ref B) "__getattribute__" = some (some (.builtin "type.__getattribute__"))) (vV : PySem.W.findCls X.K (.ref B) (.type "type") "__init__" = some (.val (.builtin "ValueError.__init__"))) (ha : PA X (e :: es) ta)
    (hc : eval (.Call (.Attribute (.Name x p1) "__init__" p2) (e :: es) [] pos) X.env = (do
      let base ← eval (.Name x p1) X.env
      standAt p2.atName
      let (f, first) ← holding [base] (getMethod base "__init__" pl)
      callWith pos f first (backTo pos (starEach (e :: es) X.env)) (backToKw pos (keywordEach [] X.env))) := by rfl)
    (hdb : (x == ("__debug__" : Str)) = false := by decide) (he : starEach (e :: es) X.env = (false, eval e X.env) :: starEach es X.env := by rfl) (hpl : (backTo pos (starEach es X.env)).any (·.1) = false := by rfl) :
    PE X (.Call (.Attribute (.Name x p1) "__init__" p2) (e :: es) [] pos) (tVeI X.K ta) := by
  refine ⟨fun pins s σ H Q I h => PySem.W.methodCall_KW (ld_glob I hg hm ?_ hdb) hc⟩
  refine PySem.W.method_cls I.kIn rd2 (PySem.W.cls_value I.kIn rd1 vV (by decide +kernel) ?_)
  show wpAny _ _ (callWith pos (Value.builtin "ValueError.__init__") [] (backTo pos (starEach (e :: es) X.env)) []) _ _ _
  refine PyProof.Rows.callWith_method1 (thn (ha.run pos pins _ σ H _ (I.tok _) h) fun us s1 ⟨vs, H1, I1, rel, a, C, ws, ev, hl, T, ea, q⟩ => ?_) he hpl
  subst ev
  cases rel with
  | @cons _ w0 _ wr r0 rs =>
    have ew : w0 = Value.ref a := r0
    subst ew
    have short : wr.length ≤ sizeLine := by
      have := Paired.length rs
      rw [sizeLine_eq]
      omega
    exact oinit_ok T I1 ea short fun s' J => ⟨.non, H1, J, rfl, q⟩
end
/-! ### what the text says of an error's class, and of the class above -/
structure ExC (K : PySem.W.Frag) (mg : Str → Option Value) (C fI : Addr) (x f : Str) : Prop where
  g : mg x = some (.ref C)
  ox : OexC K C
  ii : PySem.W.findIn K (.ref C) "__init__" = some (some (.ref fI))
  ti : PySem.W.typeIn K (.ref fI) = some (.type "function")
  no : PySem.W.findIn K (.ref C) f = some none
  xf : XfC K C
  te : PySem.W.exmOne K (.ref C) (.ref C) = some true
structure ExB (K : PySem.W.Frag) (mg : Str → Option Value) (B : Addr) (x : Str) : Prop where
  g : mg x = some (.ref B)
  r1 : PySem.W.readsIn K B (.type "type") = true
  r2 : PySem.W.specialIn K (.ref B) "__getattribute__" = some (some (.builtin "type.__getattribute__"))
  vi : PySem.W.findCls K (.ref B) (.type "type") "__init__" = some (.val (.builtin "ValueError.__init__"))
theorem exm_own {K : PySem.W.Frag} {S : Addr} (h1 : PySem.W.subIn K (.ref S) (.type "BaseException") = some true) (h2 : PySem.W.isClsIn K S = true) (h3 : PySem.W.typeIn K (.ref S) = some (.type "type")) (h4 : PySem.W.subIn K (.ref S) (.ref S) = some true) :
    PySem.W.exmOne K (.ref S) (.ref S) = some true := by
  have h2' : (PySem.W.clsIn K S).isSome = true := h2
  unfold PySem.W.exmOne
  simp [PySem.W.kitCls, h1, h2', h3, h4]
theorem exC_mk {K : PySem.W.Frag} {h : Heap} {mg : Str → Option Value} {C B fI : Addr} {x f : Str} (X : K.In h) (G : h.Ns mainGlobals mg)
    {nm q : Str} {N : Addr} {bs : List Value} {sn : List Str} {sub : List Value} {ab : Bool} {col : Option Bool} {dd : Option Addr} {m0 m1 m2 m3 m5 : Option Value}
    (aC : PySem.W.nsIn K mainGlobals x = some (some (.ref C)))
    (xL : K.lookup C = some (excClassObj nm q C N bs [.ref B, .type "ValueError", .type "Exception", .type "BaseException", .type "object"] true sn sub ab col dd m0 m1 m2 m3 m5 "ValueError.__new__"))
    (sa : PySem.W.findIn K (.ref C) "__setattr__" = some (some (.builtin "object.__setattr__"))) (ga : PySem.W.findIn K (.ref C) "__getattribute__" = some (some (.builtin "BaseException.__getattribute__"))) (gg : PySem.W.findIn K (.ref C) "__getattr__" = some none)
    (nb : PySem.W.findIn K (.ref C) f = some none) (ii : PySem.W.findIn K (.ref C) "__init__" = some (some (.ref fI))) (ti : PySem.W.typeIn K (.ref fI) = some (.type "function")) (kC : PySem.W.keepIn K (.ref C) = true)
    (eC : PySem.W.subIn K (.ref C) (.type "BaseException") = some true) (tC : PySem.W.typeIn K (.ref C) = some (.type "type")) (hC : PySem.W.hasDictIn K C = true) (iC : PySem.W.isClsIn K C = true) (sC : PySem.W.subIn K (.ref C) (.ref C) = some true) :
    ExC K mg C fI x f :=
  ⟨PySem.W.mg_of X G aC, ⟨⟨_, _, _, _, _, _, _, _, _, _, _, _, _, _, _, xL, rfl⟩, sa, eC, tC, kC⟩, ii, ti, nb, ⟨ga, gg, eC, hC⟩, exm_own eC iC tC sC⟩
/-- what __init__ of such an error does: the value is kept under f -/
def spErr (C : Addr) (f : Str) : Sp := fun vs H Q _ => ∃ (e : Addr) (v : V), vs = [.ref e, v] ∧ H e = some (exo e C none) ∧ ∀ dx, H dx = none → dx ≠ e → Q .non (upd (upd H dx (exd dx [(f, v)])) e (exo e C (some dx)))
end L2

namespace L2
open PySem PySem.Spec PyProof.Rows
/-! ### several except clauses, with a name or without -/
/-- behind a clause with a name the slot is empty -/
def endsAs (D : Ends) : Option Nat → Ends
  | none => D
  | some i => { nx := fun σ' H' => D.nx (σ'.set i none) H', rt := D.rt, bk := fun σ' H' => D.bk (σ'.set i none) H', ct := fun σ' H' => D.ct (σ'.set i none) H' }
def slotAs (σ : L2.St) (a : Addr) : Option Nat → L2.St
  | none => σ
  | some i => σ.set i (some (.ref a))
/-- what a row of clauses wishes of an exception -/
def wRow (K : PySem.W.Frag) (Wo : WX) (D : Ends) : List (Value × Option Nat × (Addr → Value → Option Addr → TS)) → WX
  | [] => Wo
  | (c, i, ts) :: r => fun cls d σ H => ∃ y, PySem.W.exmOne K cls c = some y ∧ (y = true → ∀ a, H a = none → ts a cls d (endsAs D i) (slotAs σ a i) H) ∧ (y = false → wRow K Wo D r cls d σ H)
inductive Clauses (X : Cx) : List ExceptHandler → List (Value × Option Nat × (Addr → Value → Option Addr → TS)) → Prop
  | nil : Clauses X [] []
  | plain {x : Str} {c : Value} {ts : Addr → Value → Option Addr → TS} {z : Stmt} {zs : List Stmt} {p q : Pos} {hs : List ExceptHandler} {l : List (Value × Option Nat × (Addr → Value → Option Addr → TS))} (hc : Names X x c)
      (su : ∀ (a : Addr) (oe : Obj) (cls : Value) (d : Option Addr) (pn : List (Addr × Obj)), Zc cls d oe → (∃ vs, oe.data = .fields vs) → PSs (X.suite a ((a, oe) :: pn)) (z :: zs) (ts a cls d)) (r : Clauses X hs l) :
      Clauses X (.ExceptHandler (some (.Name x p)) none (z :: zs) q :: hs) ((c, none, ts) :: l)
  | named {x n : Str} {i : Nat} {c : Value} {ts : Addr → Value → Option Addr → TS} {z : Stmt} {zs : List Stmt} {p q : Pos} {hs : List ExceptHandler} {l : List (Value × Option Nat × (Addr → Value → Option Addr → TS))} (hN : X.N.Nodup) (hi : X.N[i]? = some n) (hk : X.env.kindOf n = some .local) (hc : Names X x c)
      (su : ∀ (a : Addr) (oe : Obj) (cls : Value) (d : Option Addr) (pn : List (Addr × Obj)), Zc cls d oe → (∃ vs, oe.data = .fields vs) → PSs (X.suite a ((a, oe) :: pn)) (z :: zs) (ts a cls d)) (r : Clauses X hs l) :
      Clauses X (.ExceptHandler (some (.Name x p)) (some n) (z :: zs) q :: hs) ((c, some i, ts) :: l)
section
variable {X : Cx} {body : List Stmt} {h0 : ExceptHandler} {hds : List ExceptHandler} {l : List (Value × Option Nat × (Addr → Value → Option Addr → TS))} {pos : Pos} {tb : WX → TS} {Wo : WX}
theorem ps_try_row (hst : X.stack = X.env :: X.outer) (hfm : X.env.frame = some X.env.locals) (tk : Takes X Wo)
    (hb : ∀ (W : WX) (pn : List (Addr × Obj)) (xe : Value → Shared → Prop), Takes (X.tr pn xe) W → PassesOwn (model X.prog X.w) X.A X.env xe → PSs (X.tr pn xe) body (tb W))
    (hh : Clauses X (h0 :: hds) l) : PS X (.Try body (h0 :: hds) [] [] pos) (fun D σ H => tb (wRow X.K Wo D l) D σ H) := by
  constructor
  intro pins s σ H D I h
  have hok := I.ok
  have hfrm : X.A.frames = some (X.env :: X.outer) := by rw [hok.frames, hst]
  refine wpAny_Try_except ?_
  have run := (hb (wRow X.K Wo D l) (X.pn ++ pins) (fun e t1 => wpAny (model X.prog X.w) X.A (noteFrame e X.env) (fun _ t2 => wpAny (model X.prog X.w) X.A (setFlight e none)
    (fun _ t3 => wpAny (model X.prog X.w) X.A (handleBy e X.env (h0 :: hds)) (SP X pins D) X.xe t3) X.xe t2) X.xe t1) (fun u s' xx => ?_) PassesOwn.looking).run [] s σ H D (I.toTry _) h
  · refine wpAny_mono run (fun f s1 hsp => ?_) (fun e s1 he => he)
    cases f with
    | ret u => obtain ⟨v, σ1, H1, J, r, q⟩ := hsp; exact ⟨v, σ1, H1, J.ofTry hok, r, q⟩
    | next => obtain ⟨σ1, H1, J, q⟩ := hsp; exact wpAny_execs_nil ⟨σ1, H1, J.ofTry hok, q⟩
    | cont => obtain ⟨σ1, H1, J, q⟩ := hsp; exact ⟨σ1, H1, J.ofTry hok, q⟩
    | brk => obtain ⟨σ1, H1, J, q⟩ := hsp; exact ⟨σ1, H1, J.ofTry hok, q⟩
  -- an exception has come out
  obtain ⟨a, B, sI, pins1, σ1, H1, cls, d, rfl, J0, nb, up, sky, na, os, ag, wi⟩ := xx
  have J : Inv X pins σ1 H1 sI := J0.ofTry hok
  have sky1 : Sky B (X.env :: X.outer) a (Zc cls d) X.env.locals s'.heap := by rw [← hst]; exact sky
  show wpAny (model X.prog X.w) X.A (noteFrame (.ref a) X.env) _ _ _
  refine Sky.land Zc.steady hfrm hfm sky1 fun h3 fl3 up3 => ?_
  have J3 : Inv X pins σ1 H1 { s' with heap := h3 } := J.landed nb fl3.1 (up.trans up3) os ag
  obtain ⟨oe3, vs3, he3, hz3, hd3⟩ := fl3.there
  have far : a ∉ frs (X.env :: X.outer) := fun hm => by
    obtain ⟨_, o1, e1, hnf⟩ := fl3.2.2.1.mem hm
    rw [he3] at e1
    cases e1
    exact hnf _ hd3
  have nL : a ≠ X.env.locals := fun z => far (List.mem_filterMap.mpr ⟨X.env, List.mem_cons_self, by rw [hfm, z]⟩)
  have nF : a ∉ X.fs := fun hm => by
    obtain ⟨e, he, q⟩ := List.mem_filterMap.mp hm
    exact far (List.mem_filterMap.mpr ⟨e, List.mem_cons_of_mem _ he, q⟩)
  have S3 := J3.suite he3 hd3 na nL nF
  have LT : PySem.W.Looks (model X.prog X.w) h3 (typeOf (.ref a)) cls := fun A Q E s k q => wpAny_typeOf_ref (k _ _ he3) (by rw [hz3.1]; exact q)
  have look : ∀ {x : Str} {c : Value} {p : Pos}, Names X x c → ∀ {Q E : Value → Shared → Prop}, Q c { s' with heap := h3 } → wpAny (model X.prog X.w) (X.A.mark (some (.ref a))) (eval (.Name x p) X.env) Q E { s' with heap := h3 } := by
    intro x c p hc Q E q
    obtain ⟨hg, hdbg, hm | ⟨hm, hv, hnn⟩⟩ := hc
    · exact ld_glob (X := X.suite a ((a, oe3) :: (X.pn ++ pins))) S3 hg hm q hdbg
    · exact ld_blt (X := X.suite a ((a, oe3) :: (X.pn ++ pins))) S3 hg hm hv q hnn hdbg
  have go : ∀ {hs1 : List ExceptHandler} {l1 : List (Value × Option Nat × (Addr → Value → Option Addr → TS))}, Clauses X hs1 l1 → wRow X.K Wo D l1 cls d σ1 H1 →
      wpAny (model X.prog X.w) X.A (handleBy (.ref a) X.env hs1) (SP X pins D) X.xe { s' with heap := h3 } := by
    intro hs1 l1 hk
    induction hk with
    | nil =>
      intro wi
      refine wpAny_handleBy_nil ?_
      obtain ⟨_, _, _, oe, vs, T, oT, ts1, he, hz, hd, h1, hr⟩ := id fl3
      unfold PySem.passOn
      refine wpAny_bind (wpAny_field he hd h1 ?_)
      rw [if_neg (show ¬ ((Value.ref T == Value.none) = true) from by simp)]
      have out : wpAny (model X.prog X.w) X.A (setFlight (.ref a) X.env.frame) (fun _ t4 => wpAny (model X.prog X.w) X.A (throw (.ref a) : Sem Flow) (SP X pins D) X.xe t4) X.xe { s' with heap := h3 } := by
        rw [hfm]
        exact HandSPX.setFlight_upZ fl3 fun h4 hh4 up4 => wpAny_throw (tk _ _ ⟨a, B, sI, pins, σ1, H1, cls, d, rfl, J, nb, (up.trans up3).trans up4, .inr (.inr (by rw [hst]; exact hh4)), na, os, ag, wi⟩)
      first
        | exact wpAny_bind (wpAny_pure (wpAny_bind out))
        | exact wpAny_bind out
    | plain hc su r ih =>
      rintro ⟨y, hy, yes, no⟩
      refine wpAny_handleBy_cons (codeAny_handlers_test ?_) (by intro q; cases q)
      refine look hc ((PySem.W.exm_one (M := model X.prog X.w) J3.kIn LT hy).here ?_)
      cases y with
      | false => exact ih (no rfl)
      | true =>
        refine codeAny_handlers_suite (HandSPX.lands_againZ fl3 fun h4 fl4 up4 => ?_)
        obtain ⟨oe4, vs4, he4, hz4, hd4⟩ := fl4.there
        have J4 : Inv X pins σ1 H1 { s' with heap := h4 } := J.landed nb fl4.1 ((up.trans up3).trans up4) os ag
        refine wpAny_mono ((su a oe4 cls d (X.pn ++ pins) hz4 ⟨_, hd4⟩).run [] _ _ H1 _ (J4.suite he4 hd4 na nL nF) (yes rfl a na)) (fun f s6 hsp => ?_) (fun _ _ z => False.elim z)
        cases f with
        | ret u => obtain ⟨v6, σ6, H6, S6, r6, q6⟩ := hsp; exact ⟨_, _, _, S6.unsuite hok, r6, q6⟩
        | next => obtain ⟨σ6, H6, S6, q6⟩ := hsp; exact ⟨_, _, S6.unsuite hok, q6⟩
        | cont => obtain ⟨σ6, H6, S6, q6⟩ := hsp; exact ⟨_, _, S6.unsuite hok, q6⟩
        | brk => obtain ⟨σ6, H6, S6, q6⟩ := hsp; exact ⟨_, _, S6.unsuite hok, q6⟩
    | @named x n i c ts z zs p q hs2 l2 hN hi hkk hc su r ih =>
      rintro ⟨y, hy, yes, no⟩
      refine wpAny_handleBy_cons (codeAny_handlers_test ?_) (by intro q; cases q)
      refine look hc ((PySem.W.exm_one (M := model X.prog X.w) J3.kIn LT hy).here ?_)
      cases y with
      | false => exact ih (no rfl)
      | true =>
        refine codeAny_handlers_suite_as (HandSPX.lands_againZ fl3 fun h4 fl4 up4 => ?_)
        obtain ⟨oe4, vs4, he4, hz4, hd4⟩ := fl4.there
        have J4 : Inv X pins σ1 H1 { s' with heap := h4 } := J.landed nb fl4.1 ((up.trans up3).trans up4) os ag
        refine store_ok (X := X.suite a ((a, oe4) :: (X.pn ++ pins))) (v := .ref a) (J4.suite he4 hd4 na nL nF) hN hi (.inl hkk) rfl (fun s5 S5 => ?_) (.inr hkk)
        refine wpAny_mono ((su a oe4 cls d (X.pn ++ pins) hz4 ⟨_, hd4⟩).run [] s5 _ H1 _ S5 (yes rfl a na)) (fun f s6 hsp => ?_) (fun _ _ z => False.elim z)
        have fin : ∀ {σ6 : L2.St} {H6 : Hp} {Q : Shared → Prop}, Inv (X.suite a ((a, oe4) :: (X.pn ++ pins))) [] σ6 H6 s6 → (∀ s7, Inv X pins (σ6.set i none) H6 s7 → Q s7) →
            wpAny (model X.prog X.w) X.A (do bindName X.env n .none; unbindBehindTheSuite X.env n q) (fun _ s7 => Q s7) X.xe s6 := fun S6 hq => gone_ok (S6.unsuite hok) hN hi hkk hq
        cases f with
        | ret u => obtain ⟨v6, σ6, H6, S6, r6, q6⟩ := hsp; exact fin S6 fun s7 J7 => ⟨_, _, _, J7, r6, q6⟩
        | next => obtain ⟨σ6, H6, S6, q6⟩ := hsp; exact fin S6 fun s7 J7 => ⟨_, _, J7, q6⟩
        | cont => obtain ⟨σ6, H6, S6, q6⟩ := hsp; exact fin S6 fun s7 J7 => ⟨_, _, J7, q6⟩
        | brk => obtain ⟨σ6, H6, S6, q6⟩ := hsp; exact fin S6 fun s7 J7 => ⟨_, _, J7, q6⟩
  exact go hh wi
end
end L2

/-! lambdas without a parameter, or with one that has a default of 0, as values that are kept -/
namespace L2
open PySem PySem.Spec PyProof.Rows PySem.W LamX
/-- what a lambda's object says -/
structure LamD where
  q : Str
  params : Arguments
  body : Expr
  scope : Scope
  cl : List (Str × Addr)
def FunO (f : Addr) (L : LamD) (dV : Value) (c' : Addr) : HO := .ext fun h => ∃ doc pm ctv, h.get? f = some (kdv_obj "<lambda>" L.q L.params (.expr L.body) L.scope L.cl dV doc pm c' ctv)
theorem funO_ne {f c' : Addr} {L : LamD} {dV : Value} (ps : Array Value) : FunO f L dV c' ≠ .tbl ps := fun z => by
  unfold FunO at z
  cases z
/-- at f stands a lambda -/
def LamAt (H : Hp) (f : Addr) (L : LamD) : Prop := ∃ c' dV, H f = some (FunO f L dV c') ∧ H c' = some (CodeO c' L.q) ∧ ((L.params.defaults = [] ∧ dV = .none) ∨ (L.params.defaults ≠ [] ∧ ∃ t0, dV = .ref t0 ∧ H t0 = some (.tup [.int 0])))
theorem LamAt.ext {H H' : Hp} {f : Addr} {L : LamD} (e : ExtN H H') (h : LamAt H f L) : LamAt H' f L := by
  obtain ⟨c', dV, h1, h2, h3⟩ := h
  refine ⟨c', dV, e _ _ h1 funO_ne, e _ _ h2 codeO_ne, h3.imp id fun ⟨n, t0, h4, h5⟩ => ⟨n, t0, h4, e _ _ h5 fun ps z => by cases z⟩⟩
theorem LamAt.same {H H' : Hp} {f : Addr} {L : LamD} (e : Same H H') (h : LamAt H f L) : LamAt H' f L := h.ext (.of e)
section
variable {X : Cx} {pins : List (Addr × Obj)} {σ : L2.St} {H : Hp} {s : Shared}
/-- the lambda is made: its code object is new, or found in the table -/
theorem tail_makeO {T : List (Addr × Str)} {c P : Addr} {q : Str} {params : Arguments} {body : Expr} {scope : Scope} {pos : Pos} {dV : Value} {clos : List (Str × Addr)} {E : Value → Shared → Prop} {Q : Value → Shared → Prop} (I : Inv X pins σ H s) (TB : TabB X.base X.mg c P) (hcode : X.env.code = .ref c)
    (hm : (P, q) ∈ T) (hu : ∀ p ∈ T, p.1 = P → p.2 = q) (hT : Tabs T H) (hcl : closureFor scope X.env = pure clos)
    (h : ∀ (f c' : Addr) (H1 : Hp) (s' : Shared), Inv X pins σ H1 s' → ExtN H H1 → Tabs T H1 → s.heap.objs.size ≤ f → H1 f = some (FunO f ⟨q, params, body, scope, clos⟩ dV c') → H1 c' = some (CodeO c' q) → Q (.ref f) s') :
    wpAny (model X.prog X.w) X.A (makeTail "<lambda>" q params (.expr body) scope X.env dV .none none pos pos.line) Q E s := by
  obtain ⟨ps, hP, ht, ha⟩ := hT _ hm
  have bP : s.heap.BuiltinsAt X.mg P := TB.bm.keeps I.bk
  have hP' : s.heap.get? P = some { cls := .none, data := .fields ps } := I.hok P _ hP
  cases hc : codeAmong pos ps.toList with
  | none =>
    refine kdv_makeTail (mg := X.mg) (c := c) (P := P) (ps := ps) hcl I.ok.glob (I.mod.glob.keeps I.bk) hcode (TB.code.keeps I.bk) hP' ht hc TB.gP bP fun c' ctv doc h' tk hx hge hlt hrec htb => ?_
    obtain ⟨c2, oc, vs, t, e2, hoc, hd, hv⟩ := hrec
    cases e2
    have hsz : s.heap.objs.size ≤ h'.objs.size := Nat.le_trans hge (Nat.le_of_lt hlt)
    have nC : H c' = none := I.hok.fresh hge
    have I1 := inv_table (t' := tk) (more := #[rawInt pos.line, rawInt pos.col, .ref c']) (h' := h') I hP hx htb hge ⟨oc, vs, t, hoc, hd, hv⟩
    generalize hH1 : upd (upd H P (.tbl (ps ++ #[rawInt pos.line, rawInt pos.col, .ref c']))) c' (CodeO c' q) = H1 at I1
    have hE : ExtN H H1 := fun b o e n => by
      rw [← hH1, upd_ne (ne_of_none e nC), upd_ne (fun z => n ps (Option.some.inj (e.symm.trans (by rw [z]; exact hP))))]
      exact e
    have hc1 : H1 c' = some (CodeO c' q) := by rw [← hH1, upd_same]
    have fF : H1 h'.objs.size = none := I1.hok.fresh (Nat.le_refl _)
    have I2 := I1.laid (t' := tk) (h' := h'.push (kdv_obj "<lambda>" q params (.expr body) scope clos dV doc ((X.mg "__name__").getD .none) c' ctv)) (a := h'.objs.size) (o := FunO h'.objs.size ⟨q, params, body, scope, clos⟩ dV c') (fun b o e => Heap.get?_push_of_some _ e) (Nat.le_refl _)
      ⟨⟨_, _, _, Heap.get?_push_size _ rfl⟩, ⟨_, Heap.get?_push_size _ rfl⟩, fun h1 h2 ⟨doc, pm, ctv, e⟩ st => ⟨doc, pm, ctv, st _ e⟩⟩
    have s12 : ∀ b o, H1 b = some o → upd H1 h'.objs.size (FunO h'.objs.size ⟨q, params, body, scope, clos⟩ dV c') b = some o := fun b o e => by rw [upd_ne (ne_of_none e fF)]; exact e
    have eL : (ps ++ #[rawInt pos.line, rawInt pos.col, .ref c']).toList = ps.toList ++ [rawInt pos.line, rawInt pos.col, .ref c'] := by simp
    refine h h'.objs.size c' _ _ I2 (hE.trans (.of s12)) (fun p hp => TabS.ext ?_ s12) hsz upd_same (s12 _ _ hc1)
    by_cases hb : p.1 = P
    · rw [hu p hp hb, hb]
      refine ⟨_, by rw [← hH1, upd_ne (ne_of_none hP nC), upd_same], by rw [eL]; exact PySem.TriplesOk_snoc _ _ _ _ ht, fun p' cv hcv => ?_⟩
      rw [eL] at hcv
      rcases among_app _ ht hcv with z | z
      · obtain ⟨c0, e1, e2⟩ := ha p' cv z
        exact ⟨c0, e1, hE _ _ e2 codeO_ne⟩
      · exact ⟨c', z, hc1⟩
    · obtain ⟨ps', a1, a2, a3⟩ := hT p hp
      refine ⟨ps', by rw [← hH1, upd_ne (ne_of_none a1 nC), upd_ne hb]; exact a1, a2, fun p' cv hcv => ?_⟩
      obtain ⟨c0, e1, e2⟩ := a3 p' cv hcv
      exact ⟨c0, e1, hE _ _ e2 codeO_ne⟩
  | some cv =>
    obtain ⟨c', e, hco⟩ := ha pos cv hc
    subst e
    refine kdv_makeTailHit (mg := X.mg) (c := c) (P := P) (ps := ps) hcl I.ok.glob (I.mod.glob.keeps I.bk) hcode (TB.code.keeps I.bk) hP' ht hc bP fun ctv doc h' tk hx hsz => ?_
    have fF : H h'.objs.size = none := I.hok.fresh hsz
    have I2 := I.laid (t' := tk) (h' := h'.push (kdv_obj "<lambda>" q params (.expr body) scope clos dV doc ((X.mg "__name__").getD .none) c' ctv)) (a := h'.objs.size) (o := FunO h'.objs.size ⟨q, params, body, scope, clos⟩ dV c') (fun b o e => Heap.get?_push_of_some _ (hx b o e)) hsz
      ⟨⟨_, _, _, Heap.get?_push_size _ rfl⟩, ⟨_, Heap.get?_push_size _ rfl⟩, fun h1 h2 ⟨doc, pm, ctv, e⟩ st => ⟨doc, pm, ctv, st _ e⟩⟩
    have s12 : ∀ b o, H b = some o → upd H h'.objs.size (FunO h'.objs.size ⟨q, params, body, scope, clos⟩ dV c') b = some o := fun b o e => by rw [upd_ne (ne_of_none e fF)]; exact e
    exact h h'.objs.size c' _ _ I2 (.of s12) (hT.ext s12) hsz upd_same (s12 _ _ hco)
end
/-- the lambda that X's text writes there -/
def lamD (X : Cx) (params : Arguments) (body : Expr) (scope : Scope) : LamD := ⟨X.env.qual ++ "<lambda>", params, body, scope, cloFrom X.env.cells scope.names []⟩
/-- the reading of a lambda: a new object that is kept -/
def tLamO (T : List (Addr × Str)) (L : LamD) : TE := fun σ H Q => Tabs T H ∧ ∀ (H1 : Hp) (f : Addr), ExtN H H1 → Tabs T H1 → H f = none → LamAt H1 f L → Q (.ref f) H1
section
variable {X : Cx}
/-- lambda: body; lambda x=0: body -/
theorem pe_lamO {T : List (Addr × Str)} {c P : Addr} {params : Arguments} {body : Expr} {scope : Scope} {pos : Pos} (TB : TabB X.base X.mg c P) (hcode : X.env.code = .ref c) (hmT : (P, X.env.qual ++ "<lambda>") ∈ T) (hu : ∀ p ∈ T, p.1 = P → p.2 = X.env.qual ++ "<lambda>")
    (hfree : ∀ y ∈ scope.names, y.2 = .free → X.env.scope.names.lookup y.1 = some .cell ∨ X.env.scope.names.lookup y.1 = some .free)
    (hk0 : params.kw_defaults = []) (hdef : params.defaults = [] ∨ ∃ j pc, params.defaults = [.Constant (.int 0) j pc]) : PE X (.Lambda params body scope pos) (tLamO T (lamD X params body scope)) := by
  refine ⟨fun pins s σ H Q I h => ?_⟩
  obtain ⟨hT, h⟩ := h
  have hfC : ∀ y ∈ scope.names, y.2 = .free → ∃ c, X.env.cells.lookup y.1 = some c := fun y hy e => (hfree y hy e).elim (fun z => I.ok.has _ (.inl z)) fun z => I.ok.has _ (.inr z)
  rcases hdef with hd | ⟨j, pc, hd⟩
  · refine kla_eval (by rw [defaultsOf_eq, hk0, hd]; rfl) ?_
    rw [makeFunction_eq]
    simp only [List.zip_nil_right, List.filterMap_nil, List.isEmpty_nil, if_true, pure_bind]
    refine tail_makeO I TB hcode hmT hu hT (closure_ok hfC) fun f c' H1 s' I1 e1 T1 hf h1 h2 => ?_
    exact ⟨.ref f, H1, I1, rfl, h H1 f e1 T1 (I.hok.fresh hf) ⟨c', .none, h1, h2, .inl ⟨hd, rfl⟩⟩⟩
  · refine kdv_lam (by rw [hd]; rfl) hk0 ?_
    rw [hd]
    refine kdv_all1 (thn (pe_int.run pins s σ H (fun v H1 => v = .int 0 ∧ H1 = H) I ⟨rfl, rfl⟩) fun u s1 ⟨v, H1, I1, r1, q1⟩ => kdv_all0 ?_)
    obtain ⟨rfl, rfl⟩ := q1
    rw [makeFunction_eq]
    simp only [List.zip_nil_right, List.filterMap_nil, List.isEmpty_nil, if_true, pure_bind, List.isEmpty_cons, Bool.false_eq_true, if_false]
    refine wpAny_bind (wpAny_newTextTuple ?_)
    have nT : H1 s1.heap.objs.size = none := I1.hok.fresh (Nat.le_refl _)
    have I2 := I1.laid (t' := s1.toks) (h' := s1.heap.push { cls := .type "tuple", data := .seq [u].toArray }) (a := s1.heap.objs.size) (o := .tup [.int 0]) (fun b o e => Heap.get?_push_of_some _ e) (Nat.le_refl _) ⟨by decide, [u], .cons r1 .nil, _, Heap.get?_push_size _ rfl, rfl, _, rfl⟩
    have s12 : ∀ b o, H1 b = some o → upd H1 s1.heap.objs.size (.tup [.int 0]) b = some o := fun b o e => by rw [upd_ne (ne_of_none e nT)]; exact e
    refine tail_makeO I2 TB hcode hmT hu (hT.ext s12) (closure_ok hfC) fun f c' H3 s' I3 e3 T3 hf h1 h2 => ?_
    refine ⟨.ref f, H3, I3, rfl, h H3 f ((ExtN.of s12).trans e3) T3 (I1.hok.fresh ?_) ⟨c', _, h1, h2, .inr ⟨by show params.defaults ≠ []; rw [hd]; exact List.cons_ne_nil _ _, _, rfl, e3 _ _ upd_same fun ps z => by cases z⟩⟩⟩
    exact Nat.le_trans (by rw [Heap.size_push]; omega) hf
end
/-- a lambda of X's text that is called without arguments: what its body does -/
inductive LamGood (X : Cx) (k : Nat) (params : Arguments) (body : Expr) (scope : Scope) : (XK → TE) → Prop
  | plain {t : XK → TE} (L : LamS X.env.scope scope) (hdef : params.defaults = [])
      (hbind : ∀ (q : Str) (cl : List (Str × Addr)) (doc pm cv ctv : Value), bindArgs (kdv_fn "<lambda>" q params (.expr body) scope cl .none doc pm cv ctv) ⟨[], []⟩ = pure [])
      (hbody : ∀ (A : Around) (outer : List Env) (s : Shared) (H : Hp) (E : XK) (f c' : Addr), Room k (A.deeper (lamEnv X scope s.heap.objs.size f c')) → PE (lamCx X A outer s H E scope f c') body (t E)) : LamGood X k params body scope t
  | dflt {x : Str} {t : XK → TE} (L : LamS1 X.env.scope scope x) (hxN : x ∉ X.N) (hdef : params.defaults ≠ [])
      (hbind : ∀ (q : Str) (cl : List (Str × Addr)) (t0 : Addr) (doc pm cv ctv : Value), ∃ k, bindArgs (kdv_fn "<lambda>" q params (.expr body) scope cl (.ref t0) doc pm cv ctv) ⟨[], []⟩ = seqItems? (.ref t0) >>= k ∧ ∀ v : Value, k (some #[v]) = pure [(x, v)])
      (hbody : ∀ (A : Around) (outer : List Env) (s : Shared) (H : Hp) (E : XK) (f c' : Addr), Room k (A.deeper (lamEnv X scope s.heap.objs.size f c')) → PE (lamCx1 X A outer s H E scope x f c') body (t E)) : LamGood X k params body scope (fun E σ H Q => t E (σ ++ [some (.int 0)]) H Q)
section
variable {X : Cx} {pins : List (Addr × Obj)} {σ : L2.St} {H : Hp} {s : Shared}
/-- x(), in a def that got the lambda: I is the maker's, who waits since s -/
theorem pe_actO {CXg : CXT} {Eg : XK} {Ng : List Str} {qg : Str} {sg : Scope} {g f : Addr} {cdg : Value} {params : Arguments} {body : Expr} {scope : Scope} {k i : Nat} {a : Str} {pn : List (Addr × Obj)} {xe : Value → Shared → Prop} {W : WX} {t : XK → TE} {p1 p2 : Pos}
    (I : Inv X pins σ H s) (LG : LamGood X k params body scope t)
    (tk : Takes ((cxOf CXg X.prog X.w X.K X.mg X.base Ng qg sg g cdg X.A X.stack s H Eg).tr pn xe) W) (hr : Room (k + 1) (X.A.deeper (envOfC qg sg s.heap.objs.size g cdg)))
    (hN : Ng[i]? = some a) (hv : Vis sg a) (hd : (a == ("__debug__" : Str)) = false := by decide) (hcd : (a == ("__classdict__" : Str)) = false := by decide) :
    PE ((cxOf CXg X.prog X.w X.K X.mg X.base Ng qg sg g cdg X.A X.stack s H Eg).tr pn xe) (.Call (.Name a p1) [] [] p2)
      (fun σZ HZ Q => σZ[i]? = some (some (.ref f)) ∧ LamAt HZ f (lamD X params body scope) ∧ ∃ E : XK, (∀ cls d H', E cls d H' → W cls d σZ H') ∧ t E σ HZ Q) := by
  refine ⟨fun pinsZ sZ σZ HZ Q IZ h => ?_⟩
  obtain ⟨hs, ⟨c', dV, hf, hc, hdv⟩, E, hW, ht⟩ := h
  refine wpAny_Call_Name_kw (thn ((pe_var (pos := p1) (i := i) hN hv hd hcd).run pinsZ sZ σZ HZ (fun v H1 => v = .ref f ∧ H1 = HZ) IZ ⟨.ref f, hs, rfl, rfl⟩) fun u s1 ⟨v, H1, I1, r1, q1⟩ => ?_)
  obtain ⟨ev, eH⟩ := q1
  subst ev
  rw [eH] at I1
  obtain rfl : u = Value.ref f := r1
  obtain ⟨⟨doc, pm, ctv, of1⟩, _, _⟩ := I1.hok f _ hf
  obtain ⟨⟨oc, vs, tt, hoc, hdc, hvc⟩, _, _⟩ := I1.hok c' _ hc
  refine PySem.W.callWith_F0 ⟨_, _, _, _, of1⟩ ?_
  have un : Un (frs X.stack) [] H HZ s.heap s1.heap := I1.base
  suffices rc : codeAny (model X.prog X.w) (X.A.deeper (envOfC qg sg s.heap.objs.size g cdg)) (.call (.ref f) ⟨[], []⟩) (CR (L2.CX X.prog X.w) (envOfC qg sg s.heap.objs.size g cdg :: X.stack) X.prog X.w HZ s1 Q E) s1 by
    refine wpAny_call (codeAny_mono rc fun r s' hq => ?_)
    cases r with
    | error e => exact tk e s' (XE.of_call I1 (fun cls d H' h => hW cls d H' h) hq)
    | ok fl =>
      cases fl with
      | ret u => exact I1.after hq
      | next => exact False.elim hq
      | brk => exact False.elim hq
      | cont => exact False.elim hq
  cases LG with
  | plain L hdef hbind hbody =>
    obtain ⟨_, rfl⟩ | ⟨nd, _⟩ := hdv
    · refine PySem.W.kla_callFunE hr.depth of1 rfl L.co L.gen rfl ⟨c', oc, vs, tt, rfl, hoc, hdc, hvc⟩ (BindsTo.of_eq (binds := []) (hbind _ _ _ _ _ _) _ _ _ _ ?_)
      refine wpAny_newFunctionEnv (fun y hy => (L.own y hy).2) (fun y hy => absurd hy (by simp)) (fun h₁ hns hsb => ⟨I1.nolimit.fresh _ hsb, ?_⟩) L.kind
      show codeAny _ _ (.expr body (lamEnv X scope s1.heap.objs.size f c')) _ _
      have kp : ∀ b o, s1.heap.get? b = some o → h₁.get? b = some o := fun b o e => hsb.extBut b o (Nat.ne_of_lt (Heap.lt_size e)) (Heap.get?_push_of_some _ e)
      have J : Inv (lamCx X (X.A.deeper (envOfC qg sg s.heap.objs.size g cdg)) (envOfC qg sg s.heap.objs.size g cdg :: X.stack) s1 HZ E scope f c') [] σ HZ { s1 with heap := h₁, toks := s1.toks + ([] : List (Str × Value)).length } :=
        lam_start2 I L I1.env0 hr.hd un hns kp
      refine PySem.W.kla_codeExpr (wpAny_mono ((hbody _ _ s1 HZ E _ _ (hr.deeper _)).run [] _ _ HZ Q J ht) (fun v s' hq => ?_) fun e s' hq => hq)
      obtain ⟨w', H', J', rv, q⟩ := hq
      exact ⟨w', H', J'.os, J'.bare, J'.base, J'.hok, rv, q⟩
    · exact absurd hdef nd
  | @dflt x t' L hxN hdef hbind hbody =>
    obtain ⟨nd, _⟩ | ⟨_, t0, rfl, h0⟩ := hdv
    · exact absurd nd hdef
    · obtain ⟨_, its, rv0, o0, g1, g2, n0, g3⟩ := (show ObjOk X.prog X.w HZ s1.heap t0 (.tup [.int 0]) from I1.hok t0 _ h0)
      obtain ⟨v, rfl, rv⟩ : ∃ v, its = [v] ∧ L2.RelV (.int 0) v := by
        cases rv0 with
        | cons r1 r2 => cases r2; exact ⟨_, rfl, r1⟩
      obtain ⟨kk, hb1, hb2⟩ := hbind (X.env.qual ++ "<lambda>") (cloFrom X.env.cells scope.names []) t0 doc pm (.ref c') ctv
      refine PySem.W.kla_callFunE hr.depth of1 rfl L.co L.gen rfl ⟨c', oc, vs, tt, rfl, hoc, hdc, hvc⟩ (BindsTo.of_defaults (binds := [(x, v)]) rfl g1 g3 hb1 (hb2 v) _ _ _ _ ?_)
      refine wpAny_newFunctionEnv (fun y hy => L.own y hy) (fun y hy => by rw [List.mem_singleton.mp hy]; exact L.hx) (fun h₁ hns hsb => ⟨I1.nolimit.fresh _ hsb, ?_⟩) L.kind
      show codeAny _ _ (.expr body (lamEnv X scope s1.heap.objs.size f c')) _ _
      have kp : ∀ b o, s1.heap.get? b = some o → h₁.get? b = some o := fun b o e => hsb.extBut b o (Nat.ne_of_lt (Heap.lt_size e)) (Heap.get?_push_of_some _ e)
      have J : Inv (lamCx1 X (X.A.deeper (envOfC qg sg s.heap.objs.size g cdg)) (envOfC qg sg s.heap.objs.size g cdg :: X.stack) s1 HZ E scope x f c') [] (σ ++ [some (.int 0)]) HZ { s1 with heap := h₁, toks := s1.toks + ([(x, v)] : List (Str × Value)).length } :=
        lam_start1 I L hxN rv I1.env0 hr.hd un hns kp
      refine PySem.W.kla_codeExpr (wpAny_mono ((hbody _ _ s1 HZ E _ _ (hr.deeper _)).run [] _ _ HZ Q J ht) (fun v s' hq => ?_) fun e s' hq => hq)
      obtain ⟨w', H', J', rv, q⟩ := hq
      exact ⟨w', H', J'.os, J'.bare, J'.base, J'.hok, rv, q⟩
end
/-- a def of one parameter that calls it -/
def GivesTo1 (P : Program) (w : World) (K : PySem.W.Frag) (mg : Str → Option Value) (base : Heap) (k : Nat) (Ng : List Str) (x : Str) (sg : Scope) (g : Addr) (bg : List Stmt) (a : Str) (TT : (XK → Hp → VK → Prop) → Hp → VK → Prop) : Prop :=
  ∀ (cdg : Value) (A : Around) (outer : List Env) (f : Addr) (L : LamD) (s : Shared) (H : Hp) (Q : VK) (tl : XK → Hp → VK → Prop), Room k (A.deeper (envOfC x sg s.heap.objs.size g cdg)) →
    (∀ (W : WX) (pn : List (Addr × Obj)) (xe : Value → Shared → Prop) (p1 p2 : Pos), Takes ((cxOf C8.CX0 P w K mg base Ng x sg g cdg A outer s H C8.E0).tr pn xe) W →
      PE ((cxOf C8.CX0 P w K mg base Ng x sg g cdg A outer s H C8.E0).tr pn xe) (.Call (.Name a p1) [] [] p2) (fun σZ HZ Q => σZ[0]? = some (some (.ref f)) ∧ LamAt HZ f L ∧ ∃ E : XK, (∀ cls d H', E cls d H' → W cls d σZ H') ∧ tl E HZ Q)) →
    LamAt H f L → TT tl H Q →
    ∃ t, PSs (cxOf C8.CX0 P w K mg base Ng x sg g cdg A outer s H C8.E0).nox bg t ∧ t { nx := fun _ H' => Q .non H', rt := Q } (L2.start Ng [.ref f]) H
section
variable {X : Cx}
/-- the call of such a def with a lambda that is kept: told of the very state -/
theorem run_lamO {pins : List (Addr × Obj)} {σ : L2.St} {H : Hp} {s : Shared} {Q : VK} {TT : (XK → Hp → VK → Prop) → Hp → VK → Prop} {x a : Str} {st : Stmt} {g f : Addr} {k : Nat} {fd : FuncData} {Ng : List Str} {params : Arguments} {body : Expr} {scope : Scope} {t : XK → TE}
    (F : Fun X.K x x st g fd) (hb : L2.Binds X.K fd [a] []) (Sg : FnScope Ng [a] (defScope st)) (hNg : Ng[0]? = some a) (hva : Vis (defScope st) a) (hG : GivesTo1 X.prog X.w X.K X.mg X.base (k + 1) Ng x (defScope st) g (defBody st) a TT)
    (LG : LamGood X k params body scope t) (hr : Room (k + 2) X.A) (I : Inv X pins σ H s) (hL : LamAt H f (lamD X params body scope)) (h : TT (fun E H' Q' => t E σ H' Q') H Q)
    (hd : (a == ("__debug__" : Str)) = false := by decide) (hcd : (a == ("__classdict__" : Str)) = false := by decide) :
    codeAny (model X.prog X.w) X.A (.call (.ref g) ⟨[.ref f], []⟩) (CR C8.CX0 X.stack X.prog X.w H s Q C8.E0) s := by
  obtain ⟨oc, od, kV, doc, pm, an, cdv, ct, osl, rfl, lk, hcg⟩ := F.ex
  refine run_ofS (N := Ng) (ps := [a]) (us := [.ref f]) (vs := [.ref f]) lk hcg Sg hr I.env0 (hb s [.ref f] I.kIn rfl) (.cons rfl .nil) rfl fun hr' => ?_
  refine Exists.elim (hG cdv X.A X.stack f _ s H Q (fun E H' Q' => t E σ H' Q') hr' (fun W pn xe p1 p2 tk => ⟨fun pinsZ sZ σZ HZ QZ IZ hz => ?_⟩) hL h) fun t' h' => ⟨t', h'.1.nox, h'.2⟩
  obtain ⟨z1, z2, E, hW, z3⟩ := hz
  exact (pe_actO (i := 0) I LG tk hr' hNg hva hd hcd).run pinsZ sZ σZ HZ QZ IZ ⟨z1, z2, E, hW, z3⟩
/-- x(lambda: body) -/
def tLamG (T : List (Addr × Str)) (TT : (XK → Hp → VK → Prop) → Hp → VK → Prop) (t : XK → TE) : TE := fun σ H Q => Tabs T H ∧ ∀ H1, ExtN H H1 → Tabs T H1 → TT (fun E H' Q' => t E σ H' Q') H1 Q
theorem pe_lamcallG {T : List (Addr × Str)} {TT : (XK → Hp → VK → Prop) → Hp → VK → Prop} {x a : Str} {st : Stmt} {g c P : Addr} {k : Nat} {fd : FuncData} {Ng : List Str} {params : Arguments} {body : Expr} {scope : Scope} {t : XK → TE} {p lpos pos : Pos}
    (F : Fun X.K x x st g fd) (hg : Gl X x) (hm : X.mg x = some (.ref g)) (hk : PySem.W.keepIn X.K (.ref g) = true) (hb : L2.Binds X.K fd [a] []) (Sg : FnScope Ng [a] (defScope st)) (hNg : Ng[0]? = some a) (hva : Vis (defScope st) a)
    (hG : GivesTo1 X.prog X.w X.K X.mg X.base (k + 1) Ng x (defScope st) g (defBody st) a TT)
    (TB : TabB X.base X.mg c P) (hcode : X.env.code = .ref c) (hmT : (P, X.env.qual ++ "<lambda>") ∈ T) (hu : ∀ p ∈ T, p.1 = P → p.2 = X.env.qual ++ "<lambda>") (hr : Room (k + 2) X.A)
    (hfree : ∀ y ∈ scope.names, y.2 = .free → X.env.scope.names.lookup y.1 = some .cell ∨ X.env.scope.names.lookup y.1 = some .free) (hk0 : params.kw_defaults = []) (hdef : params.defaults = [] ∨ ∃ j pc, params.defaults = [.Constant (.int 0) j pc]) (LG : LamGood X k params body scope t)
    (hdb : (x == ("__debug__" : Str)) = false := by decide) (hd : (a == ("__debug__" : Str)) = false := by decide) (hcd : (a == ("__classdict__" : Str)) = false := by decide) :
    PE X (.Call (.Name x p) [.Lambda params body scope lpos] [] pos) (tLamG T TT t) := by
  refine ⟨fun pins s σ H Q I h => ?_⟩
  obtain ⟨hT, h⟩ := h
  refine wpAny_Call_Name_kw (ld_glob I hg hm ?_ hdb)
  refine PySem.W.callWith_K (h₀ := X.base) I.ok.mod.kin hk ?_ (by rfl) (by rfl)
  show wpAny _ _ (spliced ((false, eval (.Lambda params body scope lpos) X.env) :: backTo pos (starEach [] X.env))) _ _ s
  refine Calls.spliced_cons (thn ((pe_lamO (pos := lpos) TB hcode hmT hu hfree hk0 hdef).run pins s σ H (fun v H1 => ∃ f, v = .ref f ∧ ExtN H H1 ∧ Tabs T H1 ∧ LamAt H1 f (lamD X params body scope)) I ⟨hT, fun H1 f e1 T1 _ hL => ⟨f, rfl, e1, T1, hL⟩⟩) fun u s1 ⟨v, H1, I1, r1, f, ev, e1, T1, hL⟩ => ?_)
  subst ev
  obtain rfl : u = Value.ref f := r1
  refine Calls.spliced_nil ⟨I1.kIn, ?_⟩
  refine wpAny_call (codeAny_mono (run_lamO F hb Sg hNg hva hG LG hr I1 hL (h H1 e1 T1) hd hcd) fun r s2 hq => ?_)
  cases r with
  | error e => exact (show False from hq).elim
  | ok fl =>
    cases fl with
    | ret u => exact I1.after hq
    | next => exact False.elim hq
    | brk => exact False.elim hq
    | cont => exact False.elim hq
end
/-- what a callee lets out goes on -/
theorem passY {X : Cx} {E : XK} (hs : X.stack = X.env :: X.outer) (hf : X.env.frame = some X.env.locals) (hex : X.ex = []) {E₁ : Value → Shared → Prop} (hx : X.xe = fun e s' => wpAny (model X.prog X.w) X.A (leaving X.env e) (fun _ s'' => L2.CX X.prog X.w X.outer X.H_0 X.s_0 E e s'') E₁ s') : Passes (L2.CX X.prog X.w) X E :=
  passes_call (takes_of hs hf hex hx) fun _ _ _ _ h => h
/-- isinstance(e, c), e a caught error with a dict of its own -/
def rIsX (K : PySem.W.Frag) (cls : Value) (d : Option Addr) (a : Addr) : List V → Hp → VK → Prop := fun xs H Q => ∃ (D dx : Addr) (fs : List (Str × V)) (c : V) (cv : Value) (b : Bool), cls = .ref D ∧ ExcC K D ∧ d = some dx ∧ H dx = some (.xd fs) ∧ xs = [.ref a, c] ∧ ClsV c cv ∧ PySem.W.kitOne K (.ref D) cv = some b ∧ Q (.bl b) H
theorem call_isX {X : Cx} {a : Addr} {cls : Value} {d : Option Addr} {oe : Obj} {pn : List (Addr × Obj)} (hz : Zc cls d oe) (hf : ∃ vs, oe.data = .fields vs) : CallR (X.suite a ((a, oe) :: pn)) (.builtin "isinstance") (rIsX X.K cls d a) := by
  intro pins s σ H xs us Q I r h
  obtain ⟨D, dx, fs, c, cv, b, rfl, C, rfl, hdx, rfl, hcv, e, q⟩ := h
  cases r with
  | cons rx rr =>
    cases rr with
    | cons rt rr =>
      cases rr
      cases rx
      have ec := hcv.eq rt
      subst ec
      obtain ⟨hget, _⟩ := I.pin (a, oe) (List.mem_append.mpr (.inl List.mem_cons_self))
      obtain ⟨vs, hv⟩ := hf
      obtain ⟨mA, ⟨od, es, ep, ho, _⟩, _⟩ := (show ObjOk X.prog X.w H s.heap dx (.xd fs) from I.hok dx _ hdx)
      have J : PySem.W.InstAt s.heap a oe D (some od) := by
        obtain ⟨oc, ood, oda, osl⟩ := oe
        obtain ⟨h1, h2⟩ := hz
        dsimp only at h1 h2 hv
        subst h1 h2 hv
        exact ⟨hget, rfl, rfl, ho⟩
      have hcl : (PySem.W.clsIn X.K D).isSome = true := by
        obtain ⟨cd, hc, _⟩ := any_some C.hd
        rw [hc]
        rfl
      exact PySem.W.kia_one (PySem.W.kitx_exc hcl C.hg C.hk C.hs C.ha C.hn C.ht C.hm) I.kIn J e (fun z => nomatch z) fun tk => ⟨.bl b, H, I.kept (t' := tk) fun _ _ z => z, rfl, q⟩
end L2

namespace L2
open PySem PySem.Spec PyProof.Rows
/-! ### a def that has defaults -/
structure FunV (K : PySem.W.Frag) (x qual : Str) (st : Stmt) (f : Addr) (fd : FuncData) : Prop where
  ex : ∃ (oc : Value) (od : Option Addr) (dV kV doc pm : Value) (an : Option Addr) (cdv ct : Value) (osl : Array (Option Value)),
    fd = PySem.W.fnOf x qual (defArgs st) (defBody st) (defScope st) dV kV doc pm an cdv ct ∧ K.lookup f = some ⟨oc, od, .func fd, osl⟩ ∧ PySem.W.codeIn K cdv qual = true
section
variable {P : Program} {w : World} {K : PySem.W.Frag} {mg : Str → Option Value} {base : Heap}
theorem FunV.ok {x qual : Str} {st : Stmt} {f : Addr} {fd : FuncData} {N ps : List Str} {k : Nat} {sp : Sp} (F : FunV K x qual st f fd) (S : FnScope N ps (defScope st)) (len : ∀ vs H Q E, sp vs H Q E → vs.length = ps.length)
    (hbody : ∀ (cdv : Value) (A : Around) (outer : List Env) (s : Shared) (H : Hp) (vs : List V) (Q : VK) (E : XK), Room k (A.deeper (envOfC qual (defScope st) s.heap.objs.size f cdv)) → sp vs H Q E →
      ∃ t, PSs (cxOf CX0 P w K mg base N qual (defScope st) f cdv A outer s H E).nox (defBody st) t ∧ t { nx := fun _ H' => Q .non H', rt := Q } (start N vs) H) : FnOk P w K mg base CX0 (k + 1) f fd ps sp := by
  obtain ⟨oc, od, dV, kV, doc, pm, an, cdv, ct, osl, rfl, lk, hcd⟩ := F.ex
  refine fn_of lk hcd S len fun A outer s H vs Q E hr hsp => ?_
  obtain ⟨t, h, q⟩ := hbody cdv A outer s H vs Q E hr hsp
  exact ⟨t, h.nox, q⟩
theorem FunV.okX {x qual : Str} {st : Stmt} {f : Addr} {fd : FuncData} {N ps : List Str} {k : Nat} {sp : Sp} (F : FunV K x qual st f fd) (S : FnScope N ps (defScope st)) (len : ∀ vs H Q E, sp vs H Q E → vs.length = ps.length)
    (hbody : ∀ (cdv : Value) (A : Around) (outer : List Env) (s : Shared) (H : Hp) (vs : List V) (Q : VK) (E : XK), Room k (A.deeper (envOfC qual (defScope st) s.heap.objs.size f cdv)) → sp vs H Q E →
      ∃ t, PSs (cxOf (L2.CX P w) P w K mg base N qual (defScope st) f cdv A outer s H E) (defBody st) t ∧ t { nx := fun _ H' => Q .non H', rt := Q } (start N vs) H) : FnOk P w K mg base (L2.CX P w) (k + 1) f fd ps sp := by
  obtain ⟨oc, od, dV, kV, doc, pm, an, cdv, ct, osl, rfl, lk, hcd⟩ := F.ex
  exact fn_of lk hcd S len fun A outer s H vs Q E hr hsp => hbody cdv A outer s H vs Q E hr hsp
theorem funV_mk {x qual : Str} {st : Stmt} {f : Addr} {oc : Value} {od an : Option Addr} {osl : Array (Option Value)} {dV kV doc pm cdv ct : Value} (l : K.lookup f = some ⟨oc, od, .func (PySem.W.fnOf x qual (defArgs st) (defBody st) (defScope st) dV kV doc pm an cdv ct), osl⟩)
    (c : PySem.W.codeIn K cdv qual = true) : FunV K x qual st f (PySem.W.fnOf x qual (defArgs st) (defBody st) (defScope st) dV kV doc pm an cdv ct) := ⟨oc, od, dV, kV, doc, pm, an, cdv, ct, osl, rfl, l, c⟩
/-- how the arguments bind where the last defaults fill up: dvs the defaults, j of them are written -/
theorem bindsV {x qual : Str} {st : Stmt} {f T : Addr} {oc oT : Value} {od odT an : Option Addr} {osl slT : Array (Option Value)} {kV doc pm cdv ct : Value} {its : List Value} {nT : Nat} {ps : List Str} {dvs : List V}
    (l : K.lookup f = some ⟨oc, od, .func (PySem.W.fnOf x qual (defArgs st) (defBody st) (defScope st) (.ref T) kV doc pm an cdv ct), osl⟩)
    (c : PySem.W.codeIn K cdv qual = true) (kp : PySem.W.keepIn K (.ref f) = true) (lT : K.lookup T = some ⟨oT, odT, .seq its.toArray nT, slT⟩) (rT : Vals dvs its) (n j : Nat) (hd : dvs ≠ []) (hn : n + (dvs.length - j) = ps.length)
    (h : ∀ (T : Addr) (kV doc pm : Value) (an : Option Addr) (cdv ct : Value) (us its : List Value), us.length = n → its.length = dvs.length →
      ∃ k, bindArgs (PySem.W.fnOf x qual (defArgs st) (defBody st) (defScope st) (.ref T) kV doc pm an cdv ct) ⟨us, []⟩ = seqItems? (.ref T) >>= k ∧ k (some its.toArray) = pure (ps.zip (us ++ its.drop j))) :
    ∃ ds, Vals (dvs.drop j) ds ∧ Binds K (PySem.W.fnOf x qual (defArgs st) (defBody st) (defScope st) (.ref T) kV doc pm an cdv ct) ps ds := by
  have F : FunD K x qual (defArgs st) (defBody st) (defScope st) dvs [] f _ := ⟨⟨_, _, _, _, _, _, _, _, _, _, rfl, l, c, .inr ⟨hd, T, _, its, nT, rfl, lT, rfl, rT⟩, .inl rfl⟩, kp⟩
  exact F.binds1 (ps := ps) n j hd hn h
theorem Binds.none {fd : FuncData} {ps : List Str} {ds : List Value} (r : Vals [] ds) (b : Binds K fd ps ds) : Binds K fd ps [] := by
  cases r
  exact b
end
end L2

namespace L2
open PySem PySem.Spec PyProof.Rows
/-! ### least lengths -/
/-- how often a number is halved until it is below 64 -/
def lk (n : Nat) : Nat := n.log2 - 5
/-- whether one of the i lowest figures is 1 -/
def ro (n i : Nat) : Nat := if n % 2 ^ i = 0 then 0 else 1
def lenD (n : Nat) : Nat := n / 2 ^ lk n + ro n (lk n)
theorem lk_small {n : Nat} (h : n < 64) : lk n = 0 := by
  unfold lk
  by_cases e : n = 0
  · rw [e]; decide
  · have : n.log2 < 6 := (Nat.log2_lt e).mpr (by omega)
    omega
theorem lk_end (n : Nat) : n / 2 ^ lk n < 64 := by
  by_cases h : n < 64
  · rw [lk_small h]
    omega
  · have e : n ≠ 0 := by omega
    have h1 : n < 2 ^ (n.log2 + 1) := (Nat.log2_lt e).mp (Nat.lt_succ_self _)
    have h2 : 6 ≤ n.log2 := (Nat.le_log2 e).mpr (by omega)
    rw [Nat.div_lt_iff_lt_mul (Nat.two_pow_pos _)]
    have e2 : n.log2 + 1 = 6 + lk n := by unfold lk; omega
    rw [e2, Nat.pow_add] at h1
    exact h1
theorem lk_before {n i : Nat} (h : i < lk n) : 64 ≤ n / 2 ^ i := by
  have e : n ≠ 0 := fun e => by
    rw [e] at h
    have z : lk 0 = 0 := by decide
    omega
  rw [Nat.le_div_iff_mul_le (Nat.two_pow_pos _)]
  have h1 : 2 ^ n.log2 ≤ n := Nat.log2_self_le e
  have h2 : 6 + i ≤ n.log2 := by unfold lk at h; omega
  calc 64 * 2 ^ i = 2 ^ (6 + i) := by rw [Nat.pow_add]
    _ ≤ 2 ^ n.log2 := Nat.pow_le_pow_right (by decide) h2
    _ ≤ n := h1
theorem lk_low {n : Nat} (h : 64 ≤ n) : 32 ≤ n / 2 ^ lk n := by
  have e : n ≠ 0 := by omega
  rw [Nat.le_div_iff_mul_le (Nat.two_pow_pos _)]
  have h1 : 2 ^ n.log2 ≤ n := Nat.log2_self_le e
  have h2 : 6 ≤ n.log2 := (Nat.le_log2 e).mpr (by omega)
  calc 32 * 2 ^ lk n = 2 ^ (5 + lk n) := by rw [Nat.pow_add]
    _ ≤ 2 ^ n.log2 := Nat.pow_le_pow_right (by decide) (by unfold lk; omega)
    _ ≤ n := h1
theorem ro_le (n i : Nat) : ro n i ≤ 1 := by unfold ro; split <;> decide
theorem ro_zero (n : Nat) : ro n 0 = 0 := by unfold ro; rw [Nat.pow_zero, Nat.mod_one]; rfl
theorem ro_step (n i : Nat) : ro n (i + 1) = if n / 2 ^ i % 2 = 1 then 1 else ro n i := by
  unfold ro
  have h := Nat.mod_pow_succ (b := 2) (k := i) (x := n)
  have h2 : n / 2 ^ i % 2 < 2 := Nat.mod_lt _ (by decide)
  have hp : 0 < 2 ^ i := Nat.two_pow_pos _
  rw [h]
  by_cases e : n / 2 ^ i % 2 = 1
  · rw [if_pos e, e, if_neg (by omega)]
  · rw [if_neg e, show n / 2 ^ i % 2 = 0 by omega, Nat.mul_zero, Nat.add_zero]
theorem lenD_small {n : Nat} (h : n < 64) : lenD n = n := by
  unfold lenD
  rw [lk_small h, ro_zero, Nat.pow_zero, Nat.div_one, Nat.add_zero]
theorem lenD_mid {n : Nat} (h : 64 ≤ n) : 32 ≤ lenD n ∧ lenD n ≤ 64 := by
  have h1 := lk_low h
  have h2 := lk_end n
  have h3 := ro_le n (lk n)
  unfold lenD
  omega
theorem lenD_dbl {n : Nat} (h : 64 ≤ n) : lenD (2 * n) = lenD n := by
  have e : n ≠ 0 := by omega
  have hl : (2 * n).log2 = n.log2 + 1 := by
    have a1 : n < 2 ^ (n.log2 + 1) := (Nat.log2_lt e).mp (Nat.lt_succ_self _)
    have a2 : 2 ^ n.log2 ≤ n := Nat.log2_self_le e
    have b1 : (2 * n).log2 < n.log2 + 2 := (Nat.log2_lt (by omega)).mpr (by rw [Nat.pow_succ]; omega)
    have b2 : n.log2 + 1 ≤ (2 * n).log2 := (Nat.le_log2 (by omega)).mpr (by rw [Nat.pow_succ]; omega)
    omega
  have h2 : 6 ≤ n.log2 := (Nat.le_log2 e).mpr (by omega)
  have hk : lk (2 * n) = lk n + 1 := by unfold lk; omega
  unfold lenD ro
  rw [hk, Nat.pow_succ, Nat.mul_comm (2 ^ lk n) 2, Nat.mul_div_mul_left _ _ (by decide : 0 < 2), Nat.mul_mod_mul_left]
  congr 1
  by_cases z : n % 2 ^ lk n = 0
  · rw [if_pos z, if_pos (by omega)]
  · rw [if_neg z, if_neg (by omega)]
theorem ro_due (n i : Nat) : (if (n : Int) = (n : Int) / 2 ^ i * 2 ^ i then (0 : Int) else 1) = (ro n i : Int) := by
  unfold ro
  have hp : 0 < 2 ^ i := Nat.two_pow_pos _
  have e : ((n : Int) / 2 ^ i * 2 ^ i) = ((n / 2 ^ i * 2 ^ i : Nat) : Int) := by
    rw [Int.natCast_mul, Int.natCast_ediv, Int.natCast_pow]
    rfl
  rw [e]
  have h := Nat.div_add_mod n (2 ^ i)
  rw [Nat.mul_comm] at h
  by_cases z : n % 2 ^ i = 0
  · rw [if_pos z, if_pos (by omega)]
    rfl
  · rw [if_neg z, if_neg (by omega)]
    rfl
/-- whether a value is an int and no bool -/
def IntQ (K : PySem.W.Frag) (H : Hp) (v : V) (b : Bool) : Prop := ∃ t b1 b2, TyX K H v t ∧ PySem.W.kitOne K t (.type "int") = some b1 ∧ PySem.W.kitOne K t (.type "bool") = some b2 ∧ b = (b1 && !b2)
theorem IntQ.int {K : PySem.W.Frag} {H : Hp} (i : Int) : IntQ K H (.int i) true := ⟨_, true, false, .base (.int i), kit_ty (by decide +kernel), kit_ty (by decide +kernel), rfl⟩
theorem IntQ.bl {K : PySem.W.Frag} {H : Hp} (i : Bool) : IntQ K H (.bl i) false := ⟨_, true, true, .base (.bl i), kit_ty (by decide +kernel), kit_ty (by decide +kernel), rfl⟩
theorem IntQ.non {K : PySem.W.Frag} {H : Hp} : IntQ K H .non false := ⟨_, false, false, .base .non, kit_ty (by decide +kernel), kit_ty (by decide +kernel), rfl⟩
theorem IntQ.str {K : PySem.W.Frag} {H : Hp} (x : Str) : IntQ K H (.str x) false := ⟨_, false, false, .base (.str x), kit_ty (by decide +kernel), kit_ty (by decide +kernel), rfl⟩
theorem IntQ.lst {K : PySem.W.Frag} {H : Hp} {a : Addr} {xs : List V} (h : H a = some (.lst xs)) : IntQ K H (.ref a) false := ⟨_, false, false, .base (.lst h), kit_ty (by decide +kernel), kit_ty (by decide +kernel), rfl⟩
theorem IntQ.tup {K : PySem.W.Frag} {H : Hp} {a : Addr} {xs : List V} (h : H a = some (.tup xs)) : IntQ K H (.ref a) false := ⟨_, false, false, .base (.tup h), kit_ty (by decide +kernel), kit_ty (by decide +kernel), rfl⟩
theorem IntQ.dK {K : PySem.W.Frag} {H : Hp} {a : Addr} {xs : List (Key × V)} (h : H a = some (.dK xs)) : IntQ K H (.ref a) false := ⟨_, false, false, .base (.dK h), kit_ty (by decide +kernel), kit_ty (by decide +kernel), rfl⟩
/-- whether a value is an int within bounds -/
def InB (K : PySem.W.Frag) (H : Hp) (v : V) (lo : Int) (m : V) (ok : Bool) : Prop := (IntQ K H v false ∧ ok = false) ∨ (∃ i, v = .int i ∧ ((m = .non ∧ ok = decide (lo ≤ i)) ∨ ∃ hi, m = .int hi ∧ ok = (decide (lo ≤ i) && decide (i ≤ hi))))
theorem InB.yes {K : PySem.W.Frag} {H : Hp} {i lo hi : Int} (h1 : lo ≤ i) (h2 : i ≤ hi) : InB K H (.int i) lo (.int hi) true := .inr ⟨i, rfl, .inr ⟨hi, rfl, by rw [decide_eq_true h1, decide_eq_true h2]; rfl⟩⟩
theorem InB.odd {K : PySem.W.Frag} {H : Hp} {v m : V} {lo : Int} (h : IntQ K H v false) : InB K H v lo m false := .inl ⟨h, rfl⟩
theorem InB.low {K : PySem.W.Frag} {H : Hp} {i lo hi : Int} (h1 : i < lo) : InB K H (.int i) lo (.int hi) false := .inr ⟨i, rfl, .inr ⟨hi, rfl, by rw [decide_eq_false (by omega)]; rfl⟩⟩
theorem InB.high {K : PySem.W.Frag} {H : Hp} {i lo hi : Int} (h1 : hi < i) : InB K H (.int i) lo (.int hi) false := .inr ⟨i, rfl, .inr ⟨hi, rfl, by rw [decide_eq_false (show ¬ i ≤ hi by omega), Bool.and_false]⟩⟩
end L2

/-! values of any kind, and what checks say of them -/
namespace L2
open PySem PySem.Spec PyProof.Rows LamX
/-- a value and its type's name -/
inductive AnyV (H : Hp) : V → String → Prop
  | non : AnyV H .non "NoneType"
  | bl (b : Bool) : AnyV H (.bl b) "bool"
  | int (i : Int) : AnyV H (.int i) "int"
  | str (x : Str) : AnyV H (.str x) "str"
  | lst {p : Addr} {xs : List V} (h : H p = some (.lst xs)) : AnyV H (.ref p) "list"
  | tup {p : Addr} {xs : List V} (h : H p = some (.tup xs)) : AnyV H (.ref p) "tuple"
  | dK {p : Addr} {xs : List (Key × V)} (h : H p = some (.dK xs)) : AnyV H (.ref p) "dict"
theorem AnyV.ext {H H' : Hp} {v : V} {T : String} (e : ExtN H H') (h : AnyV H v T) : AnyV H' v T := by
  cases h with
  | non => exact .non
  | bl b => exact .bl b
  | int i => exact .int i
  | str x => exact .str x
  | lst h => exact .lst (e _ _ h fun ps z => by cases z)
  | tup h => exact .tup (e _ _ h fun ps z => by cases z)
  | dK h => exact .dK (e _ _ h fun ps z => by cases z)
theorem AnyV.same {H H' : Hp} {v : V} {T : String} (e : Same H H') (h : AnyV H v T) : AnyV H' v T := h.ext (.of e)
theorem AnyV.ty {K : PySem.W.Frag} {H : Hp} {v : V} {T : String} (h : AnyV H v T) : TyX K H v (.type T) := by
  cases h with
  | non => exact .base .non
  | bl b => exact .base (.bl b)
  | int i => exact .base (.int i)
  | str x => exact .base (.str x)
  | lst h => exact .base (.lst h)
  | tup h => exact .base (.tup h)
  | dK h => exact .base (.dK h)
/-- is the value a whole number, not a bool -/
def isI : V → Bool
  | .int _ => true
  | _ => false
theorem AnyV.intQ {K : PySem.W.Frag} {H : Hp} {v : V} {T : String} (h : AnyV H v T) : IntQ K H v (isI v) := by
  cases h with
  | non => exact .non
  | bl b => exact .bl b
  | int i => exact .int i
  | str x => exact .str x
  | lst h => exact .lst h
  | tup h => exact .tup h
  | dK h => exact .dK h
/-- .. within bounds -/
def leH : Option Int → Int → Bool
  | none, _ => true
  | some h, i => decide (i ≤ h)
def inR (lo : Int) (hi : Option Int) : V → Bool
  | .int i => decide (lo ≤ i) && leH hi i
  | _ => false
def hiV : Option Int → V
  | none => .non
  | some h => .int h
theorem AnyV.inB {K : PySem.W.Frag} {H : Hp} {v : V} {T : String} (h : AnyV H v T) (lo : Int) (hi : Option Int) : InB K H v lo (hiV hi) (inR lo hi v) := by
  cases h with
  | non => exact .odd .non
  | bl b => exact .odd (.bl b)
  | str x => exact .odd (.str x)
  | lst h => exact .odd (.lst h)
  | tup h => exact .odd (.tup h)
  | dK h => exact .odd (.dK h)
  | int i =>
    refine .inr ⟨i, rfl, ?_⟩
    cases hi with
    | none => exact .inl ⟨rfl, by show (decide (lo ≤ i) && true) = _; rw [Bool.and_true]⟩
    | some z => exact .inr ⟨z, rfl, rfl⟩
theorem inR_int {lo : Int} {hi : Option Int} {v : V} (h : inR lo hi v = true) : ∃ i, v = .int i ∧ lo ≤ i ∧ ∀ z, hi = some z → i ≤ z := by
  cases v with
  | int i =>
    have h : (decide (lo ≤ i) && leH hi i) = true := h
    obtain ⟨h1, h2⟩ := Bool.and_eq_true_iff.mp h
    refine ⟨i, rfl, of_decide_eq_true h1, fun z e => ?_⟩
    subst e
    exact of_decide_eq_true h2
  | _ => cases h
theorem inR_yes {lo hi i : Int} (h1 : lo ≤ i) (h2 : i ≤ hi) : inR lo (some hi) (.int i) = true := by
  show (decide (lo ≤ i) && decide (i ≤ hi)) = true
  rw [decide_eq_true h1, decide_eq_true h2]
  rfl
theorem inR_low {lo i : Int} {hi : Option Int} (h1 : i < lo) : inR lo hi (.int i) = false := by
  show (decide (lo ≤ i) && _) = false
  rw [decide_eq_false (by omega)]
  rfl
theorem inR_high {lo hi i : Int} (h1 : hi < i) : inR lo (some hi) (.int i) = false := by
  show (decide (lo ≤ i) && decide (i ≤ hi)) = false
  rw [show decide (i ≤ hi) = false from decide_eq_false (by omega), Bool.and_false]
/-- an error of the class C is let out, which keeps v under f -/
def Rz (E : XK) (H : Hp) (C : Addr) (f : Str) (v : V) : Prop := ∀ (dx : Addr) (H' : Hp), Same H H' → H dx = none → H' dx = some (.xd [(f, v)]) → E (.ref C) (some dx) H'
theorem Rz.same {E : XK} {H H1 : Hp} {C : Addr} {f : Str} {v : V} (s : Same H H1) (h : Rz E H C f v) : Rz E H1 C f v := fun dx H' s' n e => h dx H' (s.trans s') (by
  cases q : H dx with
  | none => rfl
  | some o => rw [s _ _ q] at n; cases n) e
/-- a list or a tuple -/
def RowAt (H : Hp) (p : Addr) (xs : List V) : Prop := H p = some (.lst xs) ∨ H p = some (.tup xs)
theorem RowAt.ext {H H' : Hp} {p : Addr} {xs : List V} (e : ExtN H H') (h : RowAt H p xs) : RowAt H' p xs := h.imp (fun h => e _ _ h fun ps z => by cases z) fun h => e _ _ h fun ps z => by cases z
theorem RowAt.same {H H' : Hp} {p : Addr} {xs : List V} (e : Same H H') (h : RowAt H p xs) : RowAt H' p xs := h.imp (e _ _) (e _ _)
/-- what is told of a row whose entries a test must let by: the first place that it does not, or -1 -/
inductive RowQ (ok : Hp → V → Bool → Prop) (H : Hp) (v : V) (lo hi : Int) : Option Int → Prop
  | odd {T : String} (h : AnyV H v T) (n1 : T ≠ "list") (n2 : T ≠ "tuple") : RowQ ok H v lo hi (some (-1))
  | len {p : Addr} {xs : List V} (e : v = .ref p) (h : RowAt H p xs) (hl : ¬ (lo ≤ (xs.length : Int) ∧ (xs.length : Int) ≤ hi)) : RowQ ok H v lo hi (some (-1))
  | item {p : Addr} {xs : List V} {i : Nat} {x : V} (e : v = .ref p) (h : RowAt H p xs) (hl : lo ≤ (xs.length : Int) ∧ (xs.length : Int) ≤ hi) (hx : xs[i]? = some x) (bad : ok H x false) (good : ∀ (j : Nat) (y : V), j < i → xs[j]? = some y → ok H y true) : RowQ ok H v lo hi (some (i : Int))
  | fine {p : Addr} {xs : List V} (e : v = .ref p) (h : RowAt H p xs) (hl : lo ≤ (xs.length : Int) ∧ (xs.length : Int) ≤ hi) (good : ∀ (j : Nat) (y : V), xs[j]? = some y → ok H y true) : RowQ ok H v lo hi none
theorem RowQ.ext {ok : Hp → V → Bool → Prop} (st : ∀ {H H' : Hp} {v : V} {b : Bool}, ExtN H H' → ok H v b → ok H' v b) {H H' : Hp} {v : V} {lo hi : Int} {r : Option Int} (e : ExtN H H') (h : RowQ ok H v lo hi r) : RowQ ok H' v lo hi r := by
  cases h with
  | odd h n1 n2 => exact .odd (h.ext e) n1 n2
  | len e1 h hl => exact .len e1 (h.ext e) hl
  | item e1 h hl hx bad good => exact .item e1 (h.ext e) hl hx (st e bad) fun j y hj hy => st e (good j y hj hy)
  | fine e1 h hl good => exact .fine e1 (h.ext e) hl fun j y hy => st e (good j y hy)
theorem RowQ.go {ok : Hp → V → Bool → Prop} {H : Hp} {v : V} {lo hi : Int} {r : Option Int} (h : RowQ ok H v lo hi r) : (∃ T, AnyV H v T ∧ T ≠ "list" ∧ T ≠ "tuple" ∧ r = some (-1)) ∨ (∃ p xs, v = .ref p ∧ RowAt H p xs ∧ ¬ (lo ≤ (xs.length : Int) ∧ (xs.length : Int) ≤ hi) ∧ r = some (-1)) ∨
    ∃ p xs, v = .ref p ∧ RowAt H p xs ∧ (lo ≤ (xs.length : Int) ∧ (xs.length : Int) ≤ hi) ∧ (∀ (j : Nat) (y : V), xs[j]? = some y → (∀ i, r = some i → (j : Int) ≤ i) → (ok H y true ∧ r ≠ some (j : Int)) ∨ (ok H y false ∧ r = some (j : Int))) ∧ ∀ i, r = some i → 0 ≤ i ∧ i < (xs.length : Int) := by
  cases h with
  | odd h n1 n2 => exact .inl ⟨_, h, n1, n2, rfl⟩
  | len e h hl => exact .inr (.inl ⟨_, _, e, h, hl, rfl⟩)
  | @item p xs i x e h hl hx bad good =>
    refine .inr (.inr ⟨p, xs, e, h, hl, fun j y hy up => ?_, fun z hz => ?_⟩)
    · have := up _ rfl
      rcases Nat.lt_or_ge j i with c | c
      · exact .inl ⟨good j y c hy, fun z => by have := Option.some.inj z; omega⟩
      · obtain rfl : j = i := by omega
        rw [hx] at hy
        rw [← Option.some.inj hy]
        exact .inr ⟨bad, rfl⟩
    · obtain rfl := Option.some.inj hz
      have := (List.getElem?_eq_some_iff.mp hx).1
      omega
  | @fine p xs e h hl good => exact .inr (.inr ⟨p, xs, e, h, hl, fun j y hy _ => .inl ⟨good j y hy, fun z => by cases z⟩, fun z hz => by cases hz⟩)
/-- an entry that is a whole number, or is none -/
def okInt (H : Hp) (v : V) (b : Bool) : Prop := ∃ T, AnyV H v T ∧ b = isI v
theorem okInt.ext {H H' : Hp} {v : V} {b : Bool} (e : ExtN H H') (h : okInt H v b) : okInt H' v b := h.imp fun _ h => ⟨h.1.ext e, h.2⟩
abbrev KeysQ := RowQ okInt
theorem keysExt {H H' : Hp} {v : V} {lo hi : Int} {r : Option Int} (e : ExtN H H') (h : KeysQ H v lo hi r) : KeysQ H' v lo hi r := RowQ.ext (ok := okInt) (fun {H1 H2 v b} e h => okInt.ext (H := H1) (H' := H2) (v := v) (b := b) e h) e h
theorem kit_lt {K : PySem.W.Frag} {H : Hp} {v : V} {T : String} (h : AnyV H v T) (n1 : T ≠ "list") (n2 : T ≠ "tuple") : PySem.W.kitAny K (.type T) [.type "list", .type "tuple"] = some false := by
  have go : ∀ T : String, kitB T "list" = some false → kitB T "tuple" = some false → PySem.W.kitAny K (.type T) [.type "list", .type "tuple"] = some false := fun T h1 h2 => kitAny_cons (b := false) (kit_ty h1) (fun _ => kitAny_cons (b := false) (kit_ty h2) (fun _ => kitAny_nil) fun z => nomatch z) fun z => nomatch z
  cases h with
  | non => exact go _ (by decide +kernel) (by decide +kernel)
  | bl b => exact go _ (by decide +kernel) (by decide +kernel)
  | int i => exact go _ (by decide +kernel) (by decide +kernel)
  | str x => exact go _ (by decide +kernel) (by decide +kernel)
  | lst h => exact absurd rfl n1
  | tup h => exact absurd rfl n2
  | dK h => exact go _ (by decide +kernel) (by decide +kernel)
theorem kit_row {K : PySem.W.Frag} {H : Hp} {p : Addr} {xs : List V} (h : RowAt H p xs) : ∃ t, TyX K H (.ref p) t ∧ PySem.W.kitAny K t [.type "list", .type "tuple"] = some true := by
  rcases h with hl | ht
  · exact ⟨_, .base (.lst hl), kitAny_cons (b := true) (kit_ty (by decide +kernel)) (fun z => nomatch z) (fun _ => rfl)⟩
  · exact ⟨_, .base (.tup ht), kitAny_cons (b := false) (kit_ty (by decide +kernel)) (fun _ => kitAny_cons (b := true) (kit_ty (by decide +kernel)) (fun z => nomatch z) (fun _ => rfl)) (fun z => nomatch z)⟩
/-- what two error classes are to each other -/
structure ExS (K : PySem.W.Frag) (C1 C2 : Addr) (b : Bool) : Prop where
  kit : PySem.W.kitOne K (.ref C1) (.ref C2) = some b
  exm : PySem.W.exmOne K (.ref C1) (.ref C2) = some b
theorem exS_mk {K : PySem.W.Frag} {C1 C2 : Addr} {b : Bool} (eB : PySem.W.subIn K (.ref C2) (.type "BaseException") = some true) (t : PySem.W.typeIn K (.ref C2) = some (.type "type")) (hc : PySem.W.isClsIn K C2 = true) (ss : PySem.W.subIn K (.ref C2) (.ref C2) = some true) (s : PySem.W.subIn K (.ref C1) (.ref C2) = some b) : ExS K C1 C2 b := by
  have hc' : (PySem.W.clsIn K C2).isSome = true := hc
  have k1 : PySem.W.kitCls K (.ref C1) (.ref C2) = some b := by
    unfold PySem.W.kitCls
    simp [hc', t, s]
  constructor
  · unfold PySem.W.kitOne
    split
    · rename_i e
      have e : C1 = C2 := Value.ref.inj (beq_iff_eq.mp e)
      rw [e, ss] at s
      exact s
    · exact k1
  · unfold PySem.W.exmOne
    simp [eB, k1]
section
variable {X : Cx} {a : Addr} {cls : Value} {d : Option Addr} {oe : Obj} {pn : List (Addr × Obj)}
/-- e.f of a caught error, its class told in the reading -/
theorem pe_xfA {e : Expr} {te : TE} {pos : Pos} {n : Str} (hz : Zc cls d oe) (hf : ∃ vs, oe.data = .fields vs) (he : PE (X.suite a ((a, oe) :: pn)) e te) (hb : attributeBase e n X.env (eval e X.env) = eval e X.env := by rfl) :
    PE (X.suite a ((a, oe) :: pn)) (.Attribute e n pos) (fun σ H Q => ∃ C, XfC X.K C ∧ PySem.W.findIn X.K (.ref C) n = some none ∧ tXf a cls d C n te σ H Q) :=
  ⟨fun pins s σ H Q I ⟨C, T, hno, h⟩ => (pe_xf T hno hz hf he hb).run pins s σ H Q I h⟩
end
section
variable {P : Program} {w : World} {K : PySem.W.Frag} {mg : Str → Option Value} {base : Heap}
/-- a def whose code object is known, and that errors may leave -/
theorem Fun.okXC {x qual : Str} {st : Stmt} {f c : Addr} {fd : FuncData} {N ps : List Str} {k : Nat} {sp : Sp} (F : Fun K x qual st f fd) (hc : fd.code = .ref c) (S : FnScope N ps (defScope st)) (len : ∀ vs H Q E, sp vs H Q E → vs.length = ps.length)
    (hbody : ∀ (A : Around) (outer : List Env) (s : Shared) (H : Hp) (vs : List V) (Q : VK) (E : XK), Room k (A.deeper (envOfC qual (defScope st) s.heap.objs.size f (.ref c))) → sp vs H Q E →
      ∃ t, PSs (cxOf (L2.CX P w) P w K mg base N qual (defScope st) f (.ref c) A outer s H E) (defBody st) t ∧ t { nx := fun _ H' => Q .non H', rt := Q } (start N vs) H) : FnOk P w K mg base (L2.CX P w) (k + 1) f fd ps sp := by
  obtain ⟨oc, od, kV, doc, pm, an, cdv, ct, osl, rfl, lk, hcd⟩ := F.ex
  have e : cdv = .ref c := hc
  subst e
  exact fn_of lk hcd S len fun A outer s H vs Q E hr hsp => hbody A outer s H vs Q E hr hsp
/-- a def that a slot may hold, and that errors may leave -/
structure HeldX (P : Program) (w : World) (K : PySem.W.Frag) (mg : Str → Option Value) (base : Heap) (k : Nat) (f : Addr) (sp : Sp) : Prop where
  ex : ∃ (fd : FuncData) (ps : List Str), FnOk P w K mg base (L2.CX P w) k f fd ps sp ∧ PySem.W.keepIn K (.ref f) = true ∧ L2.Binds K fd ps []
end
theorem pe_callRX {X : Cx} {E : XK} {k i : Nat} {x : Str} {p pos : Pos} {e : Expr} {es : List Expr} {t : TA} {S : Addr → Sp → Prop} (A : ∀ f sp, S f sp → HeldX X.prog X.w X.K X.mg X.base k f sp) (hr : Room k X.A) (hN : X.N[i]? = some x) (hv : Vis X.env.scope x) (hx : Passes (L2.CX X.prog X.w) X E) (ha : PA X (e :: es) t)
    (hdb : (x == ("__debug__" : Str)) = false := by decide) (hcd : (x == ("__classdict__" : Str)) = false := by decide)
    (he : starEach (e :: es) X.env = (false, eval e X.env) :: starEach es X.env := by rfl) (hpl : (backTo pos (starEach es X.env)).any (·.1) = false := by rfl) :
    PE X (.Call (.Name x p) (e :: es) [] pos) (fun σ H Q => ∃ f sp, σ[i]? = some (some (.ref f)) ∧ S f sp ∧ t σ H fun vs H1 => sp vs H1 Q E) := by
  refine ⟨fun pins s σ H Q I h => ?_⟩
  obtain ⟨f, sp, hs, hS, ht⟩ := h
  obtain ⟨fd, ps, F, hk, hb⟩ := (A f sp hS).ex
  refine (pe_callL (i := i) (f := f) (sp := sp) (dvs := []) (E := E) F hr hN hv hk hb .nil hx ha hdb hcd he hpl).run pins s σ H Q I ⟨hs, ?_⟩
  have e0 : (fun (vs : List V) (H1 : Hp) => sp (vs ++ []) H1 Q E) = fun vs H1 => sp vs H1 Q E := by
    funext vs H1
    rw [List.append_nil]
  show t σ H (fun vs H1 => sp (vs ++ []) H1 Q E)
  rw [e0]
  exact ht
/-- the lambda's captured names are the maker's -/
def freeB (sc scope : Scope) : Bool := scope.names.all fun y => !decide (y.2 = .free) || decide (sc.names.lookup y.1 = some .cell) || decide (sc.names.lookup y.1 = some .free)
theorem free_by {sc scope : Scope} (h : freeB sc scope = true) : ∀ y ∈ scope.names, y.2 = .free → sc.names.lookup y.1 = some .cell ∨ sc.names.lookup y.1 = some .free := fun y hy e => by
  unfold freeB at h
  have := List.all_eq_true.mp h y hy
  simp only [Bool.or_eq_true, Bool.not_eq_true', decide_eq_true_eq, decide_eq_false_iff_not] at this
  rcases this with (z | z) | z
  · exact absurd e z
  · exact .inl z
  · exact .inr z
end L2

/-! defs that are called where nothing is being shown: repr of lists and tuples -/
namespace L2
open PySem PySem.Spec PyProof.Rows
/-- a promise that is kept where no repr is under way -/
structure FnG (P : Program) (w : World) (K : PySem.W.Frag) (mg : Str → Option Value) (base : Heap) (CX : CXT) (k : Nat) (f : Addr) (fd : FuncData) (ps : List Str) (sp : Sp) : Prop where
  ln : ∀ vs H Q E, sp vs H Q E → vs.length = ps.length
  go : ∀ {A : Around} {outer : List Env} {s : Shared} {H : Hp} {ar : Args} {us : List Value} {vs : List V} {Q : VK} {E : XK}, A.guards = some [] → Room k A → Env0 P w K mg base A outer s H → BindsTo s fd ar (ps.zip us) → Vals vs us → sp vs H Q E →
    codeAny (model P w) A (.call (.ref f) ar) (CR CX outer P w H s Q E) s
theorem FnG.of {P : Program} {w : World} {K : PySem.W.Frag} {mg : Str → Option Value} {base : Heap} {CX : CXT} {k : Nat} {f : Addr} {fd : FuncData} {ps : List Str} {sp : Sp} (F : FnOk P w K mg base CX k f fd ps sp) : FnG P w K mg base CX k f fd ps sp :=
  ⟨F.len, fun _ r e b v h => F.run _ _ _ _ _ _ _ _ _ r e b v h⟩
section
variable {P : Program} {w : World} {K : PySem.W.Frag} {mg : Str → Option Value} {base : Heap} {CX : CXT} {k : Nat} {f : Addr} {N ps : List Str} {sp : Sp}
theorem fnG_body {x qual : Str} {dfs : Arguments} {bd : List Stmt} {sc : Scope} {dV kV doc pm cdv ct oc : Value} {an od : Option Addr} {osl : Array (Option Value)}
    (at_ : K.lookup f = some ⟨oc, od, .func (PySem.W.fnOf x qual dfs bd sc dV kV doc pm an cdv ct), osl⟩) (cd : PySem.W.codeIn K cdv qual = true) (S : FnScope N ps sc) (ln : ∀ vs H Q E, sp vs H Q E → vs.length = ps.length)
    (bdy : ∀ (A : Around) (outer : List Env) (s : Shared) (H : Hp) (vs : List V) (Q : VK) (E : XK), A.guards = some [] → Room k (A.deeper (envOfC qual sc s.heap.objs.size f cdv)) → sp vs H Q E →
      ∃ t, PSs (cxOf CX P w K mg base N qual sc f cdv A outer s H E) bd t ∧ t { nx := fun _ H' => Q .non H', rt := Q } (L2.start N vs) H) :
    FnG P w K mg base CX (k + 1) f (PySem.W.fnOf x qual dfs bd sc dV kV doc pm an cdv ct) ps sp := by
  refine ⟨ln, fun {A outer s H ar us vs Q E} gd room ev bt vv hs => ?_⟩
  have keepB : ∀ b o, base.get? b = some o → s.heap.get? b = some o := fun b o e => (ev.bs b o e).1
  have inK := ev.mod.kin.keeps keepB
  have free := ev.mod.nolimit.keeps keepB
  have kinds : ∀ y ∈ ps.zip us, sc.names.lookup y.1 = some .local ∨ (sc.names.lookup y.1 = some .cell ∧ ((cellsFrom (s.heap.objs.size + 1) sc.names []).lookup y.1).isSome = true) := by
    rintro ⟨n, v⟩ m
    exact (S.par n (List.of_mem_zip m).1).imp id fun q => ⟨q, PySem.W.cellsFrom_some _ _ _ (.inl q)⟩
  refine codeAny_call_function room.depth (inK _ _ at_) rfl S.co S.gen rfl (PySem.W.codeRec_of inK cd) (bt _ _ _ _ (wpAny_newFunctionEnv_cells S.kind kinds fun env ee s1 xx => ?_))
  cases ee
  refine ⟨free.keeps xx.toInCall.keep, codeAny_func ?_⟩
  obtain ⟨t, run, want⟩ := bdy A outer s H vs Q E gd (room.deeper _) hs
  have inv0 := inv_start (CX := CX) (E := E) S room.hd ev (ln _ _ _ _ hs) vv xx
  have done : ∀ {σ' : L2.St} {H' : Hp} {v : V} {u : Value} {s' : Shared}, Inv (cxOf CX P w K mg base N qual sc f cdv A outer s H E) [] σ' H' s' → L2.RelV v u → Q v H' → CE outer P w H s Q u s' := fun J rv q => ⟨_, _, J.os, J.bare, J.base, J.hok, rv, q⟩
  refine wpAny_mono (run.run [] s1 (L2.start N vs) H _ inv0 want) (fun fl s' res => ?_) fun _ _ z => z
  match fl, res with
  | .ret u, ⟨v, σ', H', J, rv, q⟩ => exact done J rv q
  | .next, ⟨σ', H', J, q⟩ => exact done (v := .non) (u := .none) J rfl q
  | .brk, ⟨_, _, _, q⟩ => exact q.elim
  | .cont, ⟨_, _, _, q⟩ => exact q.elim
theorem Fun.okG {x qual : Str} {st : Stmt} {fd : FuncData} (F : Fun K x qual st f fd) (S : FnScope N ps (defScope st)) (ln : ∀ vs H Q E, sp vs H Q E → vs.length = ps.length)
    (bdy : ∀ (cdv : Value) (A : Around) (outer : List Env) (s : Shared) (H : Hp) (vs : List V) (Q : VK) (E : XK), A.guards = some [] → Room k (A.deeper (envOfC qual (defScope st) s.heap.objs.size f cdv)) → sp vs H Q E →
      ∃ t, PSs (cxOf CX0 P w K mg base N qual (defScope st) f cdv A outer s H E).nox (defBody st) t ∧ t { nx := fun _ H' => Q .non H', rt := Q } (L2.start N vs) H) : FnG P w K mg base CX0 (k + 1) f fd ps sp := by
  obtain ⟨oc, od, kV, doc, pm, an, cdv, ct, osl, rfl, at_, cd⟩ := F.ex
  refine fnG_body at_ cd S ln fun A outer s H vs Q E gd room hs => ?_
  obtain ⟨t, h1, h2⟩ := bdy cdv A outer s H vs Q E gd room hs
  exact ⟨t, h1.nox, h2⟩
end
section
variable {X : Cx} {CX : CXT} {k : Nat} {f : Addr} {fd : FuncData} {ps : List Str} {sp : Sp} {E : XK} {dvs : List V} {ds : List Value}
theorem run_fnG {pins : List (Addr × Obj)} {σ : L2.St} {H : Hp} {s : Shared} {Q : VK} {us : List Value} {vs : List V} (F : FnG X.prog X.w X.K X.mg X.base CX k f fd ps sp) (gd : X.A.guards = some []) (room : Room k X.A) (bb : Binds X.K fd ps ds) (dd : Vals dvs ds)
    (px : Passes CX X E) (I : Inv X pins σ H s) (vv : Vals vs us) (hs : sp (vs ++ dvs) H Q E) : wpAny (model X.prog X.w) X.A (call (.ref f) us) (EP X pins σ Q) X.xe s := by
  have all := vv.append dd
  have same : (us ++ ds).length = ps.length := all.length.symm.trans (F.ln _ _ _ _ hs)
  refine wpAny_call (codeAny_mono (F.go (outer := X.stack) gd room I.env0 (bb s us I.kIn same) all hs) fun r s' res => ?_)
  match r, res with
  | .error e, res => exact px pins σ H s e s' I res
  | .ok (.ret u), res => exact I.after res
  | .ok .next, res => exact (show False from res).elim
  | .ok .brk, res => exact (show False from res).elim
  | .ok .cont, res => exact (show False from res).elim
theorem pe_callG {x : Str} {p pos : Pos} {e : Expr} {es : List Expr} {t : TA} (F : FnG X.prog X.w X.K X.mg X.base CX k f fd ps sp) (gd : X.A.guards = some []) (room : Room k X.A) (gl : Gl X x) (at_ : X.mg x = some (.ref f)) (kp : PySem.W.keepIn X.K (.ref f) = true)
    (bb : Binds X.K fd ps ds) (dd : Vals dvs ds) (px : Passes CX X E) (ha : PA X (e :: es) t) (nd : (x == ("__debug__" : Str)) = false := by decide) (h1 : starEach (e :: es) X.env = (false, eval e X.env) :: starEach es X.env := by rfl)
    (h2 : (backTo pos (starEach es X.env)).any (·.1) = false := by rfl) : PE X (.Call (.Name x p) (e :: es) [] pos) (tCall sp dvs E t) :=
  ⟨fun pins s σ H Q I h => wpAny_Call_Name_kw (ld_glob I gl at_ (PySem.W.callWith_K (h₀ := X.base) I.ok.mod.kin kp (thn (ha.run pos pins s σ H _ I h) fun us s1 ⟨vs, H1, I1, r, q⟩ => ⟨I1.kIn, run_fnG F gd room bb dd px I1 r q⟩) h1 h2) nd)⟩
/-- repr of an object that is data -/
def rReprD (K : PySem.W.Frag) : List V → Hp → VK → Prop := fun vs H Q => ∃ (p : Addr) (d : PyData), vs = [.ref p] ∧ Dp K H (.ref p) d ∧ d.showable = true ∧ d.hasDict = false ∧ d.depth ≤ 64 ∧ d.shown.length ≤ sizeLine ∧ Q (.str d.shown) H
theorem call_reprD (gd : X.A.guards = some []) (hu : X.A.units + 65 < cLine) : CallR X (.builtin "repr") (rReprD X.K) := by
  intro pins s σ H xs us Q I r h
  obtain ⟨p, d, rfl, hd, h1, h2, h3, h4, q⟩ := h
  obtain ⟨u, rfl, r1⟩ := vals1 r
  obtain ⟨as, rd⟩ := Dp.reads I d _ u hd r1
  cases r1
  refine repr_of_reads' rd h1 (fun z => by rw [h2] at z; cases z) gd (by omega) (fun _ _ e => e) (fun h' u tk keep => ⟨.str _, H, I.kept keep, ⟨_, rfl⟩, q⟩) h4
end
end L2
namespace L2
open PySem PySem.Spec PyProof.Rows
/-- the call of the law: the promise of a def that may show lists -/
theorem callG {P : Program} {w : World} {K : PySem.W.Frag} {mg mb : Str → Option Value} {CX : CXT} {k : Nat} {fa a : Addr} {fd : FuncData} {x : Str} {sp : Sp} {s1 : Shared} {us : List Value} {ns : List Int}
    (inK : K.In s1.heap) (top : s1.heap.Ns mainGlobals mg) (blt : s1.heap.Ns builtinsNs mb) (boot : ∀ y : Str, y ≠ "__name__" → mb y = bootBuiltins y) (free : s1.heap.NoLimit) (gen0 : s1.gens = #[])
    (scr : s1.heap.get? a = some { cls := .type "list", data := .seq us.toArray }) (isI : IntsAre us ns) (small : ns.length ≤ sizeLine) (room : Room k callerA)
    (F : ∀ base : Heap, K.In base → base.Ns mainGlobals mg → FnG P w K mg base CX k fa fd [x] sp) (bt : ∀ (s : Shared) (u : Value), BindsTo s fd ⟨[u], []⟩ [(x, u)])
    (want : ∀ H : Hp, Only H → SqL K H a (ns.map V.int) → sp [.ref a] H (fun v _ => v = .bl true) fun _ _ _ => False) (noX : ∀ H e s', CX [] H s1 (fun _ _ _ => False) e s' → False) :
    codeAny (model P w) callerA (.call (.ref fa) ⟨[.ref a], []⟩) (fun r s' => r = .ok (.ret (.bool true)) ∧ OldK s1.heap s'.heap ∧ s'.os = s1.os ∧ AllBare s'.gens) s1 := by
  have vv := vals_ints isI
  have lu := isI.length
  have main : ∀ H : Hp, Only H → SqL K H a (ns.map V.int) → HOk P w H s1.heap → (∀ b, H b ≠ none → b = a) → (H a ≠ none → K.lookup a = none) →
      codeAny (model P w) callerA (.call (.ref fa) ⟨[.ref a], []⟩) (fun r s' => r = .ok (.ret (.bool true)) ∧ OldK s1.heap s'.heap ∧ s'.os = s1.os ∧ AllBare s'.gens) s1 := by
    intro H only sq ok one out
    have hid : ∀ {b : Addr} {o : Obj}, s1.heap.get? b = some o → H b = none → (hidT s1.heap H).get? b = some o := fun e n => hidT_get e n
    have hidN : ∀ {b : Addr} {m : Str → Option Value}, s1.heap.Ns b m → (hidT s1.heap H).Ns b m := by
      rintro b m ⟨o, es, ep, e, d, r⟩
      refine ⟨o, es, ep, hid e ?_, d, r⟩
      match q : H b with
      | none => rfl
      | some u =>
        obtain rfl := one b (by rw [q]; exact Option.some_ne_none _)
        rw [scr] at e
        cases e
        exact absurd (show Data.seq us.toArray _ = Data.dict es ep from d) Data.noConfusion
    have kin : K.In (hidT s1.heap H) := fun b o e => hid (inK b o e) (by
      match q : H b with
      | none => rfl
      | some u =>
        obtain rfl := one b (by rw [q]; exact Option.some_ne_none _)
        rw [out (by rw [q]; exact Option.some_ne_none _)] at e
        cases e)
    obtain ⟨mc, f1, f2⟩ := free
    have ev : Env0 P w K mg (hidT s1.heap H) callerA [] s1 H := ⟨rfl, ⟨kin, hidN top, ⟨mb, hidN blt, boot⟩, ⟨mc, hidN f1, f2⟩⟩, fun b o e => of_hidT e, Nat.le_of_eq (hidT_size _ _), trivial, fun b hb => absurd (show b ∈ ([] : List Addr) from hb) List.not_mem_nil, ok, .of_eq gen0⟩
    refine codeAny_mono ((F _ kin (hidN top)).go (us := [.ref a]) (vs := [.ref a]) rfl room ev (bt s1 (.ref a)) (.cons rfl .nil) (want H only sq)) fun r s' res => ?_
    match r, res with
    | .error e, res => exact (noX H e s' res).elim
    | .ok .next, res => exact (show False from res).elim
    | .ok .brk, res => exact (show False from res).elim
    | .ok .cont, res => exact (show False from res).elim
    | .ok (.ret u), ⟨v, H', os, bare, un, ok', rv, q⟩ =>
      obtain rfl : v = .bl true := q
      obtain rfl : u = Value.bool true := rv
      refine ⟨rfl, OldK.of_keep fun b o e => ?_, os, bare⟩
      match q : H b with
      | none => exact un.keep b o e q (fun z => absurd (show b ∈ ([] : List Addr) from z) List.not_mem_nil) List.not_mem_nil
      | some u =>
        rcases only b with z | ⟨ob, xs, z⟩
        · rw [q] at z
          cases z
        · have e1 := (ok b _ z).1
          have e2 := (ok' b _ (un.frzs b ob _ z)).1
          rw [e] at e1
          cases e1
          exact e2
  match own : K.lookup a with
  | some o =>
    have e := inK a o own
    rw [scr] at e
    cases e
    exact main (fun _ => none) (fun _ => .inl rfl) (.inr ⟨_, us.toArray, _, own, rfl, rfl, rfl, by rw [List.size_toArray, lu]; exact small, by simpa using vv⟩) (fun b u z => nomatch (show (none : Option HO) = some u from z)) (fun b z => absurd rfl z) fun z => absurd rfl z
  | none =>
    refine main (fun b => if b = a then some (.frz { cls := .type "list", data := .seq us.toArray } (.lst (ns.map V.int))) else none) (fun b => ?_) (.inl (.inr ⟨{ cls := .type "list", data := .seq us.toArray }, if_pos rfl⟩)) (fun b u z => ?_) (fun b z => ?_) fun _ => own
    all_goals by_cases same : b = a
    · exact .inr ⟨_, _, if_pos same⟩
    · exact .inl (if_neg same)
    · have z2 := (if_pos same).symm.trans z
      cases z2
      subst same
      exact ⟨scr, by rw [List.length_map]; exact small, us, _, vv, scr⟩
    · have z2 := (if_neg same).symm.trans z
      cases z2
    · exact same
    · exact absurd (if_neg same) z
theorem walkG {l : PySem.W.OpenLaw} {n k : Nat} {q : Program} {loose : List Str} {XP : (Str → Option Value) → Heap → Prop} {YP : World → Heap → Prop} {d : DefRec} {K : Params → PySem.W.Frag} {CX : World → CXT} {sp : World → Sp} {x : Str}
    (most : l.most = some n) (small : n ≤ sizeLine) (nodef : d.params.defaults = []) (room : Room k callerA) (inK : ∀ (w : World) (h : Heap), YP w h → (K w.params).In h)
    (F : ∀ (w : World) (mg : Str → Option Value) (fa : Addr) (h : Heap), (K w.params).In h → h.Ns mainGlobals mg → mg d.name = some (.ref fa) → ∃ fd : FuncData, (∀ (s : Shared) (u : Value), BindsTo s fd ⟨[u], []⟩ [(x, u)]) ∧
      ∀ base : Heap, (K w.params).In base → base.Ns mainGlobals mg → FnG l.prog w (K w.params) mg base (CX w) k fa fd [x] (sp w))
    (want : ∀ (w : World) (H : Hp) (a : Addr) (ns : List Int), ns.length ≤ n → Only H → SqL (K w.params) H a (ns.map V.int) → sp w [.ref a] H (fun v _ => v = .bl true) fun _ _ _ => False)
    (noX : ∀ (w : World) (H : Hp) (s : Shared) (e : Value) (s' : Shared), CX w [] H s (fun _ _ _ => False) e s' → False) : PySem.W.WalkO q loose XP YP l.row.toRowW d [] (fun f vs => PySem.call f vs) := by
  refine Att.attach_call most nodef fun w s0 s1 mg mb fa o pm cd doc a vs ns G Y h1 h2 h3 at_ scr isI len gen0 => ?_
  obtain ⟨fd, bt, keep⟩ := F w mg fa _ (inK w _ Y) G.T.g at_
  exact callG (inK w _ Y) G.T.g G.T.b G.T.builtins G.T.nolimit gen0 scr isI (Nat.le_trans len small) room keep bt (fun H only sq => want w H a ns len only sq) fun H e s' => noX w H s1 e s'
end L2

/-! data in lists, what it shows -/
namespace L2
open PySem PySem.Spec PyProof.Rows
theorem dpAll_of {α : Type} {K : PySem.W.Frag} {H : Hp} (f : α → PyData) : ∀ {ts : List V} {as : List α}, ts.length = as.length → (∀ (i : Nat) (v : V) (a : α), ts[i]? = some v → as[i]? = some a → Dp K H v (f a)) → DpAll K H ts (as.map f)
  | [], [], _, _ => .nil
  | [], _ :: _, h, _ => by cases h
  | _ :: _, [], h, _ => by cases h
  | v :: ts, a :: as, hl, h => .cons (h 0 v a rfl rfl) (dpAll_of f (by simpa using hl) fun i v' a' h1 h2 => h (i + 1) v' a' h1 h2)
theorem canLay_of {α : Type} (f : α → PyData) (h : ∀ a, PyData.canLay0 (f a) = true) : ∀ (as : List α), PyData.canLayAll0 (as.map f) = true
  | [] => rfl
  | a :: as => by
    show (PyData.canLay0 (f a) && PyData.canLayAll0 (as.map f)) = true
    rw [h, canLay_of f h as]
    rfl
theorem depth_of {α : Type} (f : α → PyData) {n : Nat} (h : ∀ a, PyData.depth (f a) ≤ n) : ∀ (as : List α), PyData.depthAll (as.map f) ≤ n
  | [] => Nat.zero_le _
  | a :: as => Nat.max_le.mpr ⟨h a, depth_of f h as⟩
theorem shaped_of {d : PyData} (h1 : PyData.canLay0 d = true) (h2 : PyData.depth d ≤ 64) : SeqAt.shaped d = true := by
  unfold SeqAt.shaped
  exact Bool.and_eq_true_iff.mpr ⟨h1, decide_eq_true h2⟩
theorem eqv_same {d : PyData} (h : SeqAt.shaped d = true) : PyData.eqv d d = true := SeqAt.eqv_refl _ (SeqAt.canLay_of_shaped h)
/-! ints, shown -/
theorem showable_ints : ∀ (ns : List Int), (∀ n ∈ ns, n.natAbs.log2 < 1920) → PyData.showableAll (ns.map PyData.int) = true
  | [], _ => rfl
  | n :: ns, h => by
    show (decide (n.natAbs.log2 < 1920) && PyData.showableAll (ns.map PyData.int)) = true
    rw [decide_eq_true (h n (List.mem_cons_self ..)), showable_ints ns fun m hm => h m (List.mem_cons_of_mem _ hm)]
    rfl
theorem noDict_ints : ∀ (ns : List Int), PyData.hasDictAll (ns.map PyData.int) = false
  | [] => rfl
  | n :: ns => by
    show (false || PyData.hasDictAll (ns.map PyData.int)) = false
    rw [noDict_ints ns]
    rfl
theorem shown_ints_len : ∀ (ns : List Int), (∀ n ∈ ns, n.natAbs.log2 < 1920) → ((PyData.shownAll (ns.map PyData.int)).map (·.length)).sum ≤ 1921 * ns.length ∧ (PyData.shownAll (ns.map PyData.int)).length = ns.length
  | [], _ => ⟨Nat.le_refl _, rfl⟩
  | n :: ns, h => by
    obtain ⟨a1, a2⟩ := shown_ints_len ns fun m hm => h m (List.mem_cons_of_mem _ hm)
    have b : (PyData.shown (.int n)).length ≤ 1921 := int_text_len_1921 (h n (List.mem_cons_self ..))
    constructor
    · show (PyData.shown (.int n)).length + ((PyData.shownAll (ns.map PyData.int)).map (·.length)).sum ≤ 1921 * (ns.length + 1)
      omega
    · show (PyData.shownAll (ns.map PyData.int)).length + 1 = ns.length + 1
      rw [a2]
theorem show_ints {ns : List Int} (hl : ns.length ≤ 8000) (h : ∀ n ∈ ns, n.natAbs.log2 < 1920) : (PyData.list (ns.map PyData.int)).showable = true ∧ (PyData.list (ns.map PyData.int)).hasDict = false ∧ (PyData.list (ns.map PyData.int)).depth ≤ 64 ∧ (PyData.list (ns.map PyData.int)).shown.length ≤ sizeLine := by
  obtain ⟨a1, a2⟩ := shown_ints_len ns h
  refine ⟨showable_ints ns h, noDict_ints ns, ?_, ?_⟩
  · show PyData.depthAll (ns.map PyData.int) + 1 ≤ 64
    rw [depth_ints]
    decide
  · show (listText (PyData.shownAll (ns.map PyData.int))).length ≤ sizeLine
    refine Nat.le_trans (listText_len_le _) (Nat.le_trans ?_ (by decide : 15400003 ≤ sizeLine))
    rw [a2]
    omega
end L2

/-! pairs of a word and a value, in lists -/
namespace L2
open PySem PySem.Spec PyProof.Rows LamX
abbrev pdW (w : Str) (x : PyData) : PyData := .tuple [.str w, x]
/-- a value that is its own data -/
inductive Lone : V → PyData → Prop
  | non : Lone .non .none
  | bl (b : Bool) : Lone (.bl b) (.bool b)
  | int (i : Int) : Lone (.int i) (.int i)
  | str (x : Str) (h : PyData.canLay0 (.str x) = true) : Lone (.str x) (.str x)
theorem Lone.dp {K : PySem.W.Frag} {H : Hp} {v : V} {x : PyData} (h : Lone v x) : Dp K H v x := by
  cases h with
  | non => exact .non
  | bl b => exact .bl b
  | int i => exact .int i
  | str z _ => exact .str z
theorem Lone.canLay {v : V} {x : PyData} (h : Lone v x) : x.canLay0 = true := by
  cases h with
  | str z h => exact h
  | _ => rfl
theorem Lone.depth {v : V} {x : PyData} (h : Lone v x) : x.depth = 0 := by
  cases h <;> rfl
theorem dp_word {K : PySem.W.Frag} {H : Hp} {t : Addr} {w : Str} {v : V} {x : PyData} (h : H t = some (.tup [.str w, v])) (hv : Lone v x) : Dp K H (.ref t) (pdW w x) := .tup (L2.st_of h) (.cons (.str w) (.cons hv.dp .nil))
theorem dpAll_rep {K : PySem.W.Frag} {H : Hp} {d : PyData} : ∀ {rs : List V}, (∀ r ∈ rs, Dp K H r d) → DpAll K H rs (List.replicate rs.length d)
  | [], _ => .nil
  | r :: rs, h => .cons (h r List.mem_cons_self) (dpAll_rep fun z hz => h z (List.mem_cons_of_mem _ hz))
theorem dp_said {K : PySem.W.Frag} {H : Hp} {D : Addr} {rs : List V} {n : Nat} {w : Str} {v : V} {x : PyData} (hD : H D = some (.lst rs)) (hl : rs.length = n) (hr : ∀ r ∈ rs, ∃ t, r = .ref t ∧ H t = some (.tup [.str w, v])) (hv : Lone v x) : Dp K H (.ref D) (.list (List.replicate n (pdW w x))) := by
  subst hl
  exact .lst (L2.sq_of hD) (dpAll_rep fun r h => by
    obtain ⟨t, rfl, ht⟩ := hr r h
    exact dp_word ht hv)
theorem canLay_rep {d : PyData} (h : d.canLay0 = true) : ∀ n, PyData.canLayAll0 (List.replicate n d) = true
  | 0 => rfl
  | n + 1 => by
    show (d.canLay0 && PyData.canLayAll0 (List.replicate n d)) = true
    rw [h, canLay_rep h n]
    rfl
theorem depth_rep {d : PyData} {m : Nat} (h : d.depth ≤ m) : ∀ n, PyData.depthAll (List.replicate n d) ≤ m
  | 0 => Nat.zero_le _
  | n + 1 => Nat.max_le.mpr ⟨h, depth_rep h n⟩
theorem canLay_word {w : Str} {v : V} {x : PyData} (hw : PyData.canLay0 (.str w) = true) (hv : Lone v x) : (pdW w x).canLay0 = true := by
  show (PyData.canLay0 (.str w) && (PyData.canLay0 x && true)) = true
  rw [hw, hv.canLay]
  rfl
theorem depth_word {w : Str} {v : V} {x : PyData} (hv : Lone v x) : (pdW w x).depth ≤ 2 := by
  show max 0 (max x.depth 0) + 1 ≤ 2
  rw [hv.depth]
  decide
theorem shaped_word {w : Str} {v : V} {x : PyData} (hw : PyData.canLay0 (.str w) = true) (hv : Lone v x) : SeqAt.shaped (pdW w x) = true := shaped_of (canLay_word hw hv) (Nat.le_trans (depth_word hv) (by decide))
theorem shaped_said {w : Str} {v : V} {x : PyData} (hw : PyData.canLay0 (.str w) = true) (hv : Lone v x) (n : Nat) : SeqAt.shaped (.list (List.replicate n (pdW w x))) = true := by
  refine shaped_of (canLay_rep (canLay_word hw hv) n) ?_
  have := depth_rep (d := pdW w x) (m := 2) (depth_word hv) n
  show PyData.depthAll _ + 1 ≤ 64
  omega
theorem flat_one {v : V} : ∀ n : Nat, (List.replicate n [v]).flatten = List.replicate n v
  | 0 => rfl
  | n + 1 => by
    rw [List.replicate_succ, List.flatten_cons, flat_one n]
    rfl
/-- the other side: n times one pair -/
theorem dp_saidR {K : PySem.W.Frag} {H : Hp} {D t : Addr} {n : Nat} {w : Str} {v : V} {x : PyData} (hD : H D = some (.lst (List.replicate n [V.ref t]).flatten)) (ht : H t = some (.tup [.str w, v])) (hv : Lone v x) : Dp K H (.ref D) (.list (List.replicate n (pdW w x))) := by
  rw [flat_one] at hD
  exact dp_said hD List.length_replicate (fun r hr => ⟨t, List.eq_of_mem_replicate hr, ht⟩) hv
theorem ne_said {w : Str} {v : V} {x : PyData} (hw : PyData.canLay0 (.str w) = true) (hv : Lone v x) (n : Nat) : V.bl (!PyData.eqv (.list (List.replicate n (pdW w x))) (.list (List.replicate n (pdW w x)))) = V.bl false := by
  rw [eqv_same (shaped_said hw hv n)]
  rfl
theorem ne_word {w : Str} {v : V} {x : PyData} (hw : PyData.canLay0 (.str w) = true) (hv : Lone v x) : V.bl (!PyData.eqv (pdW w x) (pdW w x)) = V.bl false := by
  rw [eqv_same (shaped_word hw hv)]
  rfl
end L2
namespace L2
open PySem PySem.Spec PyProof.Rows LamX
theorem take_int {ns : List Int} {at_ j : Nat} {odd : V} {rest : List V} {y : V} (ha : at_ ≤ ns.length) (hj : j < at_) (hy : ((ns.map V.int).take at_ ++ odd :: rest)[j]? = some y) : ∃ z, y = .int z := by
  rw [List.getElem?_append_left (by rw [List.length_take, List.length_map]; omega), List.getElem?_take_of_lt hj, List.getElem?_map] at hy
  cases e : ns[j]? with
  | none => rw [e] at hy; cases hy
  | some z => rw [e] at hy; exact ⟨z, (Option.some.inj hy).symm⟩
/-- one thing put in that is no whole number -/
theorem keys_put {H : Hp} {p : Addr} {ns : List Int} {at_ : Nat} {odd : V} {To : String} {rest xs : List V} {lo hi : Int} (h : RowAt H p xs) (e : xs = (ns.map V.int).take at_ ++ odd :: rest) (ha : at_ ≤ ns.length) (h0 : lo ≤ 0) (hl : ((at_ + rest.length + 1 : Nat) : Int) ≤ hi) (ho : AnyV H odd To) (hi_ : isI odd = false) : KeysQ H (.ref p) lo hi (some (at_ : Int)) := by
  subst e
  have lt : ((ns.map V.int).take at_).length = at_ := by rw [List.length_take, List.length_map]; omega
  refine .item rfl h ?_ (x := odd) ?_ ⟨To, ho, hi_.symm⟩ fun j y hj hy => ?_
  · rw [List.length_append, lt, List.length_cons]
    omega
  · rw [List.getElem?_append_right (by omega), lt, Nat.sub_self]
    rfl
  · obtain ⟨z, rfl⟩ := take_int ha hj hy
    exact ⟨_, .int z, rfl⟩
theorem keys_rep {H : Hp} {p : Addr} {k : Nat} {i : Int} (h : RowAt H p (List.replicate k (V.int i))) (hk : 2000 < k) : KeysQ H (.ref p) 0 2000 (some (-1)) := .len rfl h (by rw [List.length_replicate]; omega)
end L2
namespace L2
open PySem PySem.Spec PyProof.Rows LamX
/-- which error a call lets out, by its class, field and word -/
def EErr (L : List (Addr × Str × Str)) (Q : VK) : XK := fun cls d H' => ∃ dx C f w v, d = some dx ∧ (C, f, w) ∈ L ∧ cls = .ref C ∧ H' dx = some (.xd [(f, v)]) ∧ ∀ t H'', Same H' H'' → H'' t = some (.tup [.str w, v]) → Q (.ref t) H''
theorem eErr {L : List (Addr × Str × Str)} {Q : VK} {C : Addr} {f w : Str} {v : V} {H : Hp} (h : (C, f, w) ∈ L) (q : ∀ t H', Same H H' → H' t = some (.tup [.str w, v]) → Q (.ref t) H') : Rz (EErr L Q) H C f v := fun dx H' s _ e => ⟨dx, C, f, w, v, rfl, h, rfl, e, fun t H'' s2 ht => q t H'' (s.trans s2) ht⟩
/-- .. and what is told if none comes -/
def TTerr (L : List (Addr × Str × Str)) (end_ : V) : (XK → Hp → VK → Prop) → Hp → VK → Prop := fun tl H Q => tl (EErr L Q) H fun _ H' => Q end_ H'
/-- an answer, or none -/
def okBool (H : Hp) (v : V) (b : Bool) : Prop := ∃ T, AnyV H v T ∧ b = decide (T = "bool")
theorem okBool.ext {H H' : Hp} {v : V} {b : Bool} (e : ExtN H H') (h : okBool H v b) : okBool H' v b := h.imp fun _ h => ⟨h.1.ext e, h.2⟩
abbrev AnsQ := RowQ okBool
theorem ansExt {H H' : Hp} {v : V} {lo hi : Int} {r : Option Int} (e : ExtN H H') (h : AnsQ H v lo hi r) : AnsQ H' v lo hi r := RowQ.ext (ok := okBool) (fun {H1 H2 v b} e h => okBool.ext (H := H1) (H' := H2) (v := v) (b := b) e h) e h
theorem AnyV.kitBool {K : PySem.W.Frag} {H : Hp} {v : V} {T : String} (h : AnyV H v T) : PySem.W.kitOne K (.type T) (.type "bool") = some (decide (T = "bool")) := by
  cases h <;> exact kit_ty (by decide +kernel)
end L2

/-! lambdas that stand in lists, called one by one in a comprehension of the def that made them -/
namespace L2
open PySem PySem.Spec PyProof.Rows PySem.W LamX
/-- at f stands a lambda of X's text: t is what its body does -/
def LamRun (X : Cx) (k : Nat) (t : XK → TE) (f : Addr) (H : Hp) : Prop := ∃ params body scope, LamAt H f (lamD X params body scope) ∧ LamGood X k params body scope t
theorem LamRun.ext {X : Cx} {k : Nat} {t : XK → TE} {f : Addr} {H H' : Hp} (e : ExtN H H') (h : LamRun X k t f H) : LamRun X k t f H' := by
  obtain ⟨a, b, c, h1, h2⟩ := h
  exact ⟨a, b, c, h1.ext e, h2⟩
def tLamR (X : Cx) (k : Nat) (T : List (Addr × Str)) (t : XK → TE) : TE := fun σ H Q => Tabs T H ∧ ∀ (H1 : Hp) (f : Addr), ExtN H H1 → Tabs T H1 → LamRun X k t f H1 → Q (.ref f) H1
section
variable {X : Cx}
theorem pe_lamR {k : Nat} {T : List (Addr × Str)} {c P : Addr} {params : Arguments} {body : Expr} {scope : Scope} {pos : Pos} {t : XK → TE} (TB : TabB X.base X.mg c P) (hcode : X.env.code = .ref c) (hmT : (P, X.env.qual ++ "<lambda>") ∈ T) (hu : ∀ p ∈ T, p.1 = P → p.2 = X.env.qual ++ "<lambda>")
    (hfree : ∀ y ∈ scope.names, y.2 = .free → X.env.scope.names.lookup y.1 = some .cell ∨ X.env.scope.names.lookup y.1 = some .free)
    (hk0 : params.kw_defaults = []) (hdef : params.defaults = [] ∨ ∃ j pc, params.defaults = [.Constant (.int 0) j pc]) (LG : LamGood X k params body scope t) : PE X (.Lambda params body scope pos) (tLamR X k T t) :=
  ⟨fun pins s σ H Q I h => (pe_lamO TB hcode hmT hu hfree hk0 hdef).run pins s σ H Q I ⟨h.1, fun H1 f e1 T1 _ hL => h.2 H1 f e1 T1 ⟨_, _, _, hL, LG⟩⟩⟩
/-- x(e), e a kept lambda of this def -/
theorem pe_callLamR {TT : (XK → Hp → VK → Prop) → Hp → VK → Prop} {x a : Str} {st : Stmt} {g : Addr} {k : Nat} {fd : FuncData} {Ng : List Str} {e : Expr} {te : TE} {p pos : Pos}
    (F : Fun X.K x x st g fd) (hg : Gl X x) (hm : X.mg x = some (.ref g)) (hk : PySem.W.keepIn X.K (.ref g) = true) (hb : L2.Binds X.K fd [a] []) (Sg : FnScope Ng [a] (defScope st)) (hNg : Ng[0]? = some a) (hva : Vis (defScope st) a)
    (hG : GivesTo1 X.prog X.w X.K X.mg X.base (k + 1) Ng x (defScope st) g (defBody st) a TT) (hr : Room (k + 2) X.A) (he : PE X e te)
    (hst : starEach [e] X.env = (false, eval e X.env) :: starEach [] X.env := by rfl) (hpl : (backTo pos (starEach [] X.env)).any (·.1) = false := by rfl)
    (hdb : (x == ("__debug__" : Str)) = false := by decide) (hd : (a == ("__debug__" : Str)) = false := by decide) (hcd : (a == ("__classdict__" : Str)) = false := by decide) :
    PE X (.Call (.Name x p) [e] [] pos) (fun σ H Q => te σ H fun v H1 => ∃ f t, v = .ref f ∧ LamRun X k t f H1 ∧ TT (fun E H' Q' => t E σ H' Q') H1 Q) := by
  refine ⟨fun pins s σ H Q I h => ?_⟩
  refine wpAny_Call_Name_kw (ld_glob I hg hm ?_ hdb)
  refine PySem.W.callWith_K (h₀ := X.base) I.ok.mod.kin hk ?_ hst hpl
  refine thn ((pa_cons he pa_nil hst).run pos pins s σ H (fun vs H1 => match vs with | [v] => ∃ f t, v = .ref f ∧ LamRun X k t f H1 ∧ TT (fun E H' Q' => t E σ H' Q') H1 Q | _ => False) I h) fun us s1 ⟨vs, H1, I1, r, q⟩ => ?_
  match vs, q, r with
  | [v], q, r =>
  obtain ⟨f, t, rfl, ⟨params, body, scope, hL, LG⟩, q⟩ := q
  obtain rfl := Vals.ref1 r
  refine ⟨I1.kIn, wpAny_call (codeAny_mono (run_lamO F hb Sg hNg hva hG LG hr I1 hL q hd hcd) fun r s2 hq => ?_)⟩
  cases r with
  | error e => exact (show False from hq).elim
  | ok fl =>
    cases fl with
    | ret u => exact I1.after hq
    | next => exact False.elim hq
    | brk => exact False.elim hq
    | cont => exact False.elim hq
/-- what a block's turns know: the def that waits, and the walk's own objects -/
structure Held0 (X : Cx) (pins : List (Addr × Obj)) (σ : L2.St) (H : Hp) (s : Shared) (fp : List Addr) : Prop where
  inv : Inv X pins σ H s
  fps : ∀ b ∈ fp, FpOk X pins H b ∧ b < s.heap.objs.size
theorem Held0.back {pins : List (Addr × Obj)} {σ : L2.St} {H H' : Hp} {s s' : Shared} {fp : List Addr} {scope : Scope} {ce : Env} {pins' : List (Addr × Obj)} {σ' : L2.St} (B : Held0 X pins σ H s fp) (I : Inv (X.blk s H scope ce fp) pins' σ' H' s') : Inv X pins σ H' s' :=
  B.inv.call' (ch := fp) I.os I.base I.hok I.bare fun b hb => ⟨(B.fps b hb).1.2.2.2.1, (B.fps b hb).1.2.1, (B.fps b hb).1.2.2.2.2.1, (B.fps b hb).1.2.2.2.2.2⟩
/-- .. in a comprehension's block -/
abbrev tLamB (X : Cx) (k : Nat) (TT : (XK → Hp → VK → Prop) → Hp → VK → Prop) (σ : L2.St) (te : TE) : TE := fun σB HB Q => te σB HB fun v H1 => ∃ f t, v = .ref f ∧ LamRun X k t f H1 ∧ TT (fun E H' Q' => t E σ H' Q') H1 Q
theorem pe_callLamB {TT : (XK → Hp → VK → Prop) → Hp → VK → Prop} {x a : Str} {st : Stmt} {g : Addr} {k : Nat} {fd : FuncData} {Ng : List Str} {e : Expr} {te : TE} {p pos : Pos} {pins : List (Addr × Obj)} {σ : L2.St} {H : Hp} {s : Shared} {fp : List Addr} {scope : Scope} {ce : Env}
    (B : Held0 X pins σ H s fp) (F : Fun X.K x x st g fd) (hg : Gl (X.blk s H scope ce fp) x) (hm : X.mg x = some (.ref g)) (hk : PySem.W.keepIn X.K (.ref g) = true) (hb : L2.Binds X.K fd [a] []) (Sg : FnScope Ng [a] (defScope st)) (hNg : Ng[0]? = some a) (hva : Vis (defScope st) a)
    (hG : GivesTo1 X.prog X.w X.K X.mg X.base (k + 1) Ng x (defScope st) g (defBody st) a TT) (hr : Room (k + 2) X.A) (he : PE (X.blk s H scope ce fp) e te)
    (hst : starEach [e] ce = (false, eval e ce) :: starEach [] ce := by rfl) (hpl : (backTo pos (starEach [] ce)).any (·.1) = false := by rfl)
    (hdb : (x == ("__debug__" : Str)) = false := by decide) (hd : (a == ("__debug__" : Str)) = false := by decide) (hcd : (a == ("__classdict__" : Str)) = false := by decide) :
    PE (X.blk s H scope ce fp) (.Call (.Name x p) [e] [] pos) (tLamB X k TT σ te) := by
  refine ⟨fun pinsB sB σB HB Q IB h => ?_⟩
  refine wpAny_Call_Name_kw (ld_glob IB hg hm ?_ hdb)
  refine PySem.W.callWith_K (h₀ := X.base) IB.ok.mod.kin hk ?_ hst hpl
  refine thn ((pa_cons he pa_nil hst).run pos pinsB sB σB HB (fun vs H1 => match vs with | [v] => ∃ f t, v = .ref f ∧ LamRun X k t f H1 ∧ TT (fun E H' Q' => t E σ H' Q') H1 Q | _ => False) IB h) fun us s1 ⟨vs, H1, I1, r, q⟩ => ?_
  match vs, q, r with
  | [v], q, r =>
  obtain ⟨f, t, rfl, ⟨params, body, scope, hL, LG⟩, q⟩ := q
  obtain rfl := Vals.ref1 r
  have rc := run_lamO (X := X) F hb Sg hNg hva hG LG hr (B.back I1) hL q hd hcd
  refine ⟨I1.kIn, wpAny_call (codeAny_mono rc fun r s2 hq => ?_)⟩
  cases r with
  | error e => exact (show False from hq).elim
  | ok fl =>
    cases fl with
    | ret u => exact I1.after hq
    | next => exact False.elim hq
    | brk => exact False.elim hq
    | cont => exact False.elim hq
end
section
variable {X : Cx}
/-- a comprehension whose turns know the def that waits -/
theorem pe_lcH {elt tg iter : Expr} {scope : Scope} {own : List (Str × Nat)} {pos : Pos} {wi : TI} {g : TG} {te : L2.St → TE} (hc : X.calm = true) (hN : X.N.Nodup) (hi : PI X tg iter wi) (ok : BlkOk X.N X.env.scope scope own)
    (hg : ∀ (s : Shared) (H : Hp) (C : Addr) (cl : List (Str × Addr)) (fp : List Addr), PG (X.blk s H scope (compEnvC scope cl C X.env) fp) tg g)
    (he : ∀ (pins : List (Addr × Obj)) (σ : L2.St) (s : Shared) (H : Hp) (C : Addr) (cl : List (Str × Addr)) (fp : List Addr), Held0 X pins σ H s fp → PE (X.blk s H scope (compEnvC scope cl C X.env) fp) elt (te σ)) (hs : ∀ x, foldedSetIterable iter X.env x = pure x := by intro _; rfl) :
    PE X (.ListComp elt [⟨tg, iter, [], 0⟩] scope pos) (fun σ H Q => tLc wi g tYes (te σ) (own.map (·.2)) σ H Q) := by
  constructor
  intro pins s σ H Q I h
  have cells : ∀ y ∈ scope.names, y.2 = .free → ∃ c, X.env.cells.lookup y.1 = some c := fun y hy e => (ok.free y hy e).elim (fun k => I.ok.has _ (.inl k)) fun k => I.ok.has _ (.inr k)
  rw [eval_ListComp]
  refine wpAny_comprehension_free (use := none) rfl hs (closure_ok cells) ok.kind (fun y hy e => (ok.uniq y hy).trans (by rw [e])) (thn (hi.run pins s σ H _ I h) fun _ _ hx => thn hx fun _ s2 h2 => ?_)
  obtain ⟨it, fp, tn, J, H2, rfl, I2, T, st2, f2, q⟩ := h2
  refine wpAny_newObj_type (newEnv_comp ?_) (by show 0 ≤ sizeLine; decide)
  have nD : H2 s2.heap.objs.size = none := I2.hok.fresh (Nat.le_refl _)
  obtain ⟨W, ⟨m0, w0⟩, turn⟩ := q _ nD
  have I3 := I2.laid (t' := s2.toks) (h' := s2.heap.push { cls := .type "list", data := .seq ([] : List Value).toArray }) (a := s2.heap.objs.size) (o := .lst []) (fun b o e => Heap.get?_push_of_some _ e) (Nat.le_refl _) ⟨Nat.zero_le _, [], 0, .nil, Heap.get?_push_size _ rfl⟩
  have B3 : ∀ b ∈ fp, FpOk X pins (upd H2 s2.heap.objs.size (.lst [])) b ∧ b < (s2.heap.push { cls := .type "list", data := .seq ([] : List Value).toArray }).objs.size := fun b hb => by
    obtain ⟨o, e, _⟩ := T.obj _ _ st2 b hb
    have l := Heap.lt_size e
    exact ⟨⟨(upd_ne (Nat.ne_of_lt l)).trans (f2 b hb).1, (f2 b hb).2⟩, by rw [Heap.size_push]; exact Nat.lt_succ_of_lt l⟩
  have t3 : tn 0 (s2.heap.push { cls := .type "list", data := .seq ([] : List Value).toArray }) := T.keep _ _ _ st2 fun b _ o e => Heap.get?_push_of_some _ e
  generalize hs3 : ({ s2 with heap := s2.heap.push { cls := .type "list", data := .seq ([] : List Value).toArray } } : Shared) = s3 at I3
  have e3 : s3.heap = s2.heap.push { cls := .type "list", data := .seq ([] : List Value).toArray } := by rw [← hs3]
  rw [← e3] at B3 t3
  generalize hDD : s2.heap.objs.size = D at nD w0 turn I3 B3 ⊢
  generalize hH3 : upd H2 D (.lst []) = H3 at I3 B3 w0
  have HB : Held0 X pins σ H3 s3 fp := ⟨I3, B3⟩
  have I4 := block_start I3 ok hN B3
  have pg := hg s3 H3 s3.heap.objs.size (cellsFrom (s3.heap.objs.size + 1) scope.names (cloFrom X.env.cells scope.names [])) fp
  have pe := he pins σ s3 H3 s3.heap.objs.size (cellsFrom (s3.heap.objs.size + 1) scope.names (cloFrom X.env.cells scope.names [])) fp HB
  show codeAny _ _ (.compStart (.ListComp elt [⟨tg, iter, [], 0⟩] scope pos) 0 (.ref it) (.ref D) (compEnvC scope (cellsFrom (s3.heap.objs.size + 1) scope.names (cloFrom X.env.cells scope.names [])) s3.heap.objs.size X.env)) (compPost (model X.prog X.w) X.A X.xe none _ (.ref D) s3.heap.objs.size) { s3 with heap := pushCells (s3.heap.push { cls := .type "dict", data := .dict #[] }) scope.names }
  generalize hce : compEnvC scope (cellsFrom (s3.heap.objs.size + 1) scope.names (cloFrom X.env.cells scope.names [])) s3.heap.objs.size X.env = ce at I4 pg pe ⊢
  have cL : ce.locals = s3.heap.objs.size := by rw [← hce]; rfl
  have t4 : tn 0 (pushCells (s3.heap.push { cls := .type "dict", data := .dict #[] }) scope.names) := T.keep _ _ _ t3 fun b _ o e => pushCells_keeps _ _ _ _ (Heap.get?_push_of_some _ e)
  generalize hs4 : ({ s3 with heap := pushCells (s3.heap.push { cls := .type "dict", data := .dict #[] }) scope.names } : Shared) = s4 at I4 ⊢
  have t4 : tn 0 s4.heap := by rw [← hs4]; exact t4
  have stay : ∀ {σ' : L2.St} {H' : Hp} {s' : Shared}, Inv (X.blk s3 H3 scope ce fp) [] σ' H' s' → (∀ b ∈ fp, H' b = none) → ∀ b ∈ fp, FpOk (X.blk s3 H3 scope ce fp) [] H' b := fun {σ' H' s'} I' hn b hb =>
    ⟨hn b hb, (I'.ok.exf b hb).1, I'.ok.exfs b hb, .inl hb, fun x c e => (I'.ok.exf b hb).2 x c e, fun p hp => absurd (show p ∈ ([] : List (Addr × Obj)) ++ [] from hp) (by simp)⟩
  have go : codeAny (model X.prog X.w) X.A (.compLoop (.ListComp elt [⟨tg, iter, [], 0⟩] scope pos) 0 (.ref it) (.ref D) ce) (compPost (model X.prog X.w) X.A X.xe none (EP X pins σ Q) (.ref D) s3.heap.objs.size) s4 := by
    refine compLoop_any (fun n s' => ∃ i H', Inv (X.blk s3 H3 scope ce fp) [] (wipe σ (own.map (·.2))) H' s' ∧ tn i s'.heap ∧ (∀ b ∈ fp, H' b = none) ∧ W i n H') (fun n s5 => ?_) m0 ⟨0, H3, I4, t4, fun b hb => (B3 b hb).1.1, w0⟩
    rintro ⟨i, H5, I5, t5, n5, w5⟩
    rcases turn i n H5 w5 with ⟨stop, done⟩ | ⟨go, Nx, hNx, step⟩
    · refine thnF (T.done (X.blk s3 H3 scope ce fp) rfl rfl rfl hc i [] s5 _ H5 (fun _ _ => False) I5 (stay I5 n5) t5 stop) fun r s6 ⟨hr, I6⟩ => ?_
      subst hr
      have I7 := HB.back I6
      have nC : H5 s3.heap.objs.size = none := cL ▸ (show H5 ce.locals = none from I6.free)
      obtain ⟨m, hn, _⟩ := I6.loc
      have hn : s6.heap.Ns ce.locals m := hn
      rw [cL] at hn
      obtain ⟨k0, k1, k2, k3, k4, k5⟩ := I3.fpOk (Nat.le_refl _) nC
      exact ⟨m, hn, fun h' sb => ⟨.ref D, H5, I7.turned (t' := s6.toks) (fun b o hb e => (sb.2 b hb).trans e) k0 k1 k3 k4 k5, rfl, done⟩⟩
    · refine thnF (T.item (X.blk s3 H3 scope ce fp) rfl rfl rfl hc i [] s5 _ H5 (fun _ _ => False) I5 (stay I5 n5) t5 go) fun r s6 ⟨u, hr, h6⟩ => ?_
      subst hr
      refine thnF h6 fun _ s7 ⟨x, H7, I7, r7, y7, t7, n7⟩ => ?_
      refine thnF (pg.run _ s7 _ H7 x u _ (I7.pinned (stay I7 n7) (T.obj _ _ t7)) r7 (step x H7 y7)) fun _ s8 ⟨σ8, H8, I8, hw8, q8⟩ => ?_
      refine thnF ((pts_nil (X := X.blk s3 H3 scope ce fp)).run _ s8 σ8 H8 _ I8 q8) fun b s9 ⟨H9, I9, q9⟩ => ?_
      have fin : ∀ {s' : Shared} {H' : Hp}, Inv (X.blk s3 H3 scope ce fp) ([] ++ pinsAt fp s7.heap) σ8 H' s' → Nx H' → ∃ m, m < n ∧ ∃ i H', Inv (X.blk s3 H3 scope ce fp) [] (wipe σ (own.map (·.2))) H' s' ∧ tn i s'.heap ∧ (∀ b ∈ fp, H' b = none) ∧ W i m H' := fun {s' H'} I' nx => by
        obtain ⟨m', hm, w'⟩ := hNx H' nx
        have pin : ∀ b ∈ fp, ∀ o, s7.heap.get? b = some o → s'.heap.get? b = some o ∧ H' b = none := fun b hb o e => ⟨(I'.pin (b, o) (List.mem_append_right _ (List.mem_append_right _ (mem_pinsAt hb e)))).1, (I'.pin (b, o) (List.mem_append_right _ (List.mem_append_right _ (mem_pinsAt hb e)))).2.1⟩
        refine ⟨m', hm, i + 1, H', (I'.unpinned (pins := [])).weak ?_ (fun j v e => ?_), T.keep _ _ _ t7 fun b hb o e => (pin b hb o e).1, fun b hb => ?_, w'⟩
        · rw [← hw8, wipe_length]
        · rw [← hw8] at e
          exact (wipe_some e).1
        · obtain ⟨o, e, _⟩ := T.obj _ _ t7 b hb
          exact (pin b hb o e).2
      cases b with
      | false =>
        simp only [Bool.false_eq_true, if_false] at q9 ⊢
        exact fin I9 q9
      | true =>
        simp only [if_true] at q9 ⊢
        refine thnF (pe.run _ s9 σ8 H9 _ I9 q9) fun z s10 ⟨yv, H10, I10, r10, acc, hD10, hz10, nx⟩ => ?_
        exact app_ok (X := X.blk s3 H3 scope ce fp) I10 hD10 hz10 r10 fun s11 I11 => fin I11 nx
  exact codeAny_compStart_list go (T.self X.A 0 _ _ _ t4 go)
end
end L2
namespace L2
open PySem PySem.Spec PyProof.Rows PySem.W LamX
theorem tabsPut {TT : List (Addr × Str)} {H : Hp} {D : Addr} {xs : List V} {o : HO} (t : Tabs TT H) (hs : H D = some (.lst xs)) : Tabs TT (upd H D o) := fun p hp => by
  obtain ⟨ps, h1, h2, h3⟩ := t p hp
  refine ⟨ps, ?_, h2, fun pos cv hc => ?_⟩
  · rw [upd_ne (fun e => by rw [e, hs] at h1; cases h1)]
    exact h1
  · obtain ⟨c, e1, e2⟩ := h3 pos cv hc
    refine ⟨c, e1, ?_⟩
    rw [upd_ne (fun e => ?_)]
    · exact e2
    · rw [e, hs] at e2
      have e3 := Option.some.inj e2
      unfold LamX.CodeO at e3
      cases e3
theorem LamRun.put {X : Cx} {k : Nat} {t : XK → TE} {f : Addr} {H : Hp} {D : Addr} {xs : List V} {o : HO} (h : LamRun X k t f H) (h4 : H D = some (.lst xs)) : LamRun X k t f (upd H D o) := by
  obtain ⟨p1, p2, p3, ⟨c', dV, z1, z2, z3⟩, z4⟩ := h
  have nf : ∀ {b : Addr} {q : HO}, H b = some q → (∀ xs, q ≠ .lst xs) → upd H D o b = some q := fun {b q} h n => by
    rw [upd_ne (fun q => by rw [q, h4] at h; exact n _ (Option.some.inj h).symm)]
    exact h
  exact ⟨p1, p2, p3, ⟨c', dV, nf z1 (fun xs y => by unfold FunO at y; cases y), nf z2 (fun xs y => by unfold LamX.CodeO at y; cases y), z3.imp id fun ⟨n, t0, y1, y2⟩ => ⟨n, t0, y1, nf y2 fun xs y => by cases y⟩⟩, z4⟩
/-- what calls have told so far, one by one -/
def SaidInv (T : List (Addr × Str)) (H5 : Hp) (D : Addr) (w : Str) (v : V) (i : Nat) (H' : Hp) : Prop := ExtN H5 H' ∧ Tabs T H' ∧ ∃ ts : List V, H' D = some (.lst ts) ∧ ts.length = i ∧ ∀ r ∈ ts, ∃ t, r = .ref t ∧ H' t = some (.tup [.str w, v])
theorem SaidInv.init {T : List (Addr × Str)} {H5 : Hp} {D : Addr} {w : Str} {v : V} (hD : H5 D = none) (T5 : Tabs T H5) : SaidInv T H5 D w v 0 (upd H5 D (.lst [])) := ⟨.of (same_upd hD), T5.ext (same_upd hD), [], upd_same, rfl, fun r h => by cases h⟩
theorem SaidInv.next {T : List (Addr × Str)} {H5 H' H'' : Hp} {D t : Addr} {w : Str} {v : V} {i : Nat} (h5 : H5 D = none) (I : SaidInv T H5 D w v i H') (e : ExtN H' H'') (T2 : Tabs T H'') (ht : H'' t = some (.tup [.str w, v])) (hi : i < 1000) : ∃ acc, H'' D = some (.lst acc) ∧ acc.length < sizeLine ∧ SaidInv T H5 D w v (i + 1) (upd H'' D (.lst (acc ++ [.ref t]))) := by
  obtain ⟨e1, _, ts, hD, lt, hts⟩ := I
  have hD2 := e _ _ hD fun ps z => by cases z
  have nD : ∀ {z : Addr}, H'' z = some (.tup [.str w, v]) → z ≠ D := fun h q => by rw [q, hD2] at h; cases h
  refine ⟨ts, hD2, Nat.lt_trans (by omega : ts.length < 1000) (by decide), fun b o h n => ?_, tabsPut T2 hD2, ts ++ [.ref t], upd_same, by rw [List.length_append, lt]; rfl, fun r hr => ?_⟩
  · rw [upd_ne (ne_of_none h h5)]
    exact e _ _ (e1 _ _ h n) n
  · rcases List.mem_append.mp hr with hr | hr
    · obtain ⟨z, rfl, hz⟩ := hts r hr
      have hz2 := e _ _ hz fun ps z => by cases z
      exact ⟨z, rfl, by rw [upd_ne (nD hz2)]; exact hz2⟩
    · rw [List.mem_singleton.mp hr]
      exact ⟨t, rfl, by rw [upd_ne (nD ht)]; exact ht⟩
theorem eq_said {w : Str} {v : V} {x : PyData} (hw : PyData.canLay0 (.str w) = true) (hv : Lone v x) (n : Nat) : V.bl (PyData.eqv (.list (List.replicate n (pdW w x))) (.list (List.replicate n (pdW w x)))) = V.bl true := by
  rw [eqv_same (shaped_said hw hv n)]
theorem eq_word {w : Str} {v : V} {x : PyData} (hw : PyData.canLay0 (.str w) = true) (hv : Lone v x) : V.bl (PyData.eqv (pdW w x) (pdW w x)) = V.bl true := by
  rw [eqv_same (shaped_word hw hv)]
end L2

namespace L2
open PySem PySem.Spec PyProof.Rows
namespace RF
/-- the rows of answers of one length that lead to no end before -/
def ended (size : Nat) (bs : List Bool) : Bool := (fed size bs bs.length).wt.isNone
def openR (size : Nat) : Nat → List (List Bool)
  | 0 => [[]]
  | g + 1 => (openR size g).flatMap fun bs => if ended size bs then [] else [bs ++ [false], bs ++ [true]]
/-- the ends that have been found -/
def fnd (size : Nat) : Nat → List (List Bool)
  | 0 => []
  | g + 1 => fnd size g ++ (openR size g).filter (ended size)
def lens (size : Nat) : List Nat := (fnd size (2 * size + 1)).map List.length
def nxt (size : Nat) (bs : List Bool) : List (List Bool) := if ended size bs then [] else [bs ++ [false], bs ++ [true]]
theorem openR_mem {n : Nat} : ∀ {g : Nat} {bs : List Bool}, bs ∈ openR n g → bs.length = g ∧ ∀ i, i < g → (fed n bs i).wt ≠ none
  | 0, bs, h => by
    rw [show bs = [] from List.mem_singleton.mp h]
    exact ⟨rfl, fun i h => absurd h (Nat.not_lt_zero _)⟩
  | g + 1, bs, h => by
    obtain ⟨cs, hc, hb⟩ := List.mem_flatMap.mp h
    obtain ⟨l1, l2⟩ := openR_mem hc
    have key : ∀ b : Bool, ended n cs = false → bs = cs ++ [b] → bs.length = g + 1 ∧ ∀ i, i < g + 1 → (fed n bs i).wt ≠ none := fun b hn e => by
      subst e
      refine ⟨by rw [List.length_append, l1]; rfl, fun i hi => ?_⟩
      have ec : fed n (cs ++ [b]) i = fed n cs i := fed_congr fun x hx => by
        rw [List.getD_eq_getElem?_getD, List.getD_eq_getElem?_getD, List.getElem?_append_left (by omega)]
      rw [ec]
      by_cases e : i = g
      · unfold ended at hn
        rw [l1, ← e] at hn
        intro z
        rw [z] at hn
        cases hn
      · exact l2 i (by omega)
    by_cases hn : ended n cs = true
    · rw [if_pos hn] at hb
      cases hb
    · rw [if_neg hn] at hb
      have hn : ended n cs = false := by
        cases e : ended n cs with
        | false => rfl
        | true => exact absurd e hn
      rcases List.mem_cons.mp hb with e | hb
      · exact key false hn e
      · exact key true hn (List.mem_singleton.mp hb)
theorem openR_last {n : Nat} (z0 : 0 < n) (z1 : n ≤ 2000) : openR n (2 * n + 1) = [] := by
  cases e : openR n (2 * n + 1) with
  | nil => rfl
  | cons bs r =>
    have h : bs ∈ openR n (2 * n + 1) := by rw [e]; exact List.mem_cons_self ..
    obtain ⟨_, h2⟩ := openR_mem h
    have := fed_few z0 z1 bs h2
    omega
theorem flat_le (n : Nat) : ∀ L : List (List Bool), (L.flatMap (nxt n)).length ≤ 2 * L.length
  | [] => Nat.le_refl _
  | bs :: r => by
    have ih := flat_le n r
    rw [List.flatMap_cons, List.length_append, List.length_cons]
    have : (nxt n bs).length ≤ 2 := by
      unfold nxt
      split
      · exact Nat.zero_le _
      · exact Nat.le_refl 2
    omega
theorem openR_le (n : Nat) : ∀ g, (openR n g).length ≤ 2 ^ g
  | 0 => Nat.le_refl _
  | g + 1 => by
    have ih := openR_le n g
    have := flat_le n (openR n g)
    have e : (openR n (g + 1)).length ≤ 2 * (openR n g).length := this
    rw [Nat.pow_succ]
    omega
theorem fnd_le (n : Nat) : ∀ g, (fnd n g).length ≤ 2 ^ g
  | 0 => Nat.zero_le _
  | g + 1 => by
    have ih := fnd_le n g
    have h1 := openR_le n g
    have h2 := List.length_filter_le (ended n) (openR n g)
    show (fnd n g ++ (openR n g).filter (ended n)).length ≤ _
    rw [List.length_append, Nat.pow_succ]
    omega
end RF
/-- tuples stay -/
def TK (H H' : Hp) : Prop := ∀ t xs, H t = some (.tup xs) → H' t = some (.tup xs)
theorem TK.of {H H' : Hp} (s : Same H H') : TK H H' := fun t xs h => s _ _ h
theorem TK.trans {H H1 H2 : Hp} (a : TK H H1) (b : TK H1 H2) : TK H H2 := fun t xs h => b _ _ (a _ _ h)
theorem TK.put {H : Hp} {p : Addr} {xs ys : List V} (h : H p = some (.lst xs)) : TK H (upd H p (.lst ys)) := fun t zs ht => by
  rw [upd_ne (fun e => by rw [e, h] at ht; cases ht)]
  exact ht
/-- a list whose entries are told by a row -/
def LAt {β : Type} (R : Hp → V → β → Prop) (H : Hp) (p : Addr) (L : List β) : Prop := ∃ ts : List V, H p = some (.lst ts) ∧ ts.length = L.length ∧ ∀ (i : Nat) (v : V) (b : β), ts[i]? = some v → L[i]? = some b → R H v b
def RowT (H : Hp) (v : V) (bs : List Bool) : Prop := ∃ t, v = .ref t ∧ H t = some (.tup (bs.map V.bl))
def EndT (H : Hp) (v : V) (bs : List Bool) : Prop := ∃ t rt st, v = .ref t ∧ H t = some (.tup [.ref rt, .ref st]) ∧ H rt = some (.tup (bs.map V.bl))
theorem RowT.keep {H H' : Hp} {v : V} {bs : List Bool} (k : TK H H') (h : RowT H v bs) : RowT H' v bs := by
  obtain ⟨t, e, ht⟩ := h
  exact ⟨t, e, k _ _ ht⟩
theorem EndT.keep {H H' : Hp} {v : V} {bs : List Bool} (k : TK H H') (h : EndT H v bs) : EndT H' v bs := by
  obtain ⟨t, rt, st, e, ht, hr⟩ := h
  exact ⟨t, rt, st, e, k _ _ ht, k _ _ hr⟩
theorem LAt.keep {β : Type} {R : Hp → V → β → Prop} {H H' : Hp} {p : Addr} {L : List β} (hR : ∀ v b, R H v b → R H' v b) (hp : ∀ x, H p = some x → H' p = some x) (h : LAt R H p L) : LAt R H' p L := by
  obtain ⟨ts, h1, h2, h3⟩ := h
  exact ⟨ts, hp _ h1, h2, fun i v b e1 e2 => hR _ _ (h3 i v b e1 e2)⟩
theorem LAt.nil {β : Type} {R : Hp → V → β → Prop} {H : Hp} {p : Addr} (h : H p = some (.lst [])) : LAt R H p [] := ⟨[], h, rfl, fun i v b e => by simp at e⟩
theorem LAt.more {β : Type} {R : Hp → V → β → Prop} {H : Hp} {p : Addr} {L M : List β} {ts zs : List V} (hts : H p = some (.lst ts)) (h : LAt R H p L) (hR : ∀ v b, R H v b → R (upd H p (.lst (ts ++ zs))) v b) (hl : zs.length = M.length)
    (hz : ∀ (i : Nat) (v : V) (b : β), zs[i]? = some v → M[i]? = some b → R (upd H p (.lst (ts ++ zs))) v b) : LAt R (upd H p (.lst (ts ++ zs))) p (L ++ M) := by
  obtain ⟨ts', h1, h2, h3⟩ := h
  rw [hts] at h1
  cases h1
  refine ⟨ts ++ zs, upd_same, by rw [List.length_append, List.length_append, h2, hl], fun i v b e1 e2 => ?_⟩
  rcases Nat.lt_or_ge i ts.length with hi | hi
  · rw [List.getElem?_append_left hi] at e1
    rw [List.getElem?_append_left (by omega)] at e2
    exact hR _ _ (h3 i v b e1 e2)
  · rw [List.getElem?_append_right hi] at e1
    rw [List.getElem?_append_right (by omega), ← h2] at e2
    exact hz _ v b e1 e2
/-- the most questions, and that all ends together are one -/
def topR (n : Nat) : Nat := 2 * n - 2 - if n = 2 then 1 else 0
theorem lens_right : ∀ n, n < 7 → 0 < n → ((RF.lens n).map fun l => 2 ^ (topR n - l)).sum = 2 ^ topR n ∧ topR n ∈ RF.lens n ∧ ∀ l ∈ RF.lens n, l ≤ topR n := by decide +kernel
end L2

namespace L2
open PySem PySem.Spec PyProof.Rows
/-- len, said of one K (for a comprehension) -/
def rLenK (K : PySem.W.Frag) : List V → Hp → VK → Prop := fun xs H Q => ∃ p ys, xs = [.ref p] ∧ (SqL K H p ys ∨ SqT K H p ys) ∧ Q (.int ys.length) H
end L2

namespace K78
open PySem PySem.Spec PyProof.Rows L2
def topS (i : Nat) : Stmt := PySem.Challenge.pw_askedorder_k78_what_counts_refuse.main.body.getD i (.Pass ⟨0, 0, 0, 0⟩)
abbrev s_ask_honestly : Stmt := topS 2
abbrev N_ask_honestly : List Str := ["machine", "keys", "questions", "one", "other"]
abbrev P_ask_honestly : List Str := ["machine", "keys"]
theorem sc_ask_honestly : FnScope N_ask_honestly P_ask_honestly (defScope s_ask_honestly) := ⟨rfl, rfl, rfl, by decide +kernel, rfl, by decide +kernel, by decide +kernel⟩
abbrev s_InvalidLengths___init__ : Stmt := inClass (topS 5) 0
abbrev N_InvalidLengths___init__ : List Str := ["self", "index"]
abbrev P_InvalidLengths___init__ : List Str := ["self", "index"]
theorem sc_InvalidLengths___init__ : FnScope N_InvalidLengths___init__ P_InvalidLengths___init__ (defScope s_InvalidLengths___init__) := ⟨rfl, rfl, rfl, by decide +kernel, rfl, by decide +kernel, by decide +kernel⟩
abbrev s_InvalidNumber___init__ : Stmt := inClass (topS 6) 0
abbrev N_InvalidNumber___init__ : List Str := ["self", "name"]
abbrev P_InvalidNumber___init__ : List Str := ["self", "name"]
theorem sc_InvalidNumber___init__ : FnScope N_InvalidNumber___init__ P_InvalidNumber___init__ (defScope s_InvalidNumber___init__) := ⟨rfl, rfl, rfl, by decide +kernel, rfl, by decide +kernel, by decide +kernel⟩
abbrev s_is_integer : Stmt := topS 9
abbrev N_is_integer : List Str := ["value"]
abbrev P_is_integer : List Str := ["value"]
theorem sc_is_integer : FnScope N_is_integer P_is_integer (defScope s_is_integer) := ⟨rfl, rfl, rfl, by decide +kernel, rfl, by decide +kernel, by decide +kernel⟩
abbrev s_is_within : Stmt := topS 10
abbrev N_is_within : List Str := ["value", "least", "most"]
abbrev P_is_within : List Str := ["value", "least", "most"]
theorem sc_is_within : FnScope N_is_within P_is_within (defScope s_is_within) := ⟨rfl, rfl, rfl, by decide +kernel, rfl, by decide +kernel, by decide +kernel⟩
abbrev s_check_lengths : Stmt := topS 11
abbrev N_check_lengths : List Str := ["lengths", "fewest", "most", "longest", "index", "length"]
abbrev P_check_lengths : List Str := ["lengths", "fewest", "most", "longest"]
theorem sc_check_lengths : FnScope N_check_lengths P_check_lengths (defScope s_check_lengths) := ⟨rfl, rfl, rfl, by decide +kernel, rfl, by decide +kernel, by decide +kernel⟩
abbrev s_check_number : Stmt := topS 12
abbrev N_check_number : List Str := ["name", "value", "least", "most"]
abbrev P_check_number : List Str := ["name", "value", "least", "most"]
theorem sc_check_number : FnScope N_check_number P_check_number (defScope s_check_number) := ⟨rfl, rfl, rfl, by decide +kernel, rfl, by decide +kernel, by decide +kernel⟩
abbrev s_PieceStack___init__ : Stmt := inClass (topS 33) 0
abbrev N_PieceStack___init__ : List Str := ["self", "whole"]
abbrev P_PieceStack___init__ : List Str := ["self", "whole"]
theorem sc_PieceStack___init__ : FnScope N_PieceStack___init__ P_PieceStack___init__ (defScope s_PieceStack___init__) := ⟨rfl, rfl, rfl, by decide +kernel, rfl, by decide +kernel, by decide +kernel⟩
abbrev s_least_length : Stmt := topS 38
abbrev N_least_length : List Str := ["many", "rounded_off"]
abbrev P_least_length : List Str := ["many"]
theorem sc_least_length : FnScope N_least_length P_least_length (defScope s_least_length) := ⟨rfl, rfl, rfl, by decide +kernel, rfl, by decide +kernel, by decide +kernel⟩
abbrev s_ListSort___init__ : Stmt := inClass (topS 48) 0
abbrev N_ListSort___init__ : List Str := ["self", "many", "turned"]
abbrev P_ListSort___init__ : List Str := ["self", "many", "turned"]
theorem sc_ListSort___init__ : FnScope N_ListSort___init__ P_ListSort___init__ (defScope s_ListSort___init__) := ⟨rfl, rfl, rfl, by decide +kernel, rfl, by decide +kernel, by decide +kernel⟩
abbrev s_all_shapes : Stmt := topS 54
abbrev N_all_shapes : List Str := ["many", "shapes", "_", "shape", "longer"]
abbrev P_all_shapes : List Str := ["many"]
theorem sc_all_shapes : FnScope N_all_shapes P_all_shapes (defScope s_all_shapes) := ⟨rfl, rfl, rfl, by decide +kernel, rfl, by decide +kernel, by decide +kernel⟩
abbrev s_fewest : Stmt := topS 61
abbrev N_fewest : List Str := ["many"]
abbrev P_fewest : List Str := ["many"]
theorem sc_fewest : FnScope N_fewest P_fewest (defScope s_fewest) := ⟨rfl, rfl, rfl, by decide +kernel, rfl, by decide +kernel, by decide +kernel⟩
abbrev s_most : Stmt := topS 62
abbrev N_most : List Str := ["many", "index"]
abbrev P_most : List Str := ["many"]
theorem sc_most : FnScope N_most P_most (defScope s_most) := ⟨rfl, rfl, rfl, by decide +kernel, rfl, by decide +kernel, by decide +kernel⟩
abbrev s_fewest_keys : Stmt := topS 63
abbrev N_fewest_keys : List Str := ["many"]
abbrev P_fewest_keys : List Str := ["many"]
theorem sc_fewest_keys : FnScope N_fewest_keys P_fewest_keys (defScope s_fewest_keys) := ⟨rfl, rfl, rfl, by decide +kernel, rfl, by decide +kernel, by decide +kernel⟩
abbrev s_most_keys : Stmt := topS 64
abbrev N_most_keys : List Str := ["many", "index"]
abbrev P_most_keys : List Str := ["many"]
theorem sc_most_keys : FnScope N_most_keys P_most_keys (defScope s_most_keys) := ⟨rfl, rfl, rfl, by decide +kernel, rfl, by decide +kernel, by decide +kernel⟩
abbrev s_count_of_falling : Stmt := topS 65
abbrev N_count_of_falling : List Str := ["lengths", "first", "ahead", "length"]
abbrev P_count_of_falling : List Str := ["lengths"]
theorem sc_count_of_falling : FnScope N_count_of_falling P_count_of_falling (defScope s_count_of_falling) := ⟨rfl, rfl, rfl, by decide +kernel, rfl, by decide +kernel, by decide +kernel⟩
abbrev s_sum_of : Stmt := topS 66
abbrev N_sum_of : List Str := ["many"]
abbrev P_sum_of : List Str := ["many"]
theorem sc_sum_of : FnScope N_sum_of P_sum_of (defScope s_sum_of) := ⟨rfl, rfl, rfl, by decide +kernel, rfl, by decide +kernel, by decide +kernel⟩
abbrev s_spread : Stmt := topS 67
abbrev N_spread : List Str := ["many", "numbers", "keys", "sort", "count"]
abbrev P_spread : List Str := ["many"]
theorem sc_spread : FnScope N_spread P_spread (defScope s_spread) := ⟨rfl, rfl, rfl, by decide +kernel, rfl, by decide +kernel, by decide +kernel⟩
abbrev s_check_many : Stmt := topS 68
abbrev N_check_many : List Str := ["many"]
abbrev P_check_many : List Str := ["many"]
theorem sc_check_many : FnScope N_check_many P_check_many (defScope s_check_many) := ⟨rfl, rfl, rfl, by decide +kernel, rfl, by decide +kernel, by decide +kernel⟩
abbrev s_source : Stmt := topS 70
abbrev N_source : List Str := ["cell"]
abbrev P_source : List Str := ["cell"]
theorem sc_source : FnScope N_source P_source (defScope s_source) := ⟨rfl, rfl, rfl, by decide +kernel, rfl, by decide +kernel, by decide +kernel⟩
abbrev s_draw : Stmt := topS 71
abbrev N_draw : List Str := ["source", "size", "digit", "mixed"]
abbrev P_draw : List Str := ["source", "size"]
theorem sc_draw : FnScope N_draw P_draw (defScope s_draw) := ⟨rfl, rfl, rfl, by decide +kernel, rfl, by decide +kernel, by decide +kernel⟩
abbrev s_error : Stmt := topS 73
abbrev N_error : List Str := ["ask", "e"]
abbrev P_error : List Str := ["ask"]
theorem sc_error : FnScope N_error P_error (defScope s_error) := ⟨rfl, rfl, rfl, by decide +kernel, rfl, by decide +kernel, by decide +kernel⟩
abbrev s_numbers_right : Stmt := topS 74
abbrev N_numbers_right : List Str := ["bad", "calls", "call"]
abbrev P_numbers_right : List Str := ["bad"]
theorem sc_numbers_right : FnScope N_numbers_right P_numbers_right (defScope s_numbers_right) := ⟨rfl, rfl, rfl, by decide +kernel, rfl, by decide +kernel, by decide +kernel⟩
abbrev s_lengths_right : Stmt := topS 75
abbrev N_lengths_right : List Str := ["source", "parts", "go", "at", "odd", "bad"]
abbrev P_lengths_right : List Str := ["source"]
theorem sc_lengths_right : FnScope N_lengths_right P_lengths_right (defScope s_lengths_right) := ⟨rfl, rfl, rfl, by decide +kernel, rfl, by decide +kernel, by decide +kernel⟩
abbrev s_law : Stmt := topS 76
abbrev N_law : List Str := ["script", "bad", "cell", "source"]
abbrev P_law : List Str := ["script"]
theorem sc_law : FnScope N_law P_law (defScope s_law) := ⟨rfl, rfl, rfl, by decide +kernel, rfl, by decide +kernel, by decide +kernel⟩
def lq_numbers_right : Str := "_law_numbers_right.<locals>.<lambda>"
def lq_lengths_right : Str := "_law_lengths_right.<locals>.<lambda>"
def lq_law : Str := "law.<locals>.<lambda>"
structure Ad where
  (lc_numbers_right lp_numbers_right : Addr) (lc_lengths_right lp_lengths_right : Addr) (lc_law lp_law : Addr) (ask_honestly : Addr) (InvalidLengths___init__ : Addr) (InvalidNumber___init__ : Addr) (is_integer : Addr) (is_within : Addr) (check_lengths : Addr) (check_number : Addr) (PieceStack___init__ : Addr) (least_length : Addr) (ListSort___init__ : Addr) (all_shapes : Addr) (fewest : Addr) (most : Addr) (fewest_keys : Addr) (most_keys : Addr) (count_of_falling : Addr) (sum_of : Addr) (spread : Addr) (check_many : Addr) (source : Addr) (draw : Addr) (error : Addr) (numbers_right : Addr) (lengths_right : Addr) (law : Addr) (t_FIRST_PATIENCE : Tok) (t_GREATEST_ROW : Tok) (t_LEAST_HALVED : Tok) (t_LONGEST_STRETCH : Tok) (t_MOST_ITEMS : Tok) (t_MOST_SPREAD : Tok) (t_MOST_STRETCHES : Tok) (c_ListSort : Addr) (c_PieceStack : Addr) (c_InvalidLengths : Addr) (c_InvalidNumber : Addr) (c_SortError : Addr)
def LT (a : Ad) : List (Addr × Str) := [(a.lp_numbers_right, lq_numbers_right), (a.lp_lengths_right, lq_lengths_right), (a.lp_law, lq_law)]
structure Fd where
  (ask_honestly : FuncData) (InvalidLengths___init__ : FuncData) (InvalidNumber___init__ : FuncData) (is_integer : FuncData) (is_within : FuncData) (check_lengths : FuncData) (check_number : FuncData) (PieceStack___init__ : FuncData) (least_length : FuncData) (ListSort___init__ : FuncData) (all_shapes : FuncData) (fewest : FuncData) (most : FuncData) (fewest_keys : FuncData) (most_keys : FuncData) (count_of_falling : FuncData) (sum_of : FuncData) (spread : FuncData) (check_many : FuncData) (source : FuncData) (draw : FuncData) (error : FuncData) (numbers_right : FuncData) (lengths_right : FuncData) (law : FuncData)
/-- what the top has written -/
structure Txt (K : PySem.W.Frag) (mg : Str → Option Value) (a : Ad) (d : Fd) : Prop where
  g_ask_honestly : mg "ask_honestly" = some (.ref a.ask_honestly)
  k_ask_honestly : PySem.W.keepIn K (.ref a.ask_honestly) = true
  f_ask_honestly : Fun K "ask_honestly" "ask_honestly" s_ask_honestly a.ask_honestly d.ask_honestly
  b_ask_honestly : Binds K d.ask_honestly P_ask_honestly []
  f_InvalidLengths___init__ : Fun K "__init__" "InvalidLengths.__init__" s_InvalidLengths___init__ a.InvalidLengths___init__ d.InvalidLengths___init__
  b_InvalidLengths___init__ : Binds K d.InvalidLengths___init__ P_InvalidLengths___init__ []
  f_InvalidNumber___init__ : Fun K "__init__" "InvalidNumber.__init__" s_InvalidNumber___init__ a.InvalidNumber___init__ d.InvalidNumber___init__
  b_InvalidNumber___init__ : Binds K d.InvalidNumber___init__ P_InvalidNumber___init__ []
  g_is_integer : mg "is_integer" = some (.ref a.is_integer)
  k_is_integer : PySem.W.keepIn K (.ref a.is_integer) = true
  f_is_integer : Fun K "is_integer" "is_integer" s_is_integer a.is_integer d.is_integer
  b_is_integer : Binds K d.is_integer P_is_integer []
  g_is_within : mg "is_within" = some (.ref a.is_within)
  k_is_within : PySem.W.keepIn K (.ref a.is_within) = true
  f_is_within : Fun K "is_within" "is_within" s_is_within a.is_within d.is_within
  b_is_within : Binds K d.is_within P_is_within []
  g_check_lengths : mg "check_lengths" = some (.ref a.check_lengths)
  k_check_lengths : PySem.W.keepIn K (.ref a.check_lengths) = true
  f_check_lengths : FunV K "check_lengths" "check_lengths" s_check_lengths a.check_lengths d.check_lengths
  b_check_lengths : Binds K d.check_lengths P_check_lengths []
  g_check_number : mg "check_number" = some (.ref a.check_number)
  k_check_number : PySem.W.keepIn K (.ref a.check_number) = true
  f_check_number : FunV K "check_number" "check_number" s_check_number a.check_number d.check_number
  b_check_number : Binds K d.check_number P_check_number []
  m_PieceStack___init__ : Meth K a.c_PieceStack "__init__" a.PieceStack___init__
  f_PieceStack___init__ : Fun K "__init__" "PieceStack.__init__" s_PieceStack___init__ a.PieceStack___init__ d.PieceStack___init__
  b_PieceStack___init__ : Binds K d.PieceStack___init__ P_PieceStack___init__ []
  g_least_length : mg "least_length" = some (.ref a.least_length)
  k_least_length : PySem.W.keepIn K (.ref a.least_length) = true
  f_least_length : Fun K "least_length" "least_length" s_least_length a.least_length d.least_length
  b_least_length : Binds K d.least_length P_least_length []
  m_ListSort___init__ : Meth K a.c_ListSort "__init__" a.ListSort___init__
  f_ListSort___init__ : Fun K "__init__" "ListSort.__init__" s_ListSort___init__ a.ListSort___init__ d.ListSort___init__
  b_ListSort___init__ : Binds K d.ListSort___init__ P_ListSort___init__ []
  g_all_shapes : mg "all_shapes" = some (.ref a.all_shapes)
  k_all_shapes : PySem.W.keepIn K (.ref a.all_shapes) = true
  f_all_shapes : Fun K "all_shapes" "all_shapes" s_all_shapes a.all_shapes d.all_shapes
  b_all_shapes : Binds K d.all_shapes P_all_shapes []
  g_fewest : mg "fewest" = some (.ref a.fewest)
  k_fewest : PySem.W.keepIn K (.ref a.fewest) = true
  f_fewest : Fun K "fewest" "fewest" s_fewest a.fewest d.fewest
  b_fewest : Binds K d.fewest P_fewest []
  g_most : mg "most" = some (.ref a.most)
  k_most : PySem.W.keepIn K (.ref a.most) = true
  f_most : Fun K "most" "most" s_most a.most d.most
  b_most : Binds K d.most P_most []
  g_fewest_keys : mg "fewest_keys" = some (.ref a.fewest_keys)
  k_fewest_keys : PySem.W.keepIn K (.ref a.fewest_keys) = true
  f_fewest_keys : Fun K "fewest_keys" "fewest_keys" s_fewest_keys a.fewest_keys d.fewest_keys
  b_fewest_keys : Binds K d.fewest_keys P_fewest_keys []
  g_most_keys : mg "most_keys" = some (.ref a.most_keys)
  k_most_keys : PySem.W.keepIn K (.ref a.most_keys) = true
  f_most_keys : Fun K "most_keys" "most_keys" s_most_keys a.most_keys d.most_keys
  b_most_keys : Binds K d.most_keys P_most_keys []
  g_count_of_falling : mg "count_of_falling" = some (.ref a.count_of_falling)
  k_count_of_falling : PySem.W.keepIn K (.ref a.count_of_falling) = true
  f_count_of_falling : Fun K "count_of_falling" "count_of_falling" s_count_of_falling a.count_of_falling d.count_of_falling
  b_count_of_falling : Binds K d.count_of_falling P_count_of_falling []
  g_sum_of : mg "sum_of" = some (.ref a.sum_of)
  k_sum_of : PySem.W.keepIn K (.ref a.sum_of) = true
  f_sum_of : Fun K "sum_of" "sum_of" s_sum_of a.sum_of d.sum_of
  b_sum_of : Binds K d.sum_of P_sum_of []
  g_spread : mg "spread" = some (.ref a.spread)
  k_spread : PySem.W.keepIn K (.ref a.spread) = true
  f_spread : Fun K "spread" "spread" s_spread a.spread d.spread
  b_spread : Binds K d.spread P_spread []
  g_check_many : mg "_check_many" = some (.ref a.check_many)
  k_check_many : PySem.W.keepIn K (.ref a.check_many) = true
  f_check_many : Fun K "_check_many" "_check_many" s_check_many a.check_many d.check_many
  b_check_many : Binds K d.check_many P_check_many []
  g_source : mg "_law_source" = some (.ref a.source)
  k_source : PySem.W.keepIn K (.ref a.source) = true
  f_source : Fun K "_law_source" "_law_source" s_source a.source d.source
  b_source : Binds K d.source P_source []
  g_draw : mg "_law_draw" = some (.ref a.draw)
  k_draw : PySem.W.keepIn K (.ref a.draw) = true
  f_draw : Fun K "_law_draw" "_law_draw" s_draw a.draw d.draw
  b_draw : Binds K d.draw P_draw []
  g_error : mg "_law_error" = some (.ref a.error)
  k_error : PySem.W.keepIn K (.ref a.error) = true
  f_error : Fun K "_law_error" "_law_error" s_error a.error d.error
  b_error : Binds K d.error P_error []
  g_numbers_right : mg "_law_numbers_right" = some (.ref a.numbers_right)
  k_numbers_right : PySem.W.keepIn K (.ref a.numbers_right) = true
  f_numbers_right : Fun K "_law_numbers_right" "_law_numbers_right" s_numbers_right a.numbers_right d.numbers_right
  b_numbers_right : Binds K d.numbers_right P_numbers_right []
  g_lengths_right : mg "_law_lengths_right" = some (.ref a.lengths_right)
  k_lengths_right : PySem.W.keepIn K (.ref a.lengths_right) = true
  f_lengths_right : Fun K "_law_lengths_right" "_law_lengths_right" s_lengths_right a.lengths_right d.lengths_right
  b_lengths_right : Binds K d.lengths_right P_lengths_right []
  g_law : mg "law" = some (.ref a.law)
  k_law : PySem.W.keepIn K (.ref a.law) = true
  f_law : Fun K "law" "law" s_law a.law d.law
  b_law : Binds K d.law P_law []
  lc_numbers_right : d.numbers_right.code = .ref a.lc_numbers_right
  lc_lengths_right : d.lengths_right.code = .ref a.lc_lengths_right
  lc_law : d.law.code = .ref a.lc_law
  lne_numbers_right_lengths_right : a.lp_numbers_right ≠ a.lp_lengths_right
  lne_numbers_right_law : a.lp_numbers_right ≠ a.lp_law
  lne_lengths_right_law : a.lp_lengths_right ≠ a.lp_law
  g_FIRST_PATIENCE : mg "FIRST_PATIENCE" = some (.int 7 a.t_FIRST_PATIENCE)
  g_GREATEST_ROW : mg "GREATEST_ROW" = some (.int 1000000000000000000000000000000 a.t_GREATEST_ROW)
  g_LEAST_HALVED : mg "LEAST_HALVED" = some (.int 64 a.t_LEAST_HALVED)
  g_LONGEST_STRETCH : mg "LONGEST_STRETCH" = some (.int 1000000000000000000 a.t_LONGEST_STRETCH)
  g_MOST_ITEMS : mg "MOST_ITEMS" = some (.int 63 a.t_MOST_ITEMS)
  g_MOST_SPREAD : mg "MOST_SPREAD" = some (.int 6 a.t_MOST_SPREAD)
  g_MOST_STRETCHES : mg "MOST_STRETCHES" = some (.int 300 a.t_MOST_STRETCHES)
  z_abs : mg "abs" = none
  z_bool : mg "bool" = none
  z_enumerate : mg "enumerate" = none
  z_int : mg "int" = none
  z_isinstance : mg "isinstance" = none
  z_len : mg "len" = none
  z_list : mg "list" = none
  z_max : mg "max" = none
  z_range : mg "range" = none
  z_sorted : mg "sorted" = none
  z_sum : mg "sum" = none
  z_tuple : mg "tuple" = none
  x_InvalidLengths : ExC K mg a.c_InvalidLengths a.InvalidLengths___init__ "InvalidLengths" "index"
  x_InvalidNumber : ExC K mg a.c_InvalidNumber a.InvalidNumber___init__ "InvalidNumber" "name"
  xb : ExB K mg a.c_SortError "SortError"
  s_InvalidLengths_InvalidLengths : ExS K a.c_InvalidLengths a.c_InvalidLengths true
  s_InvalidLengths_InvalidNumber : ExS K a.c_InvalidLengths a.c_InvalidNumber false
  s_InvalidLengths_SortError : ExS K a.c_InvalidLengths a.c_SortError true
  s_InvalidNumber_InvalidLengths : ExS K a.c_InvalidNumber a.c_InvalidLengths false
  s_InvalidNumber_InvalidNumber : ExS K a.c_InvalidNumber a.c_InvalidNumber true
  s_InvalidNumber_SortError : ExS K a.c_InvalidNumber a.c_SortError true
  ec_InvalidLengths : ExcC K a.c_InvalidLengths
  ec_InvalidNumber : ExcC K a.c_InvalidNumber
  cl_ListSort : Cls K a.c_ListSort
  g_ListSort : mg "ListSort" = some (.ref a.c_ListSort)
  mk_ListSort : Mk K a.c_ListSort a.ListSort___init__
  n_many : NoAttr K a.c_ListSort "many"
  n_turned : NoAttr K a.c_ListSort "turned"
  n_row : NoAttr K a.c_ListSort "row"
  n_least : NoAttr K a.c_ListSort "least"
  n_stack : NoAttr K a.c_ListSort "stack"
  n_patience_between : NoAttr K a.c_ListSort "patience_between"
  n_start : NoAttr K a.c_ListSort "start"
  n_found : NoAttr K a.c_ListSort "found"
  n_length : NoAttr K a.c_ListSort "length"
  n_border : NoAttr K a.c_ListSort "border"
  n_machine : NoAttr K a.c_ListSort "machine"
  n_work : NoAttr K a.c_ListSort "work"
  n_waiting : NoAttr K a.c_ListSort "waiting"
  n_log : NoAttr K a.c_ListSort "log"
  n_steps : NoAttr K a.c_ListSort "steps"
  n_marks : NoAttr K a.c_ListSort "marks"
  cl_PieceStack : Cls K a.c_PieceStack
  g_PieceStack : mg "PieceStack" = some (.ref a.c_PieceStack)
  mk_PieceStack : Mk K a.c_PieceStack a.PieceStack___init__
  n_whole : NoAttr K a.c_PieceStack "whole"
  n_piled : NoAttr K a.c_PieceStack "piled"
/-! keywords -/
end K78

namespace K78
open PySem PySem.Spec PyProof.Rows L2
def spIsIntX (K : PySem.W.Frag) : Sp := fun vs H Q _ => ∃ v b, vs = [v] ∧ IntQ K H v b ∧ Q (.bl b) H
def spWithinX (K : PySem.W.Frag) : Sp := fun vs H Q _ => ∃ v lo m ok, vs = [v, .int lo, m] ∧ InB K H v lo m ok ∧ Q (.bl ok) H
section
variable {P : Program} {w : World} {K : PySem.W.Frag} {mg : Str → Option Value} {base : Heap} {a : Ad} {d : Fd}
theorem ok_is_integer (T : Txt K mg a d) : FnOk P w K mg base CX0 1 a.is_integer d.is_integer P_is_integer (spIsIntX K) := by
  refine T.f_is_integer.ok sc_is_integer (fun vs H Q E h => ?_) (fun cdv A outer s H vs Q E hr h => ?_)
  · obtain ⟨v, b, rfl, _⟩ := h
    rfl
  · obtain ⟨v, b, rfl, ⟨t, b1, b2, ty, k1, k2, rfl⟩, q⟩ := h
    refine ⟨_, (pss_one (ps_ret (pe_and (pe_callB call_isi (by rfl) T.z_isinstance (by decide +kernel) (pa_cons (pv 0) (pa_cons (pe_bltn (v := .ty "int") (u := .type "int") (by rfl) T.z_int (by decide +kernel) rfl) pa_nil))) (pe_one (pe_not (pe_callB call_isi (by rfl) T.z_isinstance (by decide +kernel) (pa_cons (pv 0) (pa_cons (pe_bltn (v := .ty "bool") (u := .type "bool") (by rfl) T.z_bool (by decide +kernel) rfl) pa_nil)))))))), ?_⟩
    refine ⟨_, rfl, v, .ty "int", t, .type "int", b1, rfl, .ty _, ty, k1, b1, rfl, ?_⟩
    cases b1 with
    | false => exact iteF q
    | true => exact iteT ⟨_, rfl, v, .ty "bool", t, .type "bool", b2, rfl, .ty _, ty, k2, b2, rfl, q⟩
theorem ok_is_within (T : Txt K mg a d) : FnOk P w K mg base CX0 2 a.is_within d.is_within P_is_within (spWithinX K) := by
  have G_is_integer : FnOk P w K mg base CX0 1 a.is_integer d.is_integer P_is_integer (spIsIntX K) := ok_is_integer T
  refine T.f_is_within.ok sc_is_within (fun vs H Q E h => ?_) (fun cdv A outer s H vs Q E hr h => ?_)
  · obtain ⟨v, lo, m, ok, rfl, _⟩ := h
    rfl
  · obtain ⟨v, lo, m, ok, rfl, hb, q⟩ := h
    refine ⟨_, (pss_one (ps_ret (pe_and (pe_call G_is_integer (hr.mono (by decide)) (by rfl) T.g_is_integer T.k_is_integer T.b_is_integer .nil pass0 (pa_cons (pv 0) pa_nil)) (pe_and (pe_cmpR op_ge (pv 0) (pv 1) (nomark _)) (pe_one (pe_or (pe_cmpR op_isN (pv 2) pe_non (nomark _)) (pe_one (pe_cmpR op_le (pv 0) (pv 2) (nomark _))))))))), ?_⟩
    rcases hb with ⟨hq, rfl⟩ | ⟨i, rfl, hb⟩
    · exact ⟨_, rfl, v, false, rfl, hq, false, rfl, iteF q⟩
    · refine ⟨_, rfl, _, true, rfl, IntQ.int i, true, rfl, iteT ?_⟩
      refine ⟨_, rfl, _, rfl, i, lo, rfl, rfl, decide (lo ≤ i), rfl, ?_⟩
      rcases hb with ⟨rfl, rfl⟩ | ⟨hi, rfl, rfl⟩
      · cases e : decide (lo ≤ i) with
        | false => rw [e] at q; exact iteF q
        | true => rw [e] at q; exact iteT ⟨_, rfl, rfl, true, rfl, iteT q⟩
      · cases e : decide (lo ≤ i) with
        | false => rw [e] at q; exact iteF q
        | true =>
          rw [e] at q
          exact iteT ⟨_, rfl, rfl, false, rfl, iteF ⟨_, rfl, _, rfl, i, hi, rfl, rfl, q⟩⟩
end

/-- a number that is checked: none is refused without its name -/
def spCheckNumberX (K : PySem.W.Frag) (C : Addr) : Sp := fun vs H Q E => ∃ (nm : Str) (v : V) (lo : Int) (m : V) (ok : Bool), vs = [.str nm, v, .int lo, m] ∧ InB K H v lo m ok ∧ (ok = true → Q .non H) ∧
  (ok = false → ∀ (dx : Addr) (H' : Hp), Same H H' → H dx = none → H' dx = some (.xd [("name", .str nm)]) → E (.ref C) (some dx) H')
section
variable {P : Program} {w : World} {K : PySem.W.Frag} {mg : Str → Option Value} {base : Heap} {a : Ad} {d : Fd}
theorem ok_err_number (T : Txt K mg a d) : FnOk P w K mg base CX0 1 a.InvalidNumber___init__ d.InvalidNumber___init__ P_InvalidNumber___init__ (spErr a.c_InvalidNumber "name") := by
  refine T.f_InvalidNumber___init__.ok sc_InvalidNumber___init__ (fun vs H Q E h => ?_) (fun cdv A outer s H vs Q E hr h => ?_)
  · obtain ⟨e, v, rfl, _⟩ := h
    rfl
  · obtain ⟨e, v, rfl, he, q⟩ := h
    refine ⟨_, (pss_cons (ps_expr (pe_baseinit (by rfl) T.xb.g T.xb.r1 T.xb.r2 T.xb.vi (pa_cons (pv 0) (pa_cons pe_str pa_nil))))
    (pss_one (ps_ost (pv 0) (pv 1)))), ?_⟩
    refine ⟨_, rfl, e, a.c_InvalidNumber, _, rfl, by show 1 ≤ 1000; decide, T.x_InvalidNumber.ox, he, ?_⟩
    exact ⟨_, rfl, _, rfl, e, a.c_InvalidNumber, rfl, T.x_InvalidNumber.ox, T.x_InvalidNumber.no, .inl ⟨he, fun dx hd ne => q dx hd ne⟩⟩
theorem ok_check_number (T : Txt K mg a d) : FnOk P w K mg base (L2.CX P w) 3 a.check_number d.check_number P_check_number (spCheckNumberX K a.c_InvalidNumber) := by
  have G_InvalidNumber___init__ : FnOk P w K mg base CX0 1 a.InvalidNumber___init__ d.InvalidNumber___init__ P_InvalidNumber___init__ (spErr a.c_InvalidNumber "name") := ok_err_number T
  have G_is_within : FnOk P w K mg base CX0 2 a.is_within d.is_within P_is_within (spWithinX K) := ok_is_within T
  refine T.f_check_number.okX sc_check_number (fun vs H Q E h => ?_) (fun cdv A outer s H vs Q E hr h => ?_)
  · obtain ⟨nm, v, lo, m, ok, rfl, _⟩ := h
    rfl
  · obtain ⟨nm, v, lo, m, ok, rfl, hb, q, qx⟩ := h
    refine ⟨_, (pss_one (ps_if (pt_not (pt_val (pe_call G_is_within (hr.mono (by decide)) (by rfl) T.g_is_within T.k_is_within T.b_is_within .nil pass0 (pa_cons (pv 1) (pa_cons (pv 2) (pa_cons (pv 3) pa_nil)))))) (pss_one (ps_raise rfl (takes_of rfl rfl rfl rfl) (pmk_oex T.x_InvalidNumber.ox T.x_InvalidNumber.ii T.x_InvalidNumber.ti G_InvalidNumber___init__ (hr.mono (by decide)) T.b_InvalidNumber___init__ .nil pass0 (by rfl) T.x_InvalidNumber.g (pa_cons (pv 0) pa_nil)))) pss_nil)), ?_⟩
    refine ⟨_, rfl, _, rfl, _, rfl, v, lo, m, ok, rfl, hb, ok, rfl, ?_⟩
    cases ok with
    | true => exact iteF (q rfl)
    | false =>
      refine iteT ⟨_, rfl, by show 1 ≤ 1000; decide, fun e heN => ⟨e, _, rfl, upd_same, fun dx hdx ne => ⟨rfl, dx, [("name", .str nm)], upd_same, ?_, ?_, ?_⟩⟩⟩
      · rw [upd_ne ne, upd_same]
      · rw [upd_ne ne] at hdx
        exact hdx
      · rw [upd_ne ne] at hdx
        refine qx rfl dx _ (fun b o h => ?_) hdx upd_same
        have nbd : b ≠ dx := ne_of_none h hdx
        have nbe : b ≠ e := ne_of_none h heN
        rw [upd_ne nbd, del_ne nbe, upd_ne nbe, upd_ne nbd, upd_ne nbe]
        exact h
end

/-- a length: a whole number from 1 to a bound -/
def okLen (hi : Option Int) (H : Hp) (v : V) (b : Bool) : Prop := ∃ T, AnyV H v T ∧ b = inR 1 hi v
theorem okLen.ext {hi : Option Int} {H H' : Hp} {v : V} {b : Bool} (e : LamX.ExtN H H') (h : okLen hi H v b) : okLen hi H' v b := h.imp fun _ h => ⟨h.1.ext e, h.2⟩
abbrev LensQ (hi : Option Int) := RowQ (okLen hi)
theorem lensExt {k : Option Int} {H H' : Hp} {v : V} {lo hi : Int} {r : Option Int} (e : LamX.ExtN H H') (h : LensQ k H v lo hi r) : LensQ k H' v lo hi r := RowQ.ext (ok := okLen k) (fun {H1 H2 v b} e h => okLen.ext (hi := k) (H := H1) (H' := H2) (v := v) (b := b) e h) e h
def spCheckLensX (C : Addr) : Sp := fun vs H Q E => ∃ (v : V) (lo hi : Int) (k r : Option Int), vs = [v, .int lo, .int hi, hiV k] ∧ LensQ k H v lo hi r ∧ (r = none → ∀ H', Same H H' → Q .non H') ∧ ∀ i, r = some i → Rz E H C "index" (.int i)
section
variable {P : Program} {w : World} {K : PySem.W.Frag} {mg : Str → Option Value} {base : Heap} {a : Ad} {d : Fd}
theorem ok_err_lengths (T : Txt K mg a d) : FnOk P w K mg base CX0 1 a.InvalidLengths___init__ d.InvalidLengths___init__ P_InvalidLengths___init__ (spErr a.c_InvalidLengths "index") := by
  refine T.f_InvalidLengths___init__.ok sc_InvalidLengths___init__ (fun vs H Q E h => ?_) (fun cdv A outer s H vs Q E hr h => ?_)
  · obtain ⟨e, v, rfl, _⟩ := h
    rfl
  · obtain ⟨e, v, rfl, he, q⟩ := h
    refine ⟨_, (pss_cons (ps_expr (pe_baseinit (by rfl) T.xb.g T.xb.r1 T.xb.r2 T.xb.vi (pa_cons (pv 0) (pa_cons pe_str pa_nil))))
    (pss_one (ps_ost (pv 0) (pv 1)))), ?_⟩
    refine ⟨_, rfl, e, a.c_InvalidLengths, _, rfl, by show 1 ≤ 1000; decide, T.x_InvalidLengths.ox, he, ?_⟩
    exact ⟨_, rfl, _, rfl, e, a.c_InvalidLengths, rfl, T.x_InvalidLengths.ox, T.x_InvalidLengths.no, .inl ⟨he, fun dx hd ne => q dx hd ne⟩⟩
theorem ok_check_lengths (T : Txt K mg a d) : FnOk P w K mg base (L2.CX P w) 3 a.check_lengths d.check_lengths P_check_lengths (spCheckLensX a.c_InvalidLengths) := by
  have G_is_within : FnOk P w K mg base CX0 2 a.is_within d.is_within P_is_within (spWithinX K) := ok_is_within T
  have G_InvalidLengths___init__ : FnOk P w K mg base CX0 1 a.InvalidLengths___init__ d.InvalidLengths___init__ P_InvalidLengths___init__ (spErr a.c_InvalidLengths "index") := ok_err_lengths T
  refine T.f_check_lengths.okX sc_check_lengths (fun vs H Q E h => ?_) (fun cdv A outer s H vs Q E hr h => ?_)
  · obtain ⟨v, lo, hi, k, r, rfl, _⟩ := h
    rfl
  · obtain ⟨v, lo, hi, k, r, rfl, hq, q, qx⟩ := h
    refine ⟨_, (pss_cons (ps_if (PW.pt (pw_or (pt_not (pt_val (pe_callB call_isiT (by rfl) T.z_isinstance (by decide +kernel) (pa_cons (pv 0) (pa_cons (pe_tup (pa_cons (pe_bltn (v := .ty "list") (u := .type "list") (by rfl) T.z_list (by decide +kernel) rfl) (pa_cons (pe_bltn (v := .ty "tuple") (u := .type "tuple") (by rfl) T.z_tuple (by decide +kernel) rfl) pa_nil))) pa_nil))))) (pw_or1 (pt_not (pt_chain op_le op_le (pv 1) (pe_callB call_len_seq (by rfl) T.z_len PySem.boot_len (pa_cons (pv 0) pa_nil)) (pv 2)))))) (pss_one (ps_raise rfl (takes_of rfl rfl rfl rfl) (pmk_oex T.x_InvalidLengths.ox T.x_InvalidLengths.ii T.x_InvalidLengths.ti G_InvalidLengths___init__ (hr.mono (by decide)) T.b_InvalidLengths___init__ .nil pass0 (by rfl) T.x_InvalidLengths.g (pa_cons (pe_un un_neg pe_int) pa_nil)))) pss_nil)
    (pss_one (ps_for (passes_of rfl) rfl (pi_enumA (by rfl) T.z_enumerate (pa_cons (pv 0) pa_nil)) (pg_tup rfl (pgs_cons (pg_name (i := 4) sc_check_lengths.nd rfl (Or.inl rfl)) (pgs_cons (pg_name (i := 5) sc_check_lengths.nd rfl (Or.inl rfl)) pgs_nil)))
      (pss_one (ps_if (pt_not (pt_val (pe_call G_is_within (hr.mono (by decide)) (by rfl) T.g_is_within T.k_is_within T.b_is_within .nil pass0 (pa_cons (pv 5) (pa_cons pe_int (pa_cons (pv 3) pa_nil)))))) (pss_one (ps_raise rfl (takes_of rfl rfl rfl rfl) (pmk_oex T.x_InvalidLengths.ox T.x_InvalidLengths.ii T.x_InvalidLengths.ti G_InvalidLengths___init__ (hr.mono (by decide)) T.b_InvalidLengths___init__ .nil pass0 (by rfl) T.x_InvalidLengths.g (pa_cons (pv 4) pa_nil)))) pss_nil))))), ?_⟩
    refine ⟨_, rfl, by show 2 ≤ sizeLine; decide, fun tp htp => ?_⟩
    have s1 : Same H (upd H tp (.tup [.ty "list", .ty "tuple"])) := same_upd htp
    have hT : upd H tp (.tup [.ty "list", .ty "tuple"]) tp = some (.tup [.ty "list", .ty "tuple"]) := upd_same
    generalize upd H tp (.tup [.ty "list", .ty "tuple"]) = H1 at s1 hT ⊢
    have cs : Paired ClsV [.ty "list", .ty "tuple"] [.type "list", .type "tuple"] := .cons (.ty _) (.cons (.ty _) .nil)
    have RR : ∀ {i : Int}, r = some i → Rz E H1 a.c_InvalidLengths "index" (.int i) := fun h => (qx _ h).same s1
    rcases hq.go with ⟨Tn, h, n1, n2, er⟩ | ⟨p, xs, rfl, hR, hl, er⟩ | ⟨p, xs, rfl, hR, hl, good, hb⟩
    · have zz := RR er
      refine ⟨v, tp, _, _, _, false, rfl, hT, cs, (h.same s1).ty, kit_lt h n1 n2, false, rfl, iteT ?_⟩
      exact ⟨_, rfl, by show 1 ≤ 1000; decide, fun e heN => ⟨e, _, rfl, upd_same, fun dx hdx ne => ⟨rfl, dx, [("index", .int (-1))], upd_same, by rw [upd_ne ne, upd_same], by rw [upd_ne ne] at hdx; exact hdx, (zz) dx _ (fun b o h => by
          rw [upd_ne ne] at hdx
          have nbd : b ≠ dx := ne_of_none h hdx
          have nbe : b ≠ e := ne_of_none h heN
          rw [upd_ne nbd, del_ne nbe, upd_ne nbe, upd_ne nbd, upd_ne nbe]
          exact h) (by rw [upd_ne ne] at hdx; exact hdx) upd_same⟩⟩⟩
    · have zz := RR er
      have hR1 := hR.same s1
      obtain ⟨t, hty, hkit⟩ := kit_row (K := K) hR1
      have hS : SqL K H1 p xs ∨ SqT K H1 p xs := hR1.imp L2.sq_of L2.st_of
      refine ⟨.ref p, tp, _, t, _, true, rfl, hT, cs, hty, hkit, true, rfl, iteF ?_⟩
      refine ⟨_, rfl, _, rfl, p, _, rfl, hS, _, _, rfl, rfl, decide (lo ≤ (xs.length : Int)), rfl, ?_⟩
      by_cases c : lo ≤ (xs.length : Int)
      · rw [decide_eq_true c]
        refine iteT ⟨_, rfl, _, _, rfl, rfl, false, congrArg V.bl (decide_eq_false fun z => hl ⟨c, z⟩), iteT ?_⟩
        exact ⟨_, rfl, by show 1 ≤ 1000; decide, fun e heN => ⟨e, _, rfl, upd_same, fun dx hdx ne => ⟨rfl, dx, [("index", .int (-1))], upd_same, by rw [upd_ne ne, upd_same], by rw [upd_ne ne] at hdx; exact hdx, (zz) dx _ (fun b o h => by
          rw [upd_ne ne] at hdx
          have nbd : b ≠ dx := ne_of_none h hdx
          have nbe : b ≠ e := ne_of_none h heN
          rw [upd_ne nbd, del_ne nbe, upd_ne nbe, upd_ne nbd, upd_ne nbe]
          exact h) (by rw [upd_ne ne] at hdx; exact hdx) upd_same⟩⟩⟩
      · rw [decide_eq_false c]
        refine iteF ⟨false, rfl, iteT ?_⟩
        exact ⟨_, rfl, by show 1 ≤ 1000; decide, fun e heN => ⟨e, _, rfl, upd_same, fun dx hdx ne => ⟨rfl, dx, [("index", .int (-1))], upd_same, by rw [upd_ne ne, upd_same], by rw [upd_ne ne] at hdx; exact hdx, (zz) dx _ (fun b o h => by
          rw [upd_ne ne] at hdx
          have nbd : b ≠ dx := ne_of_none h hdx
          have nbe : b ≠ e := ne_of_none h heN
          rw [upd_ne nbd, del_ne nbe, upd_ne nbe, upd_ne nbd, upd_ne nbe]
          exact h) (by rw [upd_ne ne] at hdx; exact hdx) upd_same⟩⟩⟩
    · have hR1 := hR.same s1
      obtain ⟨t, hty, hkit⟩ := kit_row (K := K) hR1
      have hS : SqL K H1 p xs ∨ SqT K H1 p xs := hR1.imp L2.sq_of L2.st_of
      refine ⟨.ref p, tp, _, t, _, true, rfl, hT, cs, hty, hkit, true, rfl, iteF ?_⟩
      refine ⟨_, rfl, _, rfl, p, _, rfl, hS, _, _, rfl, rfl, true, congrArg V.bl (decide_eq_true hl.1), iteT ⟨_, rfl, _, _, rfl, rfl, true, congrArg V.bl (decide_eq_true hl.2), iteF ?_⟩⟩
      have turn : ∀ (i : Nat) (y : V) (H2 : Hp), xs[i]? = some y → Same H1 H2 → (∀ z, r = some z → (i : Int) ≤ z) → ((okLen k H2 y true ∧ ∀ z, r = some z → ((i + 1 : Nat) : Int) ≤ z) ∨ (okLen k H2 y false ∧ Rz E H2 a.c_InvalidLengths "index" (.int (i : Int)))) := fun i y H2 hy sm up => by
        rcases good i y hy up with ⟨h1, h2⟩ | ⟨h1, h2⟩
        · refine .inl ⟨h1.ext (.of (s1.trans sm)), fun z hz => ?_⟩
          have := up z hz
          have : z ≠ (i : Int) := fun e => h2 (by rw [hz, e])
          omega
        · exact .inr ⟨h1.ext (.of (s1.trans sm)), (RR h2).same sm⟩
      have fin : ∀ H', Same H1 H' → (∀ z, r = some z → (xs.length : Int) ≤ z) → Q .non H' := fun H' sm up => by
        refine q ?_ H' (s1.trans sm)
        cases er : r with
        | none => rfl
        | some z =>
          have := hb z er
          have := up z er
          omega
      refine ⟨_, rfl, p, xs, rfl, hS.imp (fun hs => ⟨hs, ?_⟩) (fun hs => ⟨hs, ?_⟩)⟩
      · refine for_iteL (K := K) (a := p) (xs := xs) (fun i σ H' => (∃ u v, σ = [some (.ref p), some (.int lo), some (.int hi), some (hiV k), u, v]) ∧ Same H1 H' ∧ ∀ z, r = some z → (i : Int) ≤ z) ⟨⟨_, _, rfl⟩, Same.refl _, fun z hz => (hb z hz).1⟩ (fun i σ H' _ h => h.2.1.seq hs) ?_ (fun σ H' h => fin H' h.2.1 h.2.2)
        rintro i y σ H2 Tp hy ⟨⟨u, v, rfl⟩, sm, up⟩ hn
        have sm2 := sm.trans (same_upd (o := .tup [.int (i : Int), y]) hn)
        have hTp : upd H2 Tp (.tup [.int (i : Int), y]) Tp = some (.tup [.int (i : Int), y]) := upd_same
        refine ⟨Tp, _, rfl, L2.st_of hTp, rfl, _, _, rfl, _, _, rfl, rfl, ?_⟩
        generalize upd H2 Tp (.tup [.int (i : Int), y]) = H3 at sm2
        rcases turn i y _ hy sm2 up with ⟨⟨Ty, h1, h2⟩, up2⟩ | ⟨⟨Ty, h1, h2⟩, zz⟩
        · exact ⟨_, rfl, _, rfl, y, 1, hiV k, true, rfl, by rw [h2]; exact h1.inB 1 k, true, rfl, iteF ⟨⟨_, _, rfl⟩, sm2, up2⟩⟩
        · exact ⟨_, rfl, _, rfl, y, 1, hiV k, false, rfl, by rw [h2]; exact h1.inB 1 k, false, rfl, iteT ⟨_, rfl, by show 1 ≤ 1000; decide, fun e heN => ⟨e, _, rfl, upd_same, fun dx hdx ne => ⟨rfl, dx, [("index", .int (i : Int))], upd_same, by rw [upd_ne ne, upd_same], by rw [upd_ne ne] at hdx; exact hdx, (zz) dx _ (fun b o h => by
          rw [upd_ne ne] at hdx
          have nbd : b ≠ dx := ne_of_none h hdx
          have nbe : b ≠ e := ne_of_none h heN
          rw [upd_ne nbd, del_ne nbe, upd_ne nbe, upd_ne nbd, upd_ne nbe]
          exact h) (by rw [upd_ne ne] at hdx; exact hdx) upd_same⟩⟩⟩⟩
      · refine for_iteT (K := K) (a := p) (xs := xs) (fun i σ H' => (∃ u v, σ = [some (.ref p), some (.int lo), some (.int hi), some (hiV k), u, v]) ∧ Same H1 H' ∧ ∀ z, r = some z → (i : Int) ≤ z) ⟨⟨_, _, rfl⟩, Same.refl _, fun z hz => (hb z hz).1⟩ (fun i σ H' _ h => Same.tupS h.2.1 hs) ?_ (fun σ H' h => fin H' h.2.1 h.2.2)
        rintro i y σ H2 Tp hy ⟨⟨u, v, rfl⟩, sm, up⟩ hn
        have sm2 := sm.trans (same_upd (o := .tup [.int (i : Int), y]) hn)
        have hTp : upd H2 Tp (.tup [.int (i : Int), y]) Tp = some (.tup [.int (i : Int), y]) := upd_same
        refine ⟨Tp, _, rfl, L2.st_of hTp, rfl, _, _, rfl, _, _, rfl, rfl, ?_⟩
        generalize upd H2 Tp (.tup [.int (i : Int), y]) = H3 at sm2
        rcases turn i y _ hy sm2 up with ⟨⟨Ty, h1, h2⟩, up2⟩ | ⟨⟨Ty, h1, h2⟩, zz⟩
        · exact ⟨_, rfl, _, rfl, y, 1, hiV k, true, rfl, by rw [h2]; exact h1.inB 1 k, true, rfl, iteF ⟨⟨_, _, rfl⟩, sm2, up2⟩⟩
        · exact ⟨_, rfl, _, rfl, y, 1, hiV k, false, rfl, by rw [h2]; exact h1.inB 1 k, false, rfl, iteT ⟨_, rfl, by show 1 ≤ 1000; decide, fun e heN => ⟨e, _, rfl, upd_same, fun dx hdx ne => ⟨rfl, dx, [("index", .int (i : Int))], upd_same, by rw [upd_ne ne, upd_same], by rw [upd_ne ne] at hdx; exact hdx, (zz) dx _ (fun b o h => by
          rw [upd_ne ne] at hdx
          have nbd : b ≠ dx := ne_of_none h hdx
          have nbe : b ≠ e := ne_of_none h heN
          rw [upd_ne nbd, del_ne nbe, upd_ne nbe, upd_ne nbd, upd_ne nbe]
          exact h) (by rw [upd_ne ne] at hdx; exact hdx) upd_same⟩⟩⟩⟩
end

/-- the errors that the law tells apart -/
abbrev EL (a : Ad) : List (Addr × Str × Str) := [(a.c_InvalidNumber, "name", "number"), (a.c_InvalidLengths, "index", "lengths")]
section
variable {P : Program} {w : World} {K : PySem.W.Frag} {mg : Str → Option Value} {base : Heap} {a : Ad} {d : Fd}
theorem gives_error {k : Nat} (T : Txt K mg a d) : GivesTo1 P w K mg base k N_error "_law_error" (defScope s_error) a.error (defBody s_error) "ask" (TTerr (EL a) .non) := by
  intro cdg A outer f L s H Q tl hr act hL h
  refine ⟨_, (pss_cons (ps_try_row rfl rfl takes0 (fun W pn xe tk _ => (pss_one (ps_expr (act W pn xe _ _ tk)))) (.named (i := 1) sc_error.nd rfl rfl ⟨rfl, by decide, Or.inl T.x_InvalidNumber.g⟩ (fun a1 oe cls d pn hz hf => (pss_one (ps_ret (pe_tup (pa_cons pe_str (pa_cons (pe_xf T.x_InvalidNumber.xf T.x_InvalidNumber.no hz hf (pv 1)) pa_nil)))))) (.named (i := 1) sc_error.nd rfl rfl ⟨rfl, by decide, Or.inl T.x_InvalidLengths.g⟩ (fun a1 oe cls d pn hz hf => (pss_one (ps_ret (pe_tup (pa_cons pe_str (pa_cons (pe_xf T.x_InvalidLengths.xf T.x_InvalidLengths.no hz hf (pv 1)) pa_nil)))))) (.plain ⟨rfl, by decide, Or.inl T.xb.g⟩ (fun a1 oe cls d pn hz hf => (pss_one (ps_ret (pe_tup (pa_cons pe_str (pa_cons pe_non pa_nil)))))) .nil))))
    (pss_one (ps_ret pe_non))), ?_⟩
  refine ⟨rfl, hL, EErr (EL a) Q, fun cls d H' hE => ?_, h⟩
  obtain ⟨dx, C, fl, w1, v, rfl, hm, rfl, hx, q⟩ := hE
  rcases List.mem_cons.mp hm with hm | hm
  · cases hm
    exact ⟨true, T.s_InvalidNumber_InvalidNumber.exm, fun _ a1 ha1 => ⟨_, rfl, rfl, rfl, dx, _, v, rfl, hx, rfl, by show 2 ≤ sizeLine; decide, fun t ht => q t _ (same_upd ht) upd_same⟩, fun z => nomatch z⟩
  cases List.mem_singleton.mp hm
  exact ⟨false, T.s_InvalidLengths_InvalidNumber.exm, (fun z => nomatch z), fun _ => ⟨true, T.s_InvalidLengths_InvalidLengths.exm, fun _ a1 ha1 => ⟨_, rfl, rfl, rfl, dx, _, v, rfl, hx, rfl, by show 2 ≤ sizeLine; decide, fun t ht => q t _ (same_upd ht) upd_same⟩, fun z => nomatch z⟩⟩
end

end K78

namespace K78
open PySem PySem.Spec PyProof.Rows L2 LamX
theorem inR_less {lo hi hi2 : Int} {v : V} (h : inR lo (some hi) v = false) (le : hi2 ≤ hi) : inR lo (some hi2) v = false := by
  cases e : inR lo (some hi2) v with
  | false => rfl
  | true =>
    obtain ⟨i, rfl, h1, h2⟩ := inR_int e
    rw [inR_yes h1 (Int.le_trans (h2 _ rfl) le)] at h
    cases h
/-- a number of items that is checked -/
def spManyX (C : Addr) (hi : Int) (G : V → Hp → VK → Prop) : Sp := fun vs H Q E => ∃ many T, vs = [many] ∧ AnyV H many T ∧ ((inR 0 (some hi) many = false ∧ Rz E H C "name" (.str "many")) ∨ (inR 0 (some hi) many = true ∧ G many H Q))
def spInitStk (C : Addr) : Sp := fun vs H Q _ => ∃ (x dx : Addr), vs = [.ref x, .int 0] ∧ H x = some (.ins C dx []) ∧ ∀ H', (∀ b o, b ≠ x → H b = some o → H' b = some o) → Q .non H'
def spInitSort (C : Addr) : Sp := fun vs H Q _ => ∃ (x dx : Addr), vs = [.ref x, .int 0, .bl false] ∧ H x = some (.ins C dx []) ∧ ∀ H' lg dx kvs, (∀ b o, b ≠ x → H b = some o → H' b = some o) → H' x = some (.ins C dx kvs) → kvs.lookup ("waiting" : Str) = some .non → kvs.lookup ("log" : Str) = some (.ref lg) → H' lg = some (.lst []) → Q .non H'
def spAsk0 (C : Addr) : Sp := fun vs H Q _ => ∃ (x dx : Addr) (kvs : List (Str × V)) (y : V), vs = [.ref x, y] ∧ H x = some (.ins C dx kvs) ∧ kvs.lookup ("waiting" : Str) = some .non ∧ ∀ p H', Same H H' → Q (.ref p) H'
def spLeast0 : Sp := fun vs H Q _ => vs = [.int 0] ∧ Q (.int 0) H
def spShapes0 : Sp := fun vs H Q _ => vs = [.int 0] ∧ ∀ p q H', Same H H' → H p = none → H' p = some (.lst [.ref q]) → H' q = some (.lst []) → Q (.ref p) H'
def spNoF : Sp := fun _ _ _ _ => False
theorem sfree {H H' : Hp} {b : Addr} (s : Same H H') (h : H' b = none) : H b = none := by
  cases q : H b with
  | none => rfl
  | some o => rw [s _ _ q] at h; cases h
theorem fr_of {x : Addr} {H H' : Hp} (h : ∀ b o, b ≠ x → H b = some o → H' b = some o) {p : Addr} {v : HO} (n : p ≠ x) (e : H p = some v) : H' p = some v := h _ _ n e
section
variable {P : Program} {w : World} {K : PySem.W.Frag} {mg : Str → Option Value} {base : Heap} {a : Ad} {d : Fd}
theorem ok_check_many (T : Txt K mg a d) : FnOk P w K mg base (L2.CX P w) 4 a.check_many d.check_many P_check_many (spManyX a.c_InvalidNumber 63 (fun _ H Q => Q .non H)) := by
  have G_check_number : FnOk P w K mg base (L2.CX P w) 3 a.check_number d.check_number P_check_number (spCheckNumberX K a.c_InvalidNumber) := ok_check_number T
  refine T.f_check_many.okX sc_check_many (fun vs H Q E h => ?_) (fun cdv A outer s H vs Q E hr h => ?_)
  · obtain ⟨many, Tn, rfl, _⟩ := h
    rfl
  · obtain ⟨many, Tn, rfl, hm, h⟩ := h
    refine ⟨_, (pss_one (ps_expr (pe_callS G_check_number (hr.mono (by decide)) (by rfl) T.g_check_number T.k_check_number T.b_check_number (fun σ => passAt (takes_of rfl rfl rfl rfl) σ) (pa_cons pe_str (pa_cons (pv 0) (pa_cons pe_int (pa_cons (pe_glob (v := .int 63) rfl T.g_MOST_ITEMS ⟨_, rfl⟩) pa_nil))))))), ?_⟩
    refine ⟨_, rfl, "many", many, 0, .int 63, inR 0 (some 63) many, rfl, hm.inB 0 (some 63), fun e => ?_, fun e => ?_⟩
    · rcases h with ⟨h, _⟩ | ⟨_, h⟩
      · rw [h] at e; cases e
      · exact h
    · rcases h with ⟨_, h⟩ | ⟨h, _⟩
      · exact h
      · rw [h] at e; cases e
theorem ok_fewest (T : Txt K mg a d) : FnOk P w K mg base (L2.CX P w) 5 a.fewest d.fewest P_fewest (spManyX a.c_InvalidNumber 63 (fun v H Q => v = .int 63 ∧ Q (.int 62) H)) := by
  have G_check_many : FnOk P w K mg base (L2.CX P w) 4 a.check_many d.check_many P_check_many (spManyX a.c_InvalidNumber 63 (fun _ H Q => Q .non H)) := ok_check_many T
  refine T.f_fewest.okX sc_fewest (fun vs H Q E h => ?_) (fun cdv A outer s H vs Q E hr h => ?_)
  · obtain ⟨many, Tn, rfl, _⟩ := h
    rfl
  · obtain ⟨many, Tn, rfl, hm, h⟩ := h
    refine ⟨_, (pss_cons (ps_expr (pe_callS G_check_many (hr.mono (by decide)) (by rfl) T.g_check_many T.k_check_many T.b_check_many (fun σ => passAt (takes_of rfl rfl rfl rfl) σ) (pa_cons (pv 0) pa_nil)))
    (pss_one (ps_ret (pe_callB (call_max2 rfl) (by rfl) T.z_max (by decide +kernel) (pa_cons (pe_op op_sub (pv 0) pe_int) (pa_cons pe_int pa_nil)))))), ?_⟩
    rcases h with h | ⟨h1, rfl, q⟩
    · exact ⟨_, rfl, many, Tn, rfl, hm, .inl h⟩
    · refine ⟨_, rfl, _, Tn, rfl, hm, .inr ⟨h1, ?_⟩⟩
      exact ⟨_, rfl, _, _, rfl, rfl, _, _, rfl, q⟩
theorem ok_most (T : Txt K mg a d) : FnOk P w K mg base (L2.CX P w) 5 a.most d.most P_most (spManyX a.c_InvalidNumber 63 (fun _ _ _ => False)) := by
  have G_check_many : FnOk P w K mg base (L2.CX P w) 4 a.check_many d.check_many P_check_many (spManyX a.c_InvalidNumber 63 (fun _ H Q => Q .non H)) := ok_check_many T
  refine T.f_most.okX sc_most (fun vs H Q E h => ?_) (fun cdv A outer s H vs Q E hr h => ?_)
  · obtain ⟨many, Tn, rfl, _⟩ := h
    rfl
  · obtain ⟨many, Tn, rfl, hm, h⟩ := h
    refine ⟨_, (pss_cons (ps_expr (pe_callS G_check_many (hr.mono (by decide)) (by rfl) T.g_check_many T.k_check_many T.b_check_many (fun σ => passAt (takes_of rfl rfl rfl rfl) σ) (pa_cons (pv 0) pa_nil)))
    (pss_cons ps_never
    (pss_one ps_never))), ?_⟩
    rcases h with h | ⟨_, h⟩
    · exact ⟨_, rfl, many, Tn, rfl, hm, .inl h⟩
    · exact h.elim
theorem ok_fewest_keys (T : Txt K mg a d) : FnOk P w K mg base (L2.CX P w) 5 a.fewest_keys d.fewest_keys P_fewest_keys (spManyX a.c_InvalidNumber 63 (fun _ _ _ => False)) := by
  have G_check_many : FnOk P w K mg base (L2.CX P w) 4 a.check_many d.check_many P_check_many (spManyX a.c_InvalidNumber 63 (fun _ H Q => Q .non H)) := ok_check_many T
  refine T.f_fewest_keys.okX sc_fewest_keys (fun vs H Q E h => ?_) (fun cdv A outer s H vs Q E hr h => ?_)
  · obtain ⟨many, Tn, rfl, _⟩ := h
    rfl
  · obtain ⟨many, Tn, rfl, hm, h⟩ := h
    refine ⟨_, (pss_cons (ps_expr (pe_callS G_check_many (hr.mono (by decide)) (by rfl) T.g_check_many T.k_check_many T.b_check_many (fun σ => passAt (takes_of rfl rfl rfl rfl) σ) (pa_cons (pv 0) pa_nil)))
    (pss_one (ps_ret (pe_listRg (by rfl) (by rfl) T.z_list (prg_1 (by rfl) T.z_range (pv 0)))))), ?_⟩
    rcases h with h | ⟨_, h⟩
    · exact ⟨_, rfl, many, Tn, rfl, hm, .inl h⟩
    · exact h.elim
theorem ok_sum_of (T : Txt K mg a d) : FnOk P w K mg base (L2.CX P w) 5 a.sum_of d.sum_of P_sum_of (spManyX a.c_InvalidNumber 63 (fun _ _ _ => False)) := by
  have G_check_many : FnOk P w K mg base (L2.CX P w) 4 a.check_many d.check_many P_check_many (spManyX a.c_InvalidNumber 63 (fun _ H Q => Q .non H)) := ok_check_many T
  refine T.f_sum_of.okX sc_sum_of (fun vs H Q E h => ?_) (fun cdv A outer s H vs Q E hr h => ?_)
  · obtain ⟨many, Tn, rfl, _⟩ := h
    rfl
  · obtain ⟨many, Tn, rfl, hm, h⟩ := h
    refine ⟨_, (pss_cons (ps_expr (pe_callS G_check_many (hr.mono (by decide)) (by rfl) T.g_check_many T.k_check_many T.b_check_many (fun σ => passAt (takes_of rfl rfl rfl rfl) σ) (pa_cons (pv 0) pa_nil)))
    (pss_one ps_never)), ?_⟩
    rcases h with h | ⟨_, h⟩
    · exact ⟨_, rfl, many, Tn, rfl, hm, .inl h⟩
    · exact h.elim
def mk78 : List V := [V.int 2, V.int 0, V.int 1] ++ ((List.range 60).map fun i : Nat => V.int (-(3 + (i : Int))))
theorem mk78_len : (cutV (mk78 ++ []) none (some 63)).length = 63 := by decide +kernel
theorem ok_most_keys (T : Txt K mg a d) : FnOk P w K mg base (L2.CX P w) 5 a.most_keys d.most_keys P_most_keys (spManyX a.c_InvalidNumber 63 (fun v H Q => v = .int 63 ∧ ∀ p xs H', Same H H' → H' p = some (.lst xs) → xs.length = 63 → Q (.ref p) H')) := by
  have G_check_many : FnOk P w K mg base (L2.CX P w) 4 a.check_many d.check_many P_check_many (spManyX a.c_InvalidNumber 63 (fun _ H Q => Q .non H)) := ok_check_many T
  refine T.f_most_keys.okX sc_most_keys (fun vs H Q E h => ?_) (fun cdv A outer s H vs Q E hr h => ?_)
  · obtain ⟨many, Tn, rfl, _⟩ := h
    rfl
  · obtain ⟨many, Tn, rfl, hm, h⟩ := h
    refine ⟨_, (pss_cons (ps_expr (pe_callS G_check_many (hr.mono (by decide)) (by rfl) T.g_check_many T.k_check_many T.b_check_many (fun σ => passAt (takes_of rfl rfl rfl rfl) σ) (pa_cons (pv 0) pa_nil)))
    (pss_one (ps_ret (pe_slice sl_list (pe_lst (pa_cons pe_int (pa_cons pe_int (pa_cons pe_int (StX.pa_star (pe_lc (own := [("index", 1)]) (g := gName 1) (tt := tYes) rfl sc_most_keys.nd (pi_range2 (by rfl) T.z_range (pa_cons pe_int (pa_cons (pv 0) pa_nil))) (blkOk_by (N := N_most_keys) (sc := defScope s_most_keys) (by decide +kernel)) (fun _ _ _ _ _ => pg_name (i := 1) sc_most_keys.nd rfl (Or.inl rfl)) (fun _ _ _ _ _ => pts_nil) (fun _ _ _ _ _ => (pe_un un_neg (pv 1)))) pa_nil))))) po_none (po_some (pv 0)))))), ?_⟩
    rcases h with h | ⟨h1, rfl, q⟩
    · exact ⟨_, rfl, many, Tn, rfl, hm, .inl h⟩
    · refine ⟨_, rfl, _, Tn, rfl, hm, .inr ⟨h1, ?_⟩⟩
      refine ⟨_, rfl, 3, 63, rfl, by decide, fun D hD => ?_⟩
      refine lc_range (lo := 3) (n := ((63 : Int) - 3).toNat) (fun i H' => Same H H' ∧ H' D = some (.lst ((List.range i).map fun i : Nat => V.int (-(3 + (i : Int)))))) ⟨same_upd hD, upd_same⟩ ?_ ?_
      · rintro i H2 hi ⟨sm, h2⟩
        refine ⟨rfl, _, rfl, _, rfl, _, h2, ?_, ?_, ?_⟩
        · rw [List.length_map, List.length_range]
          exact Nat.lt_of_lt_of_le (show i < 60 from hi) (by decide)
        · exact fun b o h => by rw [upd_ne (ne_of_none h hD)]; exact sm _ _ h
        · rw [List.range_succ, List.map_append]
          exact upd_same
      · rintro H2 ⟨sm, h2⟩
        refine ⟨D, _, rfl, .inr (L2.sq_of h2), ?_⟩
        refine ⟨by show 63 ≤ sizeLine; decide, fun l hl => ?_⟩
        refine ⟨_, rfl, 63, rfl, l, _, rfl, L2.sq_of upd_same, fun p hp => ?_⟩
        exact q p _ _ (sm.trans ((same_upd hl).trans (same_upd hp))) upd_same mk78_len
theorem ok_stk (T : Txt K mg a d) : FnOk P w K mg base CX0 1 a.PieceStack___init__ d.PieceStack___init__ P_PieceStack___init__ (spInitStk a.c_PieceStack) := by
  refine T.f_PieceStack___init__.ok sc_PieceStack___init__ (fun vs H Q E h => ?_) (fun cdv A outer s0 H vs Q E hr h => ?_)
  · obtain ⟨x, dx, rfl, _⟩ := h
    rfl
  · obtain ⟨x, dx, rfl, hx, q⟩ := h
    refine ⟨_, (pss_cons (ps_fld (pv 0) (pv 1) rfl)
    (pss_one (ps_fld (pv 0) (pe_lst pa_nil) rfl))), ?_⟩
    refine ⟨_, rfl, _, rfl, x, a.c_PieceStack, dx, _, rfl, hx, T.cl_PieceStack, T.n_whole, by show 0 < 1000; decide, ?_⟩
    refine ⟨Nat.zero_le _, fun r hr0 => ⟨_, rfl, x, a.c_PieceStack, dx, [("whole", .int 0)], rfl, same_upd hr0 _ _ upd_same, T.cl_PieceStack, T.n_piled, by show 1 < 1000; decide, ?_⟩⟩
    refine q _ fun b o n h => ?_
    rw [upd_ne n]
    refine same_upd hr0 _ _ ?_
    rw [upd_ne n]
    exact h
theorem ok_least0 (T : Txt K mg a d) : FnOk P w K mg base CX0 4 a.least_length d.least_length P_least_length spLeast0 := by
  have G_check_number : FnOk P w K mg base (L2.CX P w) 3 a.check_number d.check_number P_check_number (spCheckNumberX K a.c_InvalidNumber) := ok_check_number T
  refine T.f_least_length.ok sc_least_length (fun vs H Q E h => ?_) (fun cdv A outer s H vs Q E hr h => ?_)
  · obtain ⟨rfl, _⟩ := h
    rfl
  · obtain ⟨rfl, q⟩ := h
    refine ⟨_, (pss_cons (ps_expr (pe_call G_check_number (hr.mono (by decide)) (by rfl) T.g_check_number T.k_check_number T.b_check_number .nil passL (pa_cons pe_str (pa_cons (pv 0) (pa_cons pe_int (pa_cons (pe_glob (v := .int 1000000000000000000000000000000) rfl T.g_GREATEST_ROW ⟨_, rfl⟩) pa_nil))))))
    (pss_cons (ps_set (i := 1) sc_least_length.nd rfl (Or.inl rfl) pe_int)
    (pss_cons (ps_while PassesOwn.never (pt_cmpR op_ge (pv 0) (pe_glob (v := .int 64) rfl T.g_LEAST_HALVED ⟨_, rfl⟩) (nomark _))
      (pss_cons ps_never
        (pss_one ps_never)))
    (pss_one (ps_ret (pe_op op_add (pv 0) (pv 1))))))), ?_⟩
    refine ⟨_, rfl, "many", .int 0, 0, .int 1000000000000000000000000000000, true, rfl, (AnyV.int (H := H) 0).inB 0 (some 1000000000000000000000000000000), fun _ => ?_, fun z => nomatch z⟩
    refine ⟨fun m σ H' => σ = [some (.int 0), some (.int 0)] ∧ H' = H, ⟨0, rfl, rfl⟩, ?_⟩
    rintro m σ _ ⟨rfl, rfl⟩
    refine ⟨_, rfl, _, _, rfl, rfl, false, rfl, iteF ?_⟩
    exact ⟨_, rfl, _, rfl, _, _, rfl, rfl, q⟩
theorem ok_ask0 (T : Txt K mg a d) : FnOk P w K mg base CX0 1 a.ask_honestly d.ask_honestly P_ask_honestly (spAsk0 a.c_ListSort) := by
  refine T.f_ask_honestly.ok sc_ask_honestly (fun vs H Q E h => ?_) (fun cdv A outer s H vs Q E hr h => ?_)
  · obtain ⟨x, dx, kvs, y, rfl, _⟩ := h
    rfl
  · obtain ⟨x, dx, kvs, y, rfl, hx, hw, q⟩ := h
    refine ⟨_, (pss_cons (ps_set (i := 2) sc_ask_honestly.nd rfl (Or.inl rfl) (pe_lst pa_nil))
    (pss_cons (ps_while PassesOwn.never (pt_cmpR op_notN (pe_fld (pv 0) rfl) pe_non (nomark _))
      (pss_cons ps_never
        (pss_cons ps_never
        (pss_one ps_never))))
    (pss_one (ps_ret (pv 2))))), ?_⟩
    refine ⟨Nat.zero_le _, fun l hl => ?_⟩
    refine ⟨fun m σ H' => σ = [some (.ref x), some y, some (.ref l), none, none] ∧ H' = upd H l (.lst []), ⟨0, rfl, rfl⟩, ?_⟩
    rintro m σ _ ⟨rfl, rfl⟩
    refine ⟨_, rfl, x, a.c_ListSort, dx, _, _, rfl, same_upd hl _ _ hx, T.cl_ListSort, T.n_waiting, hw, rfl, ?_⟩
    refine ⟨false, rfl, iteF ?_⟩
    exact ⟨_, rfl, q l _ (same_upd hl)⟩
theorem ok_shapes0 (T : Txt K mg a d) : FnOk P w K mg base CX0 1 a.all_shapes d.all_shapes P_all_shapes spShapes0 := by
  refine T.f_all_shapes.ok sc_all_shapes (fun vs H Q E h => ?_) (fun cdv A outer s H vs Q E hr h => ?_)
  · obtain ⟨rfl, _⟩ := h
    rfl
  · obtain ⟨rfl, q⟩ := h
    refine ⟨_, (pss_cons (ps_set (i := 1) sc_all_shapes.nd rfl (Or.inl rfl) (pe_lst (pa_cons (pe_lst pa_nil) pa_nil)))
    (pss_cons (ps_for PassesOwn.never rfl (pi_range1 (by rfl) T.z_range (pa_cons (pv 0) pa_nil)) (pg_name (i := 2) sc_all_shapes.nd rfl (Or.inl rfl))
      (pss_one ps_never))
    (pss_one (ps_ret (pv 1))))), ?_⟩
    refine ⟨Nat.zero_le _, fun q1 hq1 => ⟨by show 1 ≤ sizeLine; decide, fun p hp => ?_⟩⟩
    refine ⟨_, rfl, 0, rfl, by decide, by decide, ?_⟩
    refine for_range (lo := 0) (n := 0) (fun i σ H' => (∃ u v w, σ = [some (.int 0), some (.ref p), u, v, w]) ∧ H' = upd (upd H q1 (.lst [])) p (.lst [.ref q1])) ⟨⟨_, _, _, rfl⟩, rfl⟩ (fun i σ H' hi _ => absurd hi (Nat.not_lt_zero _)) ?_
    rintro σ _ ⟨⟨u, v, w, rfl⟩, rfl⟩
    refine ⟨_, rfl, q p q1 _ ((same_upd hq1).trans (same_upd hp)) ?_ upd_same ?_⟩
    · exact sfree (same_upd (o := .lst []) hq1) hp
    · exact same_upd hp _ _ upd_same
end

end K78

namespace K78
open PySem PySem.Spec PyProof.Rows L2 LamX
def GSpread : V → Hp → VK → Prop := fun v H Q => v = .int 0 ∧ ∀ p t H', Same H H' → H' p = some (.lst [.ref t]) → H' t = some (.tup [.int 0, .int 1]) → Q (.ref p) H'
/-- all but x stays -/
def But (x : Addr) (H H' : Hp) : Prop := ∀ b o, b ≠ x → H b = some o → H' b = some o
theorem But.put {x : Addr} {H : Hp} {o : HO} : But x H (upd H x o) := fun b o n h => by rw [upd_ne n]; exact h
theorem But.new {x p : Addr} {H : Hp} {o : HO} (hp : H p = none) : But x H (upd H p o) := fun b o _ h => by rw [upd_ne (ne_of_none h hp)]; exact h
theorem But.trans {x : Addr} {H H1 H2 : Hp} (a : But x H H1) (b : But x H1 H2) : But x H H2 := fun y o n h => b y o n (a y o n h)
theorem But.refl {x : Addr} {H : Hp} : But x H H := fun _ _ _ h => h
section
variable {P : Program} {w : World} {K : PySem.W.Frag} {mg : Str → Option Value} {base : Heap} {a : Ad} {d : Fd}
theorem ok_initSort (T : Txt K mg a d) : FnOk P w K mg base CX0 5 a.ListSort___init__ d.ListSort___init__ P_ListSort___init__ (spInitSort a.c_ListSort) := by
  have G_least_length : FnOk P w K mg base CX0 4 a.least_length d.least_length P_least_length spLeast0 := ok_least0 T
  have G_PieceStack___init__ : FnOk P w K mg base CX0 1 a.PieceStack___init__ d.PieceStack___init__ P_PieceStack___init__ (spInitStk a.c_PieceStack) := ok_stk T
  refine T.f_ListSort___init__.ok sc_ListSort___init__ (fun vs H Q E h => ?_) (fun cdv A outer s0 H vs Q E hr h => ?_)
  · obtain ⟨x, dx, rfl, _⟩ := h
    rfl
  · obtain ⟨x, dx, rfl, hx, q⟩ := h
    refine ⟨_, (pss_cons (ps_fld (pv 0) (pv 1) rfl)
    (pss_cons (ps_fld (pv 0) (pv 2) rfl)
    (pss_cons (ps_fld (pv 0) (pe_listRg (by rfl) (by rfl) T.z_list (prg_1 (by rfl) T.z_range (pv 1))) rfl)
    (pss_cons (ps_if (pt_val (pv 2)) (pss_one ps_never) pss_nil)
    (pss_cons (ps_fld (pv 0) (pe_call G_least_length (hr.mono (by decide)) (by rfl) T.g_least_length T.k_least_length T.b_least_length .nil pass0 (pa_cons (pv 1) pa_nil)) rfl)
    (pss_cons (ps_fld (pv 0) (pe_make T.mk_PieceStack G_PieceStack___init__ (hr.mono (by decide)) (by rfl) T.g_PieceStack T.b_PieceStack___init__ .nil pass0 (pa_cons (pv 1) pa_nil)) rfl)
    (pss_cons (ps_fld (pv 0) (pe_glob (v := .int 7) rfl T.g_FIRST_PATIENCE ⟨_, rfl⟩) rfl)
    (pss_cons (ps_fld (pv 0) pe_int rfl)
    (pss_cons (ps_fld (pv 0) pe_int rfl)
    (pss_cons (ps_fld (pv 0) pe_int rfl)
    (pss_cons (ps_fld (pv 0) pe_non rfl)
    (pss_cons (ps_fld (pv 0) pe_non rfl)
    (pss_cons (ps_fld (pv 0) (pe_tup (pa_cons pe_str pa_nil)) rfl)
    (pss_cons (ps_fld (pv 0) pe_non rfl)
    (pss_cons (ps_fld (pv 0) (pe_lst pa_nil) rfl)
    (pss_cons (ps_fld (pv 0) (pe_lst pa_nil) rfl)
    (pss_cons (ps_fld (pv 0) (pe_lst pa_nil) rfl)
    (pss_one (ps_if (pt_cmpR op_gt (pv 1) pe_int (nomark _)) (pss_one ps_never) pss_nil))))))))))))))))))), ?_⟩
    have cl := T.cl_ListSort
    refine ⟨_, rfl, _, rfl, x, a.c_ListSort, dx, _, rfl, hx, cl, T.n_many, by show 0 < 1000; decide, ?_⟩
    have B1 : But x H (upd H x (.ins a.c_ListSort dx (putF "many" (.int 0) []))) := .put
    refine ⟨_, rfl, _, rfl, x, a.c_ListSort, dx, _, rfl, upd_same, cl, T.n_turned, by show 1 < 1000; decide, ?_⟩
    refine ⟨_, rfl, 0, rfl, rgOk_nat (n := 0) (by decide), fun r hr0 => ⟨_, rfl, x, a.c_ListSort, dx, _, rfl, same_upd hr0 _ _ upd_same, cl, T.n_row, by show 2 < 1000; decide, ?_⟩⟩
    refine ⟨_, rfl, false, rfl, iteF ?_⟩
    refine ⟨_, rfl, rfl, _, rfl, x, a.c_ListSort, dx, _, rfl, upd_same, cl, T.n_least, by show 3 < 1000; decide, ?_⟩
    refine ⟨_, rfl, fun x2 dx2 hx2 hdx2 ne2 => ⟨x2, dx2, rfl, upd_same, fun H6 fr6 => ⟨rfl, ?_⟩⟩⟩
    have nx2 : x ≠ x2 := fun e => by rw [← e, upd_same] at hx2; cases hx2
    have ndx2 : x ≠ dx2 := fun e => by rw [← e, upd_same] at hdx2; cases hdx2
    refine ⟨_, rfl, x, a.c_ListSort, dx, _, rfl, fr6 _ _ nx2 (by rw [upd_ne nx2, upd_ne ndx2]; exact upd_same), cl, T.n_stack, by show 4 < 1000; decide, ?_⟩
    have B6 : But x H H6 := fun b o n h => by
      have h1 : upd (upd (upd (upd (upd H x (.ins a.c_ListSort dx (putF "many" (.int 0) []))) x (.ins a.c_ListSort dx (putF "turned" (.bl false) (putF "many" (.int 0) [])))) r (.lst (rgV 0 0))) x (.ins a.c_ListSort dx (putF "row" (.ref r) (putF "turned" (.bl false) (putF "many" (.int 0) []))))) x (.ins a.c_ListSort dx (putF "least" (.int 0) (putF "row" (.ref r) (putF "turned" (.bl false) (putF "many" (.int 0) []))))) b = some o := ((((B1.trans .put).trans (.new hr0)).trans .put).trans .put) b o n h
      refine fr6 _ _ (fun e => ?_) ?_
      · rw [e] at h1
        exact absurd (h1.symm.trans hx2) (by simp)
      · rw [upd_ne (fun e => ?_), upd_ne (fun e => ?_)]
        · exact h1
        · rw [e] at h1
          exact absurd (h1.symm.trans hdx2) (by simp)
        · rw [e] at h1
          exact absurd (h1.symm.trans hx2) (by simp)
    clear B1 fr6
    refine ⟨_, rfl, x, a.c_ListSort, dx, _, rfl, upd_same, cl, T.n_patience_between, by show 5 < 1000; decide, ?_⟩
    refine ⟨_, rfl, x, a.c_ListSort, dx, _, rfl, upd_same, cl, T.n_start, by show 6 < 1000; decide, ?_⟩
    refine ⟨_, rfl, x, a.c_ListSort, dx, _, rfl, upd_same, cl, T.n_found, by show 7 < 1000; decide, ?_⟩
    refine ⟨_, rfl, x, a.c_ListSort, dx, _, rfl, upd_same, cl, T.n_length, by show 8 < 1000; decide, ?_⟩
    refine ⟨_, rfl, x, a.c_ListSort, dx, _, rfl, upd_same, cl, T.n_border, by show 9 < 1000; decide, ?_⟩
    refine ⟨_, rfl, x, a.c_ListSort, dx, _, rfl, upd_same, cl, T.n_machine, by show 10 < 1000; decide, ?_⟩
    refine ⟨by show 1 ≤ sizeLine; decide, fun t ht => ⟨_, rfl, x, a.c_ListSort, dx, _, rfl, same_upd ht _ _ upd_same, cl, T.n_work, by show 11 < 1000; decide, ?_⟩⟩
    refine ⟨_, rfl, x, a.c_ListSort, dx, _, rfl, upd_same, cl, T.n_waiting, by show 12 < 1000; decide, ?_⟩
    refine ⟨Nat.zero_le _, fun lg hlg => ⟨_, rfl, x, a.c_ListSort, dx, _, rfl, same_upd hlg _ _ upd_same, cl, T.n_log, by show 13 < 1000; decide, ?_⟩⟩
    have nlg : lg ≠ x := fun e => by rw [e, upd_same] at hlg; cases hlg
    refine ⟨Nat.zero_le _, fun l2 hl2 => ⟨_, rfl, x, a.c_ListSort, dx, _, rfl, same_upd hl2 _ _ upd_same, cl, T.n_steps, by show 14 < 1000; decide, ?_⟩⟩
    refine ⟨Nat.zero_le _, fun l3 hl3 => ⟨_, rfl, x, a.c_ListSort, dx, _, rfl, same_upd hl3 _ _ upd_same, cl, T.n_marks, by show 15 < 1000; decide, ?_⟩⟩
    refine ⟨_, rfl, _, _, rfl, rfl, false, rfl, iteF ?_⟩
    refine q _ lg dx _ ?_ upd_same rfl rfl ?_
    · exact (((((((((((((((B6.trans .put).trans .put).trans .put).trans .put).trans .put).trans .put).trans .put).trans (.new ht)).trans .put).trans .put).trans (.new hlg)).trans .put).trans (.new hl2)).trans .put).trans (.new hl3)).trans .put
    · exact ((((But.put.trans (.new hl2)).trans .put).trans (.new hl3)).trans .put) _ _ nlg upd_same
theorem ok_spread (T : Txt K mg a d) : FnOk P w K mg base (L2.CX P w) 7 a.spread d.spread P_spread (spManyX a.c_InvalidNumber 6 GSpread) := by
  have G_check_number : FnOk P w K mg base (L2.CX P w) 3 a.check_number d.check_number P_check_number (spCheckNumberX K a.c_InvalidNumber) := ok_check_number T
  have G_ListSort___init__ : FnOk P w K mg base CX0 5 a.ListSort___init__ d.ListSort___init__ P_ListSort___init__ (spInitSort a.c_ListSort) := ok_initSort T
  have G_ask_honestly : FnOk P w K mg base CX0 1 a.ask_honestly d.ask_honestly P_ask_honestly (spAsk0 a.c_ListSort) := ok_ask0 T
  have G_all_shapes : FnOk P w K mg base CX0 1 a.all_shapes d.all_shapes P_all_shapes spShapes0 := ok_shapes0 T
  refine T.f_spread.okX sc_spread (fun vs H Q E h => ?_) (fun cdv A outer s0 H vs Q E hr h => ?_)
  · obtain ⟨many, Tn, rfl, _⟩ := h
    rfl
  · obtain ⟨many, Tn, rfl, hm, h⟩ := h
    refine ⟨_, (pss_cons (ps_expr (pe_callS G_check_number (hr.mono (by decide)) (by rfl) T.g_check_number T.k_check_number T.b_check_number (fun σ => passAt (takes_of rfl rfl rfl rfl) σ) (pa_cons pe_str (pa_cons (pv 0) (pa_cons pe_int (pa_cons (pe_glob (v := .int 6) rfl T.g_MOST_SPREAD ⟨_, rfl⟩) pa_nil))))))
    (pss_cons (ps_set (i := 1) sc_spread.nd rfl (Or.inr rfl) pe_dnewK)
    (pss_cons (ps_for (passes_of rfl) rfl (pi_list (pe_call G_all_shapes (hr.mono (by decide)) (by rfl) T.g_all_shapes T.k_all_shapes T.b_all_shapes .nil pass0 (pa_cons (pv 0) pa_nil))) (pg_name (i := 2) sc_spread.nd rfl (Or.inl rfl))
      (pss_cons (ps_set (i := 3) sc_spread.nd rfl (Or.inl rfl) (pe_make T.mk_ListSort G_ListSort___init__ (hr.mono (by decide)) (by rfl) T.g_ListSort T.b_ListSort___init__ .nil pass0 (pa_cons (pv 0) (pa_cons pe_bl pa_nil))))
        (pss_cons (ps_expr (pe_call G_ask_honestly (hr.mono (by decide)) (by rfl) T.g_ask_honestly T.k_ask_honestly T.b_ask_honestly .nil pass0 (pa_cons (pv 3) (pa_cons (pv 2) pa_nil))))
        (pss_cons (ps_set (i := 4) sc_spread.nd rfl (Or.inl rfl) (pe_callB call_len_seq (by rfl) T.z_len PySem.boot_len (pa_cons (pe_fld (pv 3) rfl) pa_nil)))
        (pss_one (ps_dput (hu_of hr) (pv 1) (pv 4) (pe_op op_add (pe_dget2 (hu_of hr) (pv 1) (pv 4) pe_int ⟨rfl, by rfl, by rfl, by rfl⟩) pe_int) rfl))))))
    (pss_one (ps_ret (pe_lc (own := [("count", 4)]) (g := gName 4) (tt := tYes) rfl sc_spread.nd (pi_list (pe_callB (call_sortedDI rfl) (by rfl) T.z_sorted (by decide +kernel) (pa_cons (pv 1) pa_nil))) (blkOk_by (N := N_spread) (sc := defScope s_spread) (by decide +kernel)) (fun _ _ _ _ _ => pg_name (i := 4) sc_spread.nd rfl (Or.inl rfl)) (fun _ _ _ _ _ => pts_nil) (fun _ _ _ _ _ => (pe_tup (pa_cons (pv 4) (pa_cons (pe_dget (hu_of hr) (pv 1) (pv 4) (fun _ _ => rfl)) pa_nil)))))))))), ?_⟩
    refine ⟨_, rfl, "many", many, 0, .int 6, inR 0 (some 6) many, rfl, hm.inB 0 (some 6), fun e => ?_, fun e => ?_⟩
    · rcases h with ⟨h, _⟩ | ⟨_, rfl, q⟩
      · rw [h] at e; cases e
      · intro dc hdc
        have s1 := same_upd (o := .dK []) hdc
        have h1 : upd H dc (.dK []) dc = some (.dK []) := upd_same
        generalize upd H dc (.dK []) = H1 at s1 h1 ⊢
        refine ⟨_, rfl, rfl, fun p q1 H2 s2 hpN hp hq => ⟨p, rfl, ⟨_, L2.sq_of hp⟩, ?_⟩⟩
        have h2 := s2 _ _ h1
        have s02 := s1.trans s2
        have npd : p ≠ dc := fun e => by rw [e, h2] at hp; cases hp
        refine for_list (K := K) (a := p) (xs := [.ref q1]) (fun i σ H' => (∃ u v w, σ = [some (.int 0), some (.ref dc), u, v, w]) ∧ But dc H2 H' ∧ H' dc = some (.dK (if i = 0 then [] else [(.inl 0, .int 1)]))) ⟨⟨_, _, _, rfl⟩, .refl, h2⟩ (fun i σ H' _ h => L2.sq_of (h.2.1 _ _ npd hp)) ?_ ?_
        · rintro i y σ H3 hy ⟨⟨u, v, w', rfl⟩, B3, hd3⟩
          obtain ⟨rfl, rfl⟩ : i = 0 ∧ y = .ref q1 := by
            match i, hy with
            | 0, hy => exact ⟨rfl, (Option.some.inj hy).symm⟩
            | i + 1, hy => simp at hy
          rw [if_pos rfl] at hd3
          refine ⟨_, rfl, fun x dx hx hdx ne => ⟨x, dx, rfl, upd_same, fun H4 lg dx4 kvs fr4 hx4 hw hl hlg => ⟨rfl, ?_⟩⟩⟩
          have B4 : ∀ b o, H3 b = some o → H4 b = some o := fun b o h => fr4 _ _ (ne_of_none h hx) (by rw [upd_ne (ne_of_none h hx), upd_ne (ne_of_none h hdx)]; exact h)
          refine ⟨_, rfl, _, rfl, x, dx4, kvs, _, rfl, hx4, hw, fun p5 H5 s5 => ?_⟩
          refine ⟨_, rfl, x, a.c_ListSort, dx4, _, _, rfl, s5 _ _ hx4, T.cl_ListSort, T.n_log, hl, lg, [], rfl, .inl (L2.sq_of (s5 _ _ hlg)), ?_⟩
          have hd5 := s5 _ _ (B4 _ _ hd3)
          refine ⟨_, rfl, dc, rfl, .inl ⟨_, Rd.of hd5⟩, _, rfl, none, DGet.k (k := Sum.inl 0) hd5, _, _, rfl, rfl, _, rfl, _, rfl, dc, _, rfl, DPut.k (k := Sum.inl 0) hd5 (by decide), ?_⟩
          refine ⟨⟨_, _, _, rfl⟩, fun b o n h => ?_, upd_same⟩
          rw [upd_ne n]
          exact s5 _ _ (B4 _ _ (B3 _ _ n h))
        · rintro σ H3 ⟨⟨u, v, w', rfl⟩, B3, hd3⟩
          rw [show (if ([V.ref q1] : List V).length = 0 then ([] : List (Key × V)) else [(.inl 0, .int 1)]) = [(.inl 0, .int 1)] from rfl] at hd3
          refine ⟨_, rfl, dc, _, [0], rfl, Rd.of hd3, rfl, by decide, fun ys p4 pm _ hp4 => ⟨p4, rfl, ⟨_, L2.sq_of upd_same⟩, fun D hD => ?_⟩⟩
          obtain rfl := List.perm_singleton.mp pm
          have s4 := same_upd (o := .lst (([0] : List Int).map V.int)) hp4
          have h4 : upd H3 p4 (.lst (([0] : List Int).map V.int)) p4 = some (.lst [.int 0]) := upd_same
          generalize upd H3 p4 (.lst (([0] : List Int).map V.int)) = H4 at s4 h4 hD ⊢
          have s03 : ∀ b o, H b = some o → H3 b = some o := fun b o h => B3 _ _ (ne_of_none h hdc) (s02 _ _ h)
          refine lc_list (K := K) (a := p4) (xs := [V.int 0]) (fun i H' => Same H4 H' ∧ ∃ t, H' D = some (.lst (if i = 0 then [] else [.ref t])) ∧ (i = 0 ∨ H' t = some (.tup [.int 0, .int 1]))) ⟨same_upd hD, 0, upd_same, .inl rfl⟩ (fun i H' _ h => L2.sq_of (h.1 _ _ h4)) ?_ ?_
          · rintro i y H5 hy ⟨s5, t5, hD5, _⟩
            obtain ⟨rfl, rfl⟩ : i = 0 ∧ y = .int 0 := by
              match i, hy with
              | 0, hy => exact ⟨rfl, (Option.some.inj hy).symm⟩
              | i + 1, hy => simp at hy
            rw [if_pos rfl] at hD5
            refine ⟨rfl, _, rfl, _, rfl, _, rfl, dc, _, rfl, DGet.k (k := Sum.inl 0) (s5 _ _ (s4 _ _ hd3)), by show 2 ≤ sizeLine; decide, fun t ht => ?_⟩
            have ntD : D ≠ t := ne_of_none hD5 ht
            refine ⟨[], by rw [upd_ne ntD]; exact hD5, by decide, fun b o h => ?_, t, upd_same, .inr ?_⟩
            · rw [upd_ne (ne_of_none h hD), upd_ne (ne_of_none (s5 _ _ h) ht)]
              exact s5 _ _ h
            · rw [upd_ne ntD.symm]
              exact upd_same
          · rintro H5 ⟨s5, t5, hD5, ht5⟩
            rcases ht5 with z | ht5
            · cases z
            · exact q D t5 H5 (fun b o h => s5 _ _ (s4 _ _ (s03 _ _ h))) hD5 ht5
    · rcases h with ⟨_, h⟩ | ⟨h, _⟩
      · exact h
      · rw [h] at e; cases e
end

end K78

namespace K78
open PySem PySem.Spec PyProof.Rows L2 LamX
theorem tabs_put {TT : List (Addr × Str)} {H : Hp} {D : Addr} {xs : List V} {o : HO} (t : LamX.Tabs TT H) (hs : H D = some (.lst xs)) : LamX.Tabs TT (upd H D o) := fun p hp => by
  obtain ⟨ps, h1, h2, h3⟩ := t p hp
  refine ⟨ps, ?_, h2, fun pos cv hc => ?_⟩
  · rw [upd_ne (fun e => by rw [e, hs] at h1; cases h1)]
    exact h1
  · obtain ⟨c, e1, e2⟩ := h3 pos cv hc
    refine ⟨c, e1, ?_⟩
    rw [upd_ne (fun e => ?_)]
    · exact e2
    · rw [e, hs] at e2
      have e3 := Option.some.inj e2
      unfold LamX.CodeO at e3
      cases e3
theorem tabs_dn {TT : List (Addr × Str)} {H H' : Hp} {sp : Addr} (t : LamX.Tabs TT H) (hs : Src H sp) (d : Dn sp H H') : LamX.Tabs TT H' := fun p hp => by
  obtain ⟨x, y, z, _, hs⟩ := hs
  obtain ⟨ps, h1, h2, h3⟩ := t p hp
  refine ⟨ps, d.1 _ _ (fun e => by rw [e, hs] at h1; cases h1) h1, h2, fun pos cv hc => ?_⟩
  obtain ⟨c, e1, e2⟩ := h3 pos cv hc
  refine ⟨c, e1, d.1 _ _ (fun e => ?_) e2⟩
  rw [e, hs] at e2
  have e3 := Option.some.inj e2
  unfold LamX.CodeO at e3
  cases e3
/-- all but the source and the tables stays -/
def DnT (sp : Addr) (H H' : Hp) : Prop := (∀ b o, b ≠ sp → (∀ ps, o ≠ HO.tbl ps) → H b = some o → H' b = some o) ∧ Src H' sp
theorem DnT.refl {sp : Addr} {H : Hp} (h : Src H sp) : DnT sp H H := ⟨fun _ _ _ _ h => h, h⟩
theorem DnT.trans {sp : Addr} {H H1 H2 : Hp} (a : DnT sp H H1) (b : DnT sp H1 H2) : DnT sp H H2 := ⟨fun x o n t h => b.1 x o n t (a.1 x o n t h), b.2⟩
theorem DnT.of {sp : Addr} {H H1 : Hp} (a : Dn sp H H1) : DnT sp H H1 := ⟨fun b o n _ h => a.1 b o n h, a.2⟩
theorem DnT.ext {sp : Addr} {H H1 H2 : Hp} (a : DnT sp H H1) (e : LamX.ExtN H1 H2) : DnT sp H H2 := ⟨fun b o n t h => e _ _ (a.1 b o n t h) t, by
  obtain ⟨x, y, z, h0, h⟩ := a.2
  exact ⟨x, y, z, h0, e _ _ h fun ps z => by cases z⟩⟩

theorem hm_numbers_right (a : Ad) : (a.lp_numbers_right, (envOfC "_law_numbers_right" (defScope s_numbers_right) 0 0 .none).qual ++ ("<lambda>" : Str)) ∈ LT a := by
  rw [show (envOfC "_law_numbers_right" (defScope s_numbers_right) 0 0 .none).qual ++ ("<lambda>" : Str) = lq_numbers_right from by decide +kernel]
  exact List.Mem.head _
theorem hm_lengths_right (a : Ad) : (a.lp_lengths_right, (envOfC "_law_lengths_right" (defScope s_lengths_right) 0 0 .none).qual ++ ("<lambda>" : Str)) ∈ LT a := by
  rw [show (envOfC "_law_lengths_right" (defScope s_lengths_right) 0 0 .none).qual ++ ("<lambda>" : Str) = lq_lengths_right from by decide +kernel]
  exact List.Mem.tail _ (List.Mem.head _)
theorem hm_law (a : Ad) : (a.lp_law, (envOfC "law" (defScope s_law) 0 0 .none).qual ++ ("<lambda>" : Str)) ∈ LT a := by
  rw [show (envOfC "law" (defScope s_law) 0 0 .none).qual ++ ("<lambda>" : Str) = lq_law from by decide +kernel]
  exact List.Mem.tail _ (List.Mem.tail _ (List.Mem.head _))
theorem lt_cases {a : Ad} {p : Addr × Str} (hp : p ∈ LT a) : p = (a.lp_numbers_right, lq_numbers_right) ∨ p = (a.lp_lengths_right, lq_lengths_right) ∨ p = (a.lp_law, lq_law) := by
  rcases List.mem_cons.mp hp with h | hp
  · exact .inl h
  rcases List.mem_cons.mp hp with h | hp
  · exact .inr (.inl h)
  exact .inr (.inr (List.mem_singleton.mp hp))
section
variable {K : PySem.W.Frag} {mg : Str → Option Value} {a : Ad} {d : Fd}
theorem hu_numbers_right (T : Txt K mg a d) : ∀ p ∈ LT a, p.1 = a.lp_numbers_right → p.2 = (envOfC "_law_numbers_right" (defScope s_numbers_right) 0 0 .none).qual ++ ("<lambda>" : Str) := fun p hp e => by
  rw [show (envOfC "_law_numbers_right" (defScope s_numbers_right) 0 0 .none).qual ++ ("<lambda>" : Str) = lq_numbers_right from by decide +kernel]
  rcases lt_cases hp with rfl | rfl | rfl
  · rfl
  · exact absurd e.symm T.lne_numbers_right_lengths_right
  · exact absurd e.symm T.lne_numbers_right_law
theorem hu_lengths_right (T : Txt K mg a d) : ∀ p ∈ LT a, p.1 = a.lp_lengths_right → p.2 = (envOfC "_law_lengths_right" (defScope s_lengths_right) 0 0 .none).qual ++ ("<lambda>" : Str) := fun p hp e => by
  rw [show (envOfC "_law_lengths_right" (defScope s_lengths_right) 0 0 .none).qual ++ ("<lambda>" : Str) = lq_lengths_right from by decide +kernel]
  rcases lt_cases hp with rfl | rfl | rfl
  · exact absurd e T.lne_numbers_right_lengths_right
  · rfl
  · exact absurd e.symm T.lne_lengths_right_law
theorem hu_law (T : Txt K mg a d) : ∀ p ∈ LT a, p.1 = a.lp_law → p.2 = (envOfC "law" (defScope s_law) 0 0 .none).qual ++ ("<lambda>" : Str) := fun p hp e => by
  rw [show (envOfC "law" (defScope s_law) 0 0 .none).qual ++ ("<lambda>" : Str) = lq_law from by decide +kernel]
  rcases lt_cases hp with rfl | rfl | rfl
  · exact absurd e T.lne_numbers_right_law
  · exact absurd e T.lne_lengths_right_law
  · rfl
end
def spNumR (a : Ad) : Sp := fun vs H Q _ => ∃ bad Tb, vs = [bad] ∧ AnyV H bad Tb ∧ inR 0 (some 63) bad = false ∧ Tabs (LT a) H ∧ ∀ H', ExtN H H' → Tabs (LT a) H' → Q (.bl true) H'
theorem lcat4 (f1 f2 f3 f4 : V) : ([f1, f2] ++ [f3, f4] : List V) = [f1, f2, f3, f4] := rfl
theorem lcat6 (f1 f2 f3 f4 f5 f6 : V) : ([f1, f2, f3, f4] ++ [f5, f6] : List V) = [f1, f2, f3, f4, f5, f6] := rfl
section
variable {P : Program} {w : World} {K : PySem.W.Frag} {mg : Str → Option Value} {base : Heap} {a : Ad} {d : Fd}
theorem ok_numbers_right (T : Txt K mg a d) (TB_numbers_right : TabB base mg a.lc_numbers_right a.lp_numbers_right) : FnOk P w K mg base CX0 12 a.numbers_right d.numbers_right P_numbers_right (spNumR a) := by
  have G_fewest : FnOk P w K mg base (L2.CX P w) 5 a.fewest d.fewest P_fewest (spManyX a.c_InvalidNumber 63 (fun v H Q => v = .int 63 ∧ Q (.int 62) H)) := ok_fewest T
  have G_most : FnOk P w K mg base (L2.CX P w) 5 a.most d.most P_most (spManyX a.c_InvalidNumber 63 (fun _ _ _ => False)) := ok_most T
  have G_fewest_keys : FnOk P w K mg base (L2.CX P w) 5 a.fewest_keys d.fewest_keys P_fewest_keys (spManyX a.c_InvalidNumber 63 (fun _ _ _ => False)) := ok_fewest_keys T
  have G_most_keys : FnOk P w K mg base (L2.CX P w) 5 a.most_keys d.most_keys P_most_keys (spManyX a.c_InvalidNumber 63 (fun v H Q => v = .int 63 ∧ ∀ p xs H', Same H H' → H' p = some (.lst xs) → xs.length = 63 → Q (.ref p) H')) := ok_most_keys T
  have G_sum_of : FnOk P w K mg base (L2.CX P w) 5 a.sum_of d.sum_of P_sum_of (spManyX a.c_InvalidNumber 63 (fun _ _ _ => False)) := ok_sum_of T
  have G_spread : FnOk P w K mg base (L2.CX P w) 7 a.spread d.spread P_spread (spManyX a.c_InvalidNumber 6 GSpread) := ok_spread T
  refine T.f_numbers_right.okC T.lc_numbers_right sc_numbers_right (fun vs H Q E h => ?_) (fun A outer s0 H vs Q E hr h => ?_)
  · obtain ⟨bad, Tb, rfl, _⟩ := h
    rfl
  · obtain ⟨bad, Tb, rfl, hk, hb, hT, q⟩ := h
    refine ⟨_, (pss_cons (ps_set (i := 1) sc_numbers_right.nd rfl (Or.inl rfl) (pe_lst (pa_cons (pe_lamR (T := LT a) (k := 9) TB_numbers_right rfl (hm_numbers_right a) (hu_numbers_right T) (free_by (show freeB (defScope s_numbers_right) _ = true from by decide +kernel)) rfl (Or.inl rfl) (.plain (lamS_by (show lamSB (defScope s_numbers_right) _ = true from by decide +kernel)) rfl (fun _ _ _ _ _ _ => rfl) (fun A1 outer1 s1 H1 E1 f1 c1 hr1 => (pe_call G_fewest (hr1.mono (by decide)) (by rfl) T.g_fewest T.k_fewest T.b_fewest .nil (passY rfl rfl rfl rfl) (pa_cons (pv 0) pa_nil))))) (pa_cons (pe_lamR (T := LT a) (k := 9) TB_numbers_right rfl (hm_numbers_right a) (hu_numbers_right T) (free_by (show freeB (defScope s_numbers_right) _ = true from by decide +kernel)) rfl (Or.inr ⟨_, _, rfl⟩) (.dflt (x := "of") (lamS1_by (show lamS1B (defScope s_numbers_right) _ _ = true from by decide +kernel)) (show ("of" : Str) ∉ N_numbers_right from by decide +kernel) (List.cons_ne_nil _ _) (fun _ _ _ _ _ _ _ => ⟨_, rfl, fun _ => rfl⟩) (fun A1 outer1 s1 H1 E1 f1 c1 hr1 => (pe_call G_most (hr1.mono (by decide)) (by rfl) T.g_most T.k_most T.b_most .nil (passY rfl rfl rfl rfl) (pa_cons (pv 0) pa_nil))))) pa_nil))))
    (pss_cons (ps_set (i := 1) sc_numbers_right.nd rfl (Or.inl rfl) (pe_op op_catS (pv 1) (pe_lst (pa_cons (pe_lamR (T := LT a) (k := 9) TB_numbers_right rfl (hm_numbers_right a) (hu_numbers_right T) (free_by (show freeB (defScope s_numbers_right) _ = true from by decide +kernel)) rfl (Or.inl rfl) (.plain (lamS_by (show lamSB (defScope s_numbers_right) _ = true from by decide +kernel)) rfl (fun _ _ _ _ _ _ => rfl) (fun A1 outer1 s1 H1 E1 f1 c1 hr1 => (pe_call G_fewest_keys (hr1.mono (by decide)) (by rfl) T.g_fewest_keys T.k_fewest_keys T.b_fewest_keys .nil (passY rfl rfl rfl rfl) (pa_cons (pv 0) pa_nil))))) (pa_cons (pe_lamR (T := LT a) (k := 9) TB_numbers_right rfl (hm_numbers_right a) (hu_numbers_right T) (free_by (show freeB (defScope s_numbers_right) _ = true from by decide +kernel)) rfl (Or.inr ⟨_, _, rfl⟩) (.dflt (x := "of") (lamS1_by (show lamS1B (defScope s_numbers_right) _ _ = true from by decide +kernel)) (show ("of" : Str) ∉ N_numbers_right from by decide +kernel) (List.cons_ne_nil _ _) (fun _ _ _ _ _ _ _ => ⟨_, rfl, fun _ => rfl⟩) (fun A1 outer1 s1 H1 E1 f1 c1 hr1 => (pe_call G_most_keys (hr1.mono (by decide)) (by rfl) T.g_most_keys T.k_most_keys T.b_most_keys .nil (passY rfl rfl rfl rfl) (pa_cons (pv 0) pa_nil))))) pa_nil)))))
    (pss_cons (ps_set (i := 1) sc_numbers_right.nd rfl (Or.inl rfl) (pe_op op_catS (pv 1) (pe_lst (pa_cons (pe_lamR (T := LT a) (k := 9) TB_numbers_right rfl (hm_numbers_right a) (hu_numbers_right T) (free_by (show freeB (defScope s_numbers_right) _ = true from by decide +kernel)) rfl (Or.inl rfl) (.plain (lamS_by (show lamSB (defScope s_numbers_right) _ = true from by decide +kernel)) rfl (fun _ _ _ _ _ _ => rfl) (fun A1 outer1 s1 H1 E1 f1 c1 hr1 => (pe_call G_sum_of (hr1.mono (by decide)) (by rfl) T.g_sum_of T.k_sum_of T.b_sum_of .nil (passY rfl rfl rfl rfl) (pa_cons (pv 0) pa_nil))))) (pa_cons (pe_lamR (T := LT a) (k := 9) TB_numbers_right rfl (hm_numbers_right a) (hu_numbers_right T) (free_by (show freeB (defScope s_numbers_right) _ = true from by decide +kernel)) rfl (Or.inr ⟨_, _, rfl⟩) (.dflt (x := "of") (lamS1_by (show lamS1B (defScope s_numbers_right) _ _ = true from by decide +kernel)) (show ("of" : Str) ∉ N_numbers_right from by decide +kernel) (List.cons_ne_nil _ _) (fun _ _ _ _ _ _ _ => ⟨_, rfl, fun _ => rfl⟩) (fun A1 outer1 s1 H1 E1 f1 c1 hr1 => (pe_call G_spread (hr1.mono (by decide)) (by rfl) T.g_spread T.k_spread T.b_spread .nil (passY rfl rfl rfl rfl) (pa_cons (pv 0) pa_nil))))) pa_nil)))))
    (pss_one (ps_ret (pe_cmpR (op_eqD hr.units) (pe_lcH (own := [("call", 2)]) (g := gName 2) rfl sc_numbers_right.nd (pi_list (pv 1)) (blkOk_by (N := N_numbers_right) (sc := defScope s_numbers_right) (by decide +kernel)) (fun _ _ _ _ _ => pg_name (i := 2) sc_numbers_right.nd rfl (Or.inl rfl)) (fun _ _ _ _ _ _ _ B0 => pe_callLamB (k := 9) B0 T.f_error (by rfl) T.g_error T.k_error T.b_error sc_error rfl (Or.inl rfl) (gives_error T) (hr.mono (by decide)) (pv 2))) (pe_op op_rep (pe_lst (pa_cons (pe_tup (pa_cons pe_str (pa_cons pe_str pa_nil))) pa_nil)) pe_int) (nomark _))))))), ?_⟩
    refine ⟨hT, fun H1 f1 e1 T1 R1 => ⟨T1, fun H2 f2 e2 T2 R2 => ⟨by show 2 ≤ sizeLine; decide, fun Da hDa => ?_⟩⟩⟩
    have s3 := same_upd (o := .lst [.ref f1, .ref f2]) hDa
    have h3 : upd H2 Da (.lst [.ref f1, .ref f2]) Da = some (.lst [.ref f1, .ref f2]) := upd_same
    have T3 := T2.ext s3
    generalize upd H2 Da (.lst [.ref f1, .ref f2]) = H3 at s3 h3 T3 ⊢
    refine ⟨_, rfl, T3, fun H4 f3 e4 T4 R3 => ⟨T4, fun H5 f4 e5 T5 R4 => ⟨by show 2 ≤ sizeLine; decide, fun Db hDb => ?_⟩⟩⟩
    have s6 := same_upd (o := .lst [.ref f3, .ref f4]) hDb
    have h6 : upd H5 Db (.lst [.ref f3, .ref f4]) Db = some (.lst [.ref f3, .ref f4]) := upd_same
    have T6 := T5.ext s6
    have h63 := s6 _ _ (e5 _ _ (e4 _ _ h3 (fun ps z => by cases z)) (fun ps z => by cases z))
    generalize upd H5 Db (.lst [.ref f3, .ref f4]) = H6 at s6 h6 T6 h63 ⊢
    refine ⟨Da, Db, _, _, rfl, rfl, L2.sq_of h63, L2.sq_of h6, by show 4 ≤ sizeLine; decide, fun Dc hDc => ?_⟩
    rw [lcat4]
    have s7 := same_upd (o := .lst [.ref f1, .ref f2, .ref f3, .ref f4]) hDc
    have h7 : upd H6 Dc (.lst [.ref f1, .ref f2, .ref f3, .ref f4]) Dc = some (.lst [.ref f1, .ref f2, .ref f3, .ref f4]) := upd_same
    have T7 := T6.ext s7
    generalize upd H6 Dc (.lst [.ref f1, .ref f2, .ref f3, .ref f4]) = H7 at s7 h7 T7 ⊢
    refine ⟨_, rfl, T7, fun H8 f5 e8 T8 R5 => ⟨T8, fun H9 f6 e9 T9 R6 => ⟨by show 2 ≤ sizeLine; decide, fun Dd hDd => ?_⟩⟩⟩
    have s10 := same_upd (o := .lst [.ref f5, .ref f6]) hDd
    have h10 : upd H9 Dd (.lst [.ref f5, .ref f6]) Dd = some (.lst [.ref f5, .ref f6]) := upd_same
    have T10 := T9.ext s10
    have h107 := s10 _ _ (e9 _ _ (e8 _ _ h7 (fun ps z => by cases z)) (fun ps z => by cases z))
    generalize upd H9 Dd (.lst [.ref f5, .ref f6]) = H10 at s10 h10 T10 h107 ⊢
    refine ⟨Dc, Dd, _, _, rfl, rfl, L2.sq_of h107, L2.sq_of h10, by show 6 ≤ sizeLine; decide, fun De hDe => ?_⟩
    rw [lcat6]
    have s11 := same_upd (o := .lst [.ref f1, .ref f2, .ref f3, .ref f4, .ref f5, .ref f6]) hDe
    have h11 : upd H10 De (.lst [.ref f1, .ref f2, .ref f3, .ref f4, .ref f5, .ref f6]) De = some (.lst [.ref f1, .ref f2, .ref f3, .ref f4, .ref f5, .ref f6]) := upd_same
    have T11 := T10.ext s11
    generalize upd H10 De (.lst [.ref f1, .ref f2, .ref f3, .ref f4, .ref f5, .ref f6]) = H11 at s11 h11 T11 ⊢
    have e611 : ExtN H6 H11 := (ExtN.of s7).trans (e8.trans (e9.trans ((ExtN.of s10).trans (.of s11))))
    have e411 : ExtN H4 H11 := e5.trans ((ExtN.of s6).trans e611)
    have e211 : ExtN H2 H11 := (ExtN.of s3).trans (e4.trans e411)
    have e011 := (e1.trans e2).trans e211
    have R1' := R1.ext (e2.trans e211)
    have R2' := R2.ext e211
    have R3' := R3.ext e411
    have R4' := R4.ext ((ExtN.of s6).trans e611)
    have R5' := R5.ext (e9.trans ((ExtN.of s10).trans (.of s11)))
    have R6' := R6.ext ((ExtN.of s10).trans (.of s11))
    clear R1 R2 R3 R4 R5 R6 e611 e411 e211
    refine ⟨_, rfl, De, rfl, ⟨_, L2.sq_of h11⟩, fun D hD => ?_⟩
    refine lc_list (K := K) (a := De) (xs := [.ref f1, .ref f2, .ref f3, .ref f4, .ref f5, .ref f6]) (SaidInv (LT a) H11 D "number" (.str "many")) (.init hD T11) (fun i H' _ h => L2.sq_of (h.1 _ _ h11 (fun ps z => by cases z))) ?_ ?_
    · rintro j y H' hy I
      have e' := I.1
      have T' := I.2.1
      have hk' := fun {HZ : Hp} (z : ExtN H' HZ) => hk.ext ((e011.trans e').trans z)
      match j, hy with
      | 0, hy =>
        obtain rfl := (Option.some.inj hy)
        exact ⟨rfl, _, rfl, f1, _, rfl, R1'.ext e', _, rfl, bad, Tb, rfl, hk' (.refl _), .inl ⟨hb, eErr (.head _) fun t H'' s'' ht => I.next hD (.of s'') (T'.ext s'') ht (by decide)⟩⟩
      | 1, hy =>
        obtain rfl := (Option.some.inj hy)
        exact ⟨rfl, _, rfl, f2, _, rfl, R2'.ext e', _, rfl, bad, Tb, rfl, hk' (.refl _), .inl ⟨hb, eErr (.head _) fun t H'' s'' ht => I.next hD (.of s'') (T'.ext s'') ht (by decide)⟩⟩
      | 2, hy =>
        obtain rfl := (Option.some.inj hy)
        exact ⟨rfl, _, rfl, f3, _, rfl, R3'.ext e', _, rfl, bad, Tb, rfl, hk' (.refl _), .inl ⟨hb, eErr (.head _) fun t H'' s'' ht => I.next hD (.of s'') (T'.ext s'') ht (by decide)⟩⟩
      | 3, hy =>
        obtain rfl := (Option.some.inj hy)
        exact ⟨rfl, _, rfl, f4, _, rfl, R4'.ext e', _, rfl, bad, Tb, rfl, hk' (.refl _), .inl ⟨hb, eErr (.head _) fun t H'' s'' ht => I.next hD (.of s'') (T'.ext s'') ht (by decide)⟩⟩
      | 4, hy =>
        obtain rfl := (Option.some.inj hy)
        exact ⟨rfl, _, rfl, f5, _, rfl, R5'.ext e', _, rfl, bad, Tb, rfl, hk' (.refl _), .inl ⟨hb, eErr (.head _) fun t H'' s'' ht => I.next hD (.of s'') (T'.ext s'') ht (by decide)⟩⟩
      | 5, hy =>
        obtain rfl := (Option.some.inj hy)
        exact ⟨rfl, _, rfl, f6, _, rfl, R6'.ext e', _, rfl, bad, Tb, rfl, hk' (.refl _), .inl ⟨inR_less hb (by decide), eErr (.head _) fun t H'' s'' ht => I.next hD (.of s'') (T'.ext s'') ht (by decide)⟩⟩
      | j + 6, hy => simp at hy
    rintro Ha ⟨ea, Ta, ts, hDa, lts, hts⟩
    refine ⟨by show 2 ≤ sizeLine; decide, fun t3 ht3 => ?_⟩
    have s9 := same_upd (o := .tup [.str "number", .str "many"]) ht3
    have h93 : upd Ha t3 (.tup [.str "number", .str "many"]) t3 = some (.tup [.str "number", .str "many"]) := upd_same
    generalize upd Ha t3 (.tup [.str "number", .str "many"]) = Hy at s9 h93 ⊢
    refine ⟨by show 1 ≤ sizeLine; decide, fun l1 hl1 => ⟨l1, 6, [.ref t3], rfl, rfl, upd_same, by decide, by decide, by show 1 * 6 ≤ sizeLine; decide, fun p1 hp1 => ?_⟩⟩
    have sA := (same_upd (o := .lst [.ref t3]) hl1).trans (same_upd (o := .lst (List.replicate (6 : Int).toNat [V.ref t3]).flatten) hp1)
    have lw : Lone (.str "many") (.str "many") := .str "many" (by decide +kernel)
    refine ⟨_, _, dp_said (n := 6) ((s9.trans sA) _ _ hDa) lts (fun r hr => ?_) lw, dp_saidR (n := 6) (t := t3) upd_same (sA _ _ h93) lw, shaped_said (w := "number") (by decide +kernel) lw 6, shaped_said (w := "number") (by decide +kernel) lw 6, ?_⟩
    · obtain ⟨t, rfl, ht⟩ := hts r hr
      exact ⟨t, rfl, (s9.trans sA) _ _ ht⟩
    · rw [eq_said (by decide +kernel) lw 6]
      exact q _ ((e011.trans ea).trans (.of (s9.trans sA))) (Ta.ext (s9.trans sA))
end

end K78

/-! a comprehension of draws, each with a property -/
namespace L2
open PySem PySem.Spec PyProof.Rows
theorem lc_intsP {te : TE} {σ : L2.St} {H1 : Hp} {D p : Addr} {n j : Nat} {vs : List Nat} {Qd : Hp → Prop} (Pr : Int → Prop) (hn : n ≤ 1000000) (hs : Src H1 p) (hD : H1 D = none)
    (hw : ∀ v, wipe ((wipe σ vs).set j v) vs = wipe σ vs)
    (he : ∀ (k : Nat) (H3 : Hp) (R : VK), k < n → Dn p H1 H3 → (∀ (v : Int) (H4 : Hp), Pr v → Dn p H3 H4 → R (.int v) H4) → te ((wipe σ vs).set j (some (.int (0 + (k : Nat))))) H3 R)
    (hd : ∀ (ms : List Int) (H' : Hp), ms.length = n → (∀ v ∈ ms, Pr v) → Dn p H1 H' → H' D = some (.lst (ms.map V.int)) → Qd H') :
    ∃ W : Nat → Nat → Hp → Prop, (∃ m, W 0 m (L2.upd H1 D (.lst []))) ∧ ∀ i m H, W i m H →
      ((Itr 0 n).stop i H ∧ Qd H) ∨ ((Itr 0 n).go i H ∧ ∃ Nx : Hp → Prop, (∀ H', Nx H' → ∃ m', m' < m ∧ W (i + 1) m' H') ∧ ∀ x H', (Itr 0 n).yld i H x H' → gName j x (wipe σ vs) H' fun σ2 H2 => wipe σ2 vs = wipe σ vs ∧ tYes σ2 H2 fun b H3 =>
        if b = true then te σ2 H3 fun y H4 => ∃ acc, H4 D = some (.lst acc) ∧ acc.length < sizeLine ∧ Nx (L2.upd H4 D (.lst (acc ++ [y]))) else Nx H3) := by
  have nD : D ≠ p := hs.ne hD
  refine lc_range (lo := 0) (n := n) (fun i H => ∃ ms : List Int, ms.length = i ∧ (∀ v ∈ ms, Pr v) ∧ Dn p H1 H ∧ H D = some (.lst (ms.map V.int))) ⟨[], rfl, fun v h => by simp at h, (Dn.refl hs).new hD, upd_same⟩ ?_ ?_
  · rintro i H hi ⟨ms, hl, hp, dr, hh⟩
    refine ⟨hw _, ?_⟩
    refine he i H _ hi dr fun v H4 pv d4 => ?_
    have h4 := d4.1 _ _ nD hh
    refine ⟨_, h4, ?_, ms ++ [v], by simp [hl], fun z hz => ?_, ?_, ?_⟩
    · rw [List.length_map, hl]
      exact Nat.lt_of_le_of_lt (Nat.le_trans (Nat.le_of_lt hi) hn) (by decide)
    · rcases List.mem_append.mp hz with h | h
      · exact hp z h
      · rw [List.mem_singleton.mp h]
        exact pv
    · have dd := dr.trans d4
      refine ⟨fun b o nb e => ?_, dd.2.upd nD⟩
      rw [upd_ne (ne_of_none e hD)]
      exact dd.1 b o nb e
    · rw [show (ms ++ [v]).map V.int = ms.map V.int ++ [V.int v] from by simp]
      exact upd_same
  · rintro H ⟨ms, hl, hp, dr, hh⟩
    exact hd ms H hl hp dr hh
/-- tuple(x), whatever the frame is -/
def rTupOf (K : PySem.W.Frag) : List V → Hp → VK → Prop := fun xs H Q => ∃ p ys, xs = [V.ref p] ∧ ((SqL K H p ys ∧ ∀ l, H l = none → Q (.ref l) (upd H l (.tup ys))) ∨ (SqT K H p ys ∧ Q (.ref p) H))
theorem seqN {K : PySem.W.Frag} {H H' : Hp} {a : Addr} {xs : List V} (e : LamX.ExtN H H') (h : SqL K H a xs) : SqL K H' a xs := by
  rcases h with (h | ⟨o, h⟩) | h
  · exact .inl (.inl (e _ _ h fun ps z => by cases z))
  · exact .inl (.inr ⟨o, e _ _ h fun ps z => by cases z⟩)
  · exact .inr h
theorem lc_boolsD {te : TE} {σ : L2.St} {H1 : Hp} {D p : Addr} {n j : Nat} {vs : List Nat} {Qd : Hp → Prop} (hn : n ≤ 1000000) (hs : Src H1 p) (hD : H1 D = none)
    (hw : ∀ v, wipe ((wipe σ vs).set j v) vs = wipe σ vs)
    (he : ∀ (k : Nat) (H3 : Hp) (R : VK), k < n → Dn p H1 H3 → (∀ (v : Bool) (H4 : Hp), Dn p H3 H4 → R (.bl v) H4) → te ((wipe σ vs).set j (some (.int (0 + (k : Nat))))) H3 R)
    (hd : ∀ (ms : List Bool) (H' : Hp), ms.length = n → Dn p H1 H' → H' D = some (.lst (ms.map V.bl)) → Qd H') :
    ∃ W : Nat → Nat → Hp → Prop, (∃ m, W 0 m (L2.upd H1 D (.lst []))) ∧ ∀ i m H, W i m H →
      ((Itr 0 n).stop i H ∧ Qd H) ∨ ((Itr 0 n).go i H ∧ ∃ Nx : Hp → Prop, (∀ H', Nx H' → ∃ m', m' < m ∧ W (i + 1) m' H') ∧ ∀ x H', (Itr 0 n).yld i H x H' → gName j x (wipe σ vs) H' fun σ2 H2 => wipe σ2 vs = wipe σ vs ∧ tYes σ2 H2 fun b H3 =>
        if b = true then te σ2 H3 fun y H4 => ∃ acc, H4 D = some (.lst acc) ∧ acc.length < sizeLine ∧ Nx (L2.upd H4 D (.lst (acc ++ [y]))) else Nx H3) := by
  have nD : D ≠ p := hs.ne hD
  refine lc_range (lo := 0) (n := n) (fun i H => ∃ ms : List Bool, ms.length = i ∧ Dn p H1 H ∧ H D = some (.lst (ms.map V.bl))) ⟨[], rfl, (Dn.refl hs).new hD, upd_same⟩ ?_ ?_
  · rintro i H hi ⟨ms, hl, dr, hh⟩
    refine ⟨hw _, ?_⟩
    refine he i H _ hi dr fun v H4 d4 => ?_
    have h4 := d4.1 _ _ nD hh
    refine ⟨_, h4, ?_, ms ++ [v], by simp [hl], ?_, ?_⟩
    · rw [List.length_map, hl]
      exact Nat.lt_of_le_of_lt (Nat.le_trans (Nat.le_of_lt hi) hn) (by decide)
    · have dd := dr.trans d4
      refine ⟨fun b o nb e => ?_, dd.2.upd nD⟩
      rw [upd_ne (ne_of_none e hD)]
      exact dd.1 b o nb e
    · rw [show (ms ++ [v]).map V.bl = ms.map V.bl ++ [V.bl v] from by simp]
      exact upd_same
  · rintro H ⟨ms, hl, dr, hh⟩
    exact hd ms H hl dr hh
end L2

namespace K78
open PySem PySem.Spec PyProof.Rows L2 LamX
def ones (n : Nat) : List V := List.replicate n (V.int 1)
def spCountF (C : Addr) : Sp := fun vs H Q E => ∃ v, vs = [v] ∧ ((∃ r, LensQ (some 1000000000000000000) H v 1 300 (some r) ∧ Rz E H C "index" (.int r)) ∨ (∃ p, v = .ref p ∧ H p = some (.tup (ones 300)) ∧ ∀ H', Same H H' → Q (.int 299) H'))
theorem ones_cut : cutV (ones 300) (some 1) none = ones 299 := by decide +kernel
theorem ones_sum : (List.replicate 299 (1 : Int)).sum = 299 := by decide +kernel
theorem ones_map (n : Nat) : (List.replicate n (1 : Int)).map V.int = ones n := List.map_replicate
section
variable {P : Program} {w : World} {K : PySem.W.Frag} {mg : Str → Option Value} {base : Heap} {a : Ad} {d : Fd}
theorem ok_count (T : Txt K mg a d) : FnOk P w K mg base (L2.CX P w) 4 a.count_of_falling d.count_of_falling P_count_of_falling (spCountF a.c_InvalidLengths) := by
  have G_check_lengths : FnOk P w K mg base (L2.CX P w) 3 a.check_lengths d.check_lengths P_check_lengths (spCheckLensX a.c_InvalidLengths) := ok_check_lengths T
  refine T.f_count_of_falling.okX sc_count_of_falling (fun vs H Q E h => ?_) (fun cdv A outer s H vs Q E hr h => ?_)
  · obtain ⟨v, rfl, _⟩ := h
    rfl
  · obtain ⟨v, rfl, h⟩ := h
    refine ⟨_, (pss_cons (ps_expr (pe_callS G_check_lengths (hr.mono (by decide)) (by rfl) T.g_check_lengths T.k_check_lengths T.b_check_lengths (fun σ => passAt (takes_of rfl rfl rfl rfl) σ) (pa_cons (pv 0) (pa_cons pe_int (pa_cons (pe_glob (v := .int 300) rfl T.g_MOST_STRETCHES ⟨_, rfl⟩) (pa_cons (pe_glob (v := .int 1000000000000000000) rfl T.g_LONGEST_STRETCH ⟨_, rfl⟩) pa_nil))))))
    (pss_cons (ps_set (i := 1) sc_count_of_falling.nd rfl (Or.inl rfl) (pe_ix ix_tup (pv 0) pe_int (fun _ _ => rfl)))
    (pss_cons (ps_if (pt_cmpR op_eq (pe_callB call_len_seq (by rfl) T.z_len PySem.boot_len (pa_cons (pv 0) pa_nil)) pe_int (nomark _)) (pss_one (ps_ret (pe_op op_sub (pv 1) pe_int))) pss_nil)
    (pss_cons (ps_set (i := 2) sc_count_of_falling.nd rfl (Or.inl rfl) (pe_ifExp (pt_cmpR op_eq (pv 1) pe_int (nomark _)) pe_int (pv 1)))
    (pss_one (ps_ret (pe_op op_add (pv 2) (pe_callB (cr_sum rfl) (by rfl) T.z_sum (by decide +kernel) (pa_cons (pe_lc (own := [("length", 3)]) (g := gName 3) (tt := tYes) rfl sc_count_of_falling.nd (pi_tup (pe_slice sl_tup (pv 0) (po_some pe_int) po_none)) (blkOk_by (N := N_count_of_falling) (sc := defScope s_count_of_falling) (by decide +kernel)) (fun _ _ _ _ _ => pg_name (i := 3) sc_count_of_falling.nd rfl (Or.inl rfl)) (fun _ _ _ _ _ => pts_nil) (fun _ _ _ _ _ => (pe_op op_sub (pe_op op_mul pe_int (pv 3)) pe_int))) pa_nil))))))))), ?_⟩
    rcases h with ⟨r, hq, zz⟩ | ⟨p, rfl, hp, q⟩
    · exact ⟨_, rfl, v, 1, 300, some 1000000000000000000, some r, rfl, hq, (fun z => nomatch z), fun i e => by cases e; exact zz⟩
    refine ⟨_, rfl, .ref p, 1, 300, some 1000000000000000000, none, rfl, .fine rfl (.inr hp) (by rw [ones, List.length_replicate]; decide) (fun j y hy => ?_), fun _ H1 s1 => ?_, fun i e => nomatch e⟩
    · rw [ones, List.getElem?_replicate] at hy
      split at hy
      · cases hy
        exact ⟨_, .int 1, rfl⟩
      · cases hy
    have hp1 := s1 _ _ hp
    refine ⟨_, rfl, p, _, _, _, rfl, rfl, L2.st_of hp1, atI_nat (j := 0) (v := .int 1) rfl, ?_⟩
    refine ⟨_, rfl, p, _, rfl, .inr (L2.st_of hp1), rfl, false, congrArg V.bl (by rw [ones, List.length_replicate]; decide), iteF ?_⟩
    refine ⟨_, rfl, rfl, true, rfl, iteT ?_⟩
    refine ⟨_, rfl, _, rfl, 1, rfl, p, _, rfl, L2.st_of hp1, by decide +kernel, fun p2 hp2 => ?_⟩
    rw [ones_cut]
    have s2 := same_upd (o := .tup (ones 299)) hp2
    have h2 : upd H1 p2 (.tup (ones 299)) p2 = some (.tup (ones 299)) := upd_same
    generalize upd H1 p2 (.tup (ones 299)) = H2 at s2 h2 ⊢
    refine ⟨p2, rfl, ⟨_, L2.st_of h2⟩, fun D hD => ?_⟩
    refine lc_tup (K := K) (a := p2) (xs := ones 299) (fun i H' => Same H2 H' ∧ H' D = some (.lst (ones i))) ⟨same_upd hD, upd_same⟩ (fun i H' _ h => L2.st_of (h.1 _ _ h2)) ?_ ?_
    · rintro i y H3 hy ⟨s3, h3⟩
      have hi : i < 299 := by
        have := (List.getElem?_eq_some_iff.mp hy).1
        rw [ones, List.length_replicate] at this
        exact this
      rw [ones, List.getElem?_replicate, if_pos hi] at hy
      cases hy
      refine ⟨rfl, _, rfl, _, _, rfl, rfl, .inl ⟨by decide, by decide⟩, _, _, rfl, rfl, _, h3, by rw [ones, List.length_replicate]; exact Nat.lt_trans hi (by decide), fun b o h => ?_, ?_⟩
      · rw [upd_ne (ne_of_none h hD)]
        exact s3 _ _ h
      · rw [ones, ones, List.replicate_succ']
        exact upd_same
    · rintro H3 ⟨s3, h3⟩
      rw [show (ones 299).length = 299 from List.length_replicate] at h3
      refine ⟨D, List.replicate 299 1, rfl, L2.sq_of (by rw [ones_map]; exact h3), _, _, rfl, rfl, ?_⟩
      rw [ones_sum]
      exact q H3 (s1.trans (s2.trans s3))
end

end K78

namespace K78
open PySem PySem.Spec PyProof.Rows L2 LamX
def spSource : Sp := fun vs H Q _ => ∃ c, vs = [.int c] ∧ ∀ p x y z, 0 ≤ x → H p = none → Q (.ref p) (upd H p (.lst [.int x, .int y, .int z]))
def spDraw : Sp := fun vs H Q _ => ∃ p b, vs = [.ref p, .int b] ∧ Src H p ∧ 0 < b ∧ b.natAbs < 2 ^ 100 ∧ ∀ v x y z : Int, 0 ≤ v → v < b → 0 ≤ x → Q (.int v) (upd H p (.lst [.int x, .int y, .int z]))
section
variable {P : Program} {w : World} {K : PySem.W.Frag} {mg : Str → Option Value} {base : Heap} {a : Ad} {d : Fd}
theorem ok_source (T : Txt K mg a d) : FnOk P w K mg base CX0 1 a.source d.source P_source spSource := by
  refine T.f_source.ok sc_source (fun vs H Q E h => ?_) (fun cdv A outer s H vs Q E hr h => ?_)
  · obtain ⟨c, rfl, _⟩ := h
    rfl
  · obtain ⟨c, rfl, q⟩ := h
    refine ⟨_, (pss_one (ps_ret (pe_lst (pa_cons (pe_op op_mul (pe_callB call_abs (by rfl) T.z_abs (by decide +kernel) (pa_cons (pv 0) pa_nil)) (pe_callTy call_int1 (by rfl) T.z_int (by decide +kernel) (pa_cons (pe_cmpR op_ge (pe_callB call_abs (by rfl) T.z_abs (by decide +kernel) (pa_cons (pv 0) pa_nil)) (pe_op op_powW pe_int pe_int) (nomark _)) pa_nil))) (pa_cons (pe_op op_mod (pe_callTy call_int1 (by rfl) T.z_int (by decide +kernel) (pa_cons (pv 0) pa_nil)) pe_int) (pa_cons pe_int pa_nil)))))), ?_⟩
    have nn : 0 ≤ (if c < 0 then -c else c) := by split <;> omega
    refine ⟨_, rfl, _, rfl, _, rfl, _, rfl, _, _, rfl, rfl, ⟨by decide, by decide⟩, _, _, rfl, rfl, .inr ⟨_, rfl, ?_⟩⟩
    have hb : ∀ k : Bool, (-(2 ^ 64) < (if k = true then (1 : Int) else 0) ∧ (if k = true then (1 : Int) else 0) < 2 ^ 64) ∧ 0 ≤ (if k = true then (1 : Int) else 0) := fun k => by cases k <;> decide
    exact ⟨_, _, rfl, rfl, .inr (hb _).1, _, rfl, .inl ⟨_, rfl, _, _, rfl, rfl, (by show (0 : Int) < 2147483587; decide), by show 3 ≤ sizeLine; decide, fun p hp => q p _ _ _ (Int.mul_nonneg nn (hb _).2) hp⟩⟩
theorem ok_draw (T : Txt K mg a d) : FnOk P w K mg base CX0 1 a.draw d.draw P_draw spDraw := by
  refine T.f_draw.ok sc_draw (fun vs H Q E h => ?_) (fun cdv A outer s H vs Q E hr h => ?_)
  · obtain ⟨p, b, rfl, _⟩ := h
    rfl
  · obtain ⟨p, b, rfl, ⟨x, y, z, x0, hp⟩, b0, b64, q⟩ := h
    refine ⟨_, (pss_cons (ps_if (pt_cmpR op_gt (pe_ix ix_list (pv 0) pe_int (fun _ _ => rfl)) pe_int (nomark _)) (pss_cons (ps_set (i := 2) sc_draw.nd rfl (Or.inl rfl) (pe_op op_mod (pe_callTy call_int1 (by rfl) T.z_int (by decide +kernel) (pa_cons (pe_ix ix_list (pv 0) pe_int (fun _ _ => rfl)) pa_nil)) (pv 1)))
      (pss_cons (ps_asg (pe_op op_fdivW (pe_ix ix_list (pv 0) pe_int (fun _ _ => rfl)) (pv 1)) (pg_sub (pv 0) pe_int set_list))
      (pss_one (ps_ret (pv 2))))) pss_nil)
    (pss_cons (ps_asg (pe_op op_add (pe_ix ix_list (pv 0) pe_int (fun _ _ => rfl)) pe_int) (pg_sub (pv 0) pe_int set_list))
    (pss_cons (ps_set (i := 3) sc_draw.nd rfl (Or.inl rfl) (pe_op op_mod (pe_callTy call_int1 (by rfl) T.z_int (by decide +kernel) (pa_cons (pe_op op_mul (pe_op op_add (pe_op op_add (pe_ix ix_list (pv 0) pe_int (fun _ _ => rfl)) (pe_op op_mul pe_int (pe_ix ix_list (pv 0) pe_int (fun _ _ => rfl)))) pe_int) pe_int) pa_nil)) pe_int))
    (pss_cons (ps_set (i := 3) sc_draw.nd rfl (Or.inl rfl) (pe_op op_mod (pe_callTy call_int1 (by rfl) T.z_int (by decide +kernel) (pa_cons (pe_op op_mul (pv 3) (pe_op op_add (pe_op op_add (pe_op op_fdivW (pv 3) pe_int) pe_int) (pe_ix ix_list (pv 0) pe_int (fun _ _ => rfl)))) pa_nil)) pe_int))
    (pss_one (ps_ret (pe_op op_mod (pe_callTy call_int1 (by rfl) T.z_int (by decide +kernel) (pa_cons (pe_op op_fdivW (pe_op op_mod (pe_callTy call_int1 (by rfl) T.z_int (by decide +kernel) (pa_cons (pe_op op_mul (pv 3) (pe_op op_add (pe_op op_fdivW (pv 3) pe_int) pe_int)) pa_nil)) pe_int) pe_int) pa_nil)) (pv 1)))))))), ?_⟩
    have hS := L2.sq_of (K := K) hp
    have g0 : atI [V.int x, V.int y, V.int z] 0 = some (.int x) := atI_nat (j := 0) rfl
    have g1 : atI [V.int x, V.int y, V.int z] 1 = some (.int y) := atI_nat (j := 1) rfl
    have g2 : atI [V.int x, V.int y, V.int z] 2 = some (.int z) := atI_nat (j := 2) rfl
    refine ⟨_, rfl, p, _, _, _, rfl, rfl, hS, g0, _, _, rfl, rfl, _, rfl, ite2 (fun _ => ?_) (fun _ => ?_)⟩
    · refine ⟨_, rfl, p, _, _, _, rfl, rfl, hS, g0, .inl ⟨_, rfl, _, rfl, _, _, rfl, rfl, b0, ?_⟩⟩
      refine ⟨_, rfl, p, _, _, _, rfl, rfl, hS, g0, _, rfl, _, _, rfl, rfl, wide_div b0 b64 (by decide) (by decide), ?_⟩
      refine ⟨_, rfl, p, _, _, 0, rfl, rfl, hp, rfl, ?_⟩
      exact ⟨_, rfl, q _ _ _ _ (mb x b0).1 (mb x b0).2 (Int.ediv_nonneg x0 (by omega))⟩
    · refine ⟨_, rfl, p, _, _, _, rfl, rfl, hS, g2, _, _, rfl, rfl, ?_⟩
      refine ⟨_, rfl, p, _, _, 2, rfl, rfl, hp, rfl, ?_⟩
      have hp' : upd H p (.lst ([V.int x, V.int y, V.int z].set 2 (.int (z + 1)))) p = some (.lst [V.int x, V.int y, V.int (z + 1)]) := upd_same
      have hS' := L2.sq_of (K := K) hp'
      have g1' : atI [V.int x, V.int y, V.int (z + 1)] 1 = some (.int y) := atI_nat (j := 1) rfl
      have g2' : atI [V.int x, V.int y, V.int (z + 1)] 2 = some (.int (z + 1)) := atI_nat (j := 2) rfl
      refine ⟨_, rfl, p, _, _, _, rfl, rfl, hS', g1', _, rfl, p, _, _, _, rfl, rfl, hS', g2', 52711, z + 1, rfl, rfl, .inl ⟨by decide, by decide⟩, _, _, rfl, rfl, _, _, rfl, rfl, _, _, rfl, rfl, .inr ⟨by decide, by decide⟩, .inl ⟨_, rfl, _, _, rfl, rfl, (by show (0 : Int) < 2147483629; decide), ?_⟩⟩
      have w1 : ∀ i : Int, CDivW i 1021 := fun i => wide_div (b := 64) (by decide) (by decide) (by decide) (by decide)
      have w2 : ∀ i : Int, CDivW i 2011 := fun i => wide_div (b := 64) (by decide) (by decide) (by decide) (by decide)
      have w3 : ∀ i : Int, CDivW i 3 := fun i => wide_div (b := 64) (by decide) (by decide) (by decide) (by decide)
      refine ⟨_, rfl, _, rfl, _, _, rfl, rfl, w1 _, _, _, rfl, rfl, _, rfl, p, _, _, _, rfl, rfl, hS', g2', _, _, rfl, rfl, _, _, rfl, rfl, .inl (mbw _ (c := 2147483629) (by decide) (by decide)), .inl ⟨_, rfl, _, _, rfl, rfl, (by show (0 : Int) < 2147483579; decide), ?_⟩⟩
      refine ⟨_, rfl, _, rfl, _, _, rfl, rfl, w2 _, _, _, rfl, rfl, _, _, rfl, rfl, .inl (mbw _ (c := 2147483579) (by decide) (by decide)), .inl ⟨_, rfl, _, _, rfl, rfl, (by show (0 : Int) < 2147483549; decide), _, _, rfl, rfl, w3 _, .inl ⟨_, rfl, _, rfl, _, _, rfl, rfl, b0, q _ _ _ _ (mb _ b0).1 (mb _ b0).2 x0⟩⟩⟩
end

theorem cpow18 : CPowW 10 18 := ⟨by decide, by decide⟩
theorem lens_put {H : Hp} {p : Addr} {ns : List Int} {at_ : Nat} {odd : V} {To : String} {rest xs : List V} {lo hi : Int} {k : Option Int} (h : RowAt H p xs) (e : xs = (ns.map V.int).take at_ ++ odd :: rest) (ha : at_ ≤ ns.length) (hns : ∀ z ∈ ns, inR 1 k (.int z) = true) (h0 : lo ≤ 1) (hl : ((at_ + rest.length + 1 : Nat) : Int) ≤ hi) (ho : AnyV H odd To) (hi_ : inR 1 k odd = false) : LensQ k H (.ref p) lo hi (some (at_ : Int)) := by
  subst e
  have lt : ((ns.map V.int).take at_).length = at_ := by rw [List.length_take, List.length_map]; omega
  refine .item rfl h ?_ (x := odd) ?_ ⟨To, ho, hi_.symm⟩ fun j y hj hy => ?_
  · rw [List.length_append, lt, List.length_cons]
    omega
  · rw [List.getElem?_append_right (by omega), lt, Nat.sub_self]
    rfl
  · obtain ⟨z, hz, rfl⟩ : ∃ z, z ∈ ns ∧ y = .int z := by
      rw [List.getElem?_append_left (by rw [List.length_take, List.length_map]; omega), List.getElem?_take_of_lt hj, List.getElem?_map] at hy
      cases e : ns[j]? with
      | none => rw [e] at hy; cases hy
      | some z => rw [e] at hy; exact ⟨z, List.mem_of_getElem? e, (Option.some.inj hy).symm⟩
    exact ⟨_, .int z, (hns z hz).symm⟩
def spLensR (a : Ad) : Sp := fun vs H Q _ => ∃ p, vs = [.ref p] ∧ Src H p ∧ Tabs (LT a) H ∧ ∀ H', DnT p H H' → Tabs (LT a) H' → Q (.bl true) H'
theorem srcN {H H' : Hp} {p : Addr} (e : ExtN H H') (h : Src H p) : Src H' p := by
  obtain ⟨x, y, z, h0, h⟩ := h
  exact ⟨x, y, z, h0, e _ _ h fun ps z => by cases z⟩
section
variable {P : Program} {w : World} {K : PySem.W.Frag} {mg : Str → Option Value} {base : Heap} {a : Ad} {d : Fd}
theorem ok_lengths_right (T : Txt K mg a d) (TB_lengths_right : TabB base mg a.lc_lengths_right a.lp_lengths_right) : FnOk P w K mg base CX0 12 a.lengths_right d.lengths_right P_lengths_right (spLensR a) := by
  have G_draw : FnOk P w K mg base CX0 1 a.draw d.draw P_draw spDraw := ok_draw T
  have G_count_of_falling : FnOk P w K mg base (L2.CX P w) 4 a.count_of_falling d.count_of_falling P_count_of_falling (spCountF a.c_InvalidLengths) := ok_count T
  refine T.f_lengths_right.okC T.lc_lengths_right sc_lengths_right (fun vs H Q E h => ?_) (fun A outer s0 H vs Q E hr h => ?_)
  · obtain ⟨p, rfl, _⟩ := h
    rfl
  · obtain ⟨p, rfl, hs, hT, q⟩ := h
    refine ⟨_, (pss_cons (ps_setLc (i := 1) (own := [("go", 2)]) (g := gName 2) (tt := tYes) rfl sc_lengths_right.nd rfl rfl (sw_true rfl rfl rfl (by decide +kernel)) (pi_range1 (by rfl) T.z_range (pa_cons (pe_call G_draw (hr.mono (by decide)) (by rfl) T.g_draw T.k_draw T.b_draw .nil pass0 (pa_cons (pv 0) (pa_cons pe_int pa_nil))) pa_nil)) (blkOk_by (N := N_lengths_right) (sc := defScope s_lengths_right) (by decide +kernel)) (fun _ _ _ _ _ => pg_name (i := 2) sc_lengths_right.nd rfl (Or.inl rfl)) (fun _ _ _ _ _ => pts_nil) (fun _ _ _ _ _ => (pe_op op_add pe_int (pe_call G_draw (hr.mono (by decide)) (by rfl) T.g_draw T.k_draw T.b_draw .nil pass0 (pa_cons (pv 0) (pa_cons pe_int pa_nil))))))
    (pss_cons (ps_set (i := 3) sc_lengths_right.nd rfl (Or.inl rfl) (pe_call G_draw (hr.mono (by decide)) (by rfl) T.g_draw T.k_draw T.b_draw .nil pass0 (pa_cons (pv 0) (pa_cons (pe_op op_add (pe_callB call_len_seq (by rfl) T.z_len PySem.boot_len (pa_cons (pv 1) pa_nil)) pe_int) pa_nil))))
    (pss_cons (ps_for PassesOwn.never rfl (pi_tup (pe_tup (pa_cons pe_int (pa_cons (pe_un un_neg pe_int) (pa_cons (pe_op op_add (pe_op op_powW pe_int pe_int) pe_int) (pa_cons pe_bl (pa_cons pe_non (pa_cons pe_str (pa_cons (pe_lst (pa_cons pe_int pa_nil)) (pa_cons (pe_tup (pa_cons pe_int pa_nil)) (pa_cons pe_dnewK pa_nil))))))))))) (pg_name (i := 4) sc_lengths_right.nd rfl (Or.inr rfl))
      (pss_cons (ps_set (i := 5) sc_lengths_right.nd rfl (Or.inr rfl) (pe_op op_catS (pe_op op_catS (pe_op op_catS (pe_slice sl_list (pv 1) po_none (po_some (pv 3))) (pe_lst (pa_cons (pv 4) pa_nil))) (pe_slice sl_list (pv 1) (po_some (pv 3)) po_none)) (pe_lst (pa_cons pe_non pa_nil))))
        (pss_cons (ps_if (pt_cmpR (op_neD hr.units) (pe_lamcallG (T := LT a) (k := 9) T.f_error (by rfl) T.g_error T.k_error T.b_error sc_error rfl (Or.inl rfl) (gives_error T) TB_lengths_right rfl (hm_lengths_right a) (hu_lengths_right T) (hr.mono (by decide)) (free_by (show freeB (defScope s_lengths_right) _ = true from by decide +kernel)) rfl (Or.inl rfl) (.plain (lamS_by (show lamSB (defScope s_lengths_right) _ = true from by decide +kernel)) rfl (fun _ _ _ _ _ _ => rfl) (fun A1 outer1 s1 H1 E1 f1 c1 hr1 => (pe_call G_count_of_falling (hr1.mono (by decide)) (by rfl) T.g_count_of_falling T.k_count_of_falling T.b_count_of_falling .nil (passY rfl rfl rfl rfl) (pa_cons (pv 5) pa_nil))))) (pe_tup (pa_cons pe_str (pa_cons (pv 3) pa_nil))) (nomark _)) (pss_one (ps_ret pe_bl)) pss_nil)
        (pss_one (ps_if (pt_cmpR (op_neD hr.units) (pe_lamcallG (T := LT a) (k := 9) T.f_error (by rfl) T.g_error T.k_error T.b_error sc_error rfl (Or.inl rfl) (gives_error T) TB_lengths_right rfl (hm_lengths_right a) (hu_lengths_right T) (hr.mono (by decide)) (free_by (show freeB (defScope s_lengths_right) _ = true from by decide +kernel)) rfl (Or.inl rfl) (.plain (lamS_by (show lamSB (defScope s_lengths_right) _ = true from by decide +kernel)) rfl (fun _ _ _ _ _ _ => rfl) (fun A1 outer1 s1 H1 E1 f1 c1 hr1 => (pe_call G_count_of_falling (hr1.mono (by decide)) (by rfl) T.g_count_of_falling T.k_count_of_falling T.b_count_of_falling .nil (passY rfl rfl rfl rfl) (pa_cons (pe_callTy (show CallR _ _ (rTupOf K) from call_tuple_of) (by rfl) T.z_tuple (by decide +kernel) (pa_cons (pv 5) pa_nil)) pa_nil))))) (pe_tup (pa_cons pe_str (pa_cons (pv 3) pa_nil))) (nomark _)) (pss_one (ps_ret pe_bl)) pss_nil)))))
    (pss_cons (ps_for PassesOwn.never rfl (pi_tup (pe_tup (pa_cons (pe_lst pa_nil) (pa_cons (pe_tup pa_nil) (pa_cons pe_non (pa_cons pe_int (pa_cons pe_str (pa_cons pe_bl (pa_cons pe_dnewK (pa_cons (pe_op op_rep (pe_lst (pa_cons pe_int pa_nil)) pe_int) (pa_cons (pe_op op_rep (pe_lst (pa_cons pe_non pa_nil)) pe_int) pa_nil))))))))))) (pg_name (i := 4) sc_lengths_right.nd rfl (Or.inr rfl))
      (pss_one (ps_if (pt_cmpR (op_neD hr.units) (pe_lamcallG (T := LT a) (k := 9) T.f_error (by rfl) T.g_error T.k_error T.b_error sc_error rfl (Or.inl rfl) (gives_error T) TB_lengths_right rfl (hm_lengths_right a) (hu_lengths_right T) (hr.mono (by decide)) (free_by (show freeB (defScope s_lengths_right) _ = true from by decide +kernel)) rfl (Or.inl rfl) (.plain (lamS_by (show lamSB (defScope s_lengths_right) _ = true from by decide +kernel)) rfl (fun _ _ _ _ _ _ => rfl) (fun A1 outer1 s1 H1 E1 f1 c1 hr1 => (pe_call G_count_of_falling (hr1.mono (by decide)) (by rfl) T.g_count_of_falling T.k_count_of_falling T.b_count_of_falling .nil (passY rfl rfl rfl rfl) (pa_cons (pv 4) pa_nil))))) (pe_tup (pa_cons pe_str (pa_cons (pe_un un_neg pe_int) pa_nil))) (nomark _)) (pss_one (ps_ret pe_bl)) pss_nil)))
    (pss_one (ps_ret (pe_cmpR op_eq (pe_call G_count_of_falling (hr.mono (by decide)) (by rfl) T.g_count_of_falling T.k_count_of_falling T.b_count_of_falling .nil passL (pa_cons (pe_op op_repT (pe_tup (pa_cons pe_int pa_nil)) pe_int) pa_nil)) pe_int (nomark _)))))))), ?_⟩
    refine ⟨_, rfl, p, 12, rfl, hs, by decide, by decide, fun v x y z v0 v1 x0 => ⟨_, rfl, by omega, by omega, fun D hD => ?_⟩⟩
    have d1 : Dn p H (upd H p (.lst [.int x, .int y, .int z])) := .put x0
    generalize upd H p (.lst [.int x, .int y, .int z]) = H1 at d1 hD ⊢
    refine lc_intsP (fun z => inR 1 (some 1000000000000000000) (.int z) = true) (by omega) d1.2 hD (fun _ => rfl) (fun k H5 R hk dr h => ?_) (fun ms H2 l1 hms d2 hD2 => ?_)
    · exact ⟨_, rfl, p, 9, rfl, dr.2, by decide, by decide, fun v x y z v0 v1 x0 => ⟨_, _, rfl, rfl, h _ _ (inR_yes (by omega) (by omega)) (.put x0)⟩⟩
    have nDp : D ≠ p := d1.2.ne hD
    have lms : (ms.map V.int).length = ms.length := List.length_map _
    have ms12 : ms.length ≤ 12 := by omega
    refine ⟨_, rfl, _, rfl, D, _, rfl, .inl (L2.sq_of hD2), _, _, rfl, rfl, p, _, rfl, d2.2, by rw [lms]; omega, by rw [lms]; omega, fun v x y z v0 v1 x0 => ?_⟩
    rw [lms] at v1
    obtain ⟨at_, rfl⟩ : ∃ j : Nat, v = (j : Int) := ⟨v.toNat, (Int.toNat_of_nonneg v0).symm⟩
    have d3 : Dn p H2 (upd H2 p (.lst [.int x, .int y, .int z])) := .put x0
    have hD3 := d3.1 _ _ nDp hD2
    generalize upd H2 p (.lst [.int x, .int y, .int z]) = H3 at d3 hD3 ⊢
    have D3 : DnT p H H3 := .of ((d1.trans d2).trans d3)
    have T3 := tabs_dn hT hs ((d1.trans d2).trans d3)
    have hat : at_ ≤ ms.length := by omega
    clear d1 d2 d3 hD2 hD l1
    refine ⟨_, rfl, _, _, rfl, rfl, cpow18, _, _, rfl, rfl, by show 1 ≤ sizeLine; decide, fun o6 ho6 => ⟨by show 1 ≤ sizeLine; decide, fun o7 ho7 o8 ho8 => ⟨by show 9 ≤ sizeLine; decide, fun LL hLL => ⟨LL, rfl, ⟨_, L2.st_of upd_same⟩, ?_⟩⟩⟩⟩
    generalize hLs : ([_, _, _, _, _, _, _, _, _] : List V) = Ls at hLL ⊢
    have so6 := same_upd (o := .lst [.int 1]) ho6
    have ko6 : upd H3 o6 (.lst [.int 1]) o6 = some (.lst [.int 1]) := upd_same
    generalize upd H3 o6 (.lst [.int 1]) = Hn0 at so6 ko6 ho7 ho8 hLL ⊢
    have so7 := same_upd (o := .tup [.int 1]) ho7
    have ko7 : upd Hn0 o7 (.tup [.int 1]) o7 = some (.tup [.int 1]) := upd_same
    generalize upd Hn0 o7 (.tup [.int 1]) = Hn1 at so7 ko7 ho8 hLL ⊢
    have so8 := same_upd (o := .dK []) ho8
    have ko8 : upd Hn1 o8 (.dK []) o8 = some (.dK []) := upd_same
    generalize upd Hn1 o8 (.dK []) = Hn2 at so8 ko8  hLL ⊢
    have sl := same_upd (o := .tup Ls) hLL
    have hLX : upd Hn2 LL (.tup Ls) LL = some (.tup Ls) := upd_same
    generalize upd Hn2 LL (.tup Ls) = HX at sl hLX ⊢
    have sX := (so6.trans (so7.trans (so8.trans sl)))
    have itX : ∀ y ∈ Ls, ∃ T, AnyV HX y T ∧ inR 1 (some 1000000000000000000) y = false := by
      rw [← hLs]
      intro y hy
      rcases List.mem_cons.mp hy with rfl | hy
      · exact ⟨_, .int _, inR_low (by decide)⟩
      rcases List.mem_cons.mp hy with rfl | hy
      · exact ⟨_, .int _, inR_low (by decide)⟩
      rcases List.mem_cons.mp hy with rfl | hy
      · exact ⟨_, .int _, inR_high (by decide)⟩
      rcases List.mem_cons.mp hy with rfl | hy
      · exact ⟨_, .bl _, rfl⟩
      rcases List.mem_cons.mp hy with rfl | hy
      · exact ⟨_, .non, rfl⟩
      rcases List.mem_cons.mp hy with rfl | hy
      · exact ⟨_, .str _, rfl⟩
      rcases List.mem_cons.mp hy with rfl | hy
      · exact ⟨_, .lst ((so7.trans (so8.trans sl)) _ _ ko6), rfl⟩
      rcases List.mem_cons.mp hy with rfl | hy
      · exact ⟨_, .tup ((so8.trans sl) _ _ ko7), rfl⟩
      rw [List.mem_singleton.mp hy]
      exact ⟨_, .dK (sl _ _ ko8), rfl⟩
    have hDX := sX _ _ hD3
    refine for_tup (K := K) (a := LL) (xs := Ls) (fun i σ H' => (∃ (u2 u4 u5 : Option V), σ = [some (.ref p), some (.ref D), u2, some (.int (at_ : Int)), u4, u5]) ∧ ExtN HX H' ∧ Tabs (LT a) H')
      ⟨⟨_, _, _, rfl⟩, ExtN.refl _, T3.ext sX⟩ (fun i σ H' _ h => L2.st_of (h.2.1 _ _ hLX fun ps z => by cases z)) ?_ ?_
    · rintro i odd σ HG hy ⟨⟨u2, u4, u5, rfl⟩, eG, TG⟩
      obtain ⟨To, ho, hoi⟩ := itX odd (List.mem_of_getElem? hy)
      have hRG := eG _ _ hDX fun ps z => by cases z
      refine ⟨_, rfl, _, rfl, _, rfl, D, _, rfl, L2.sq_of hRG, fun a1 ha1 => ?_⟩
      rw [cut_take]
      have s1 := same_upd (o := .lst ((ms.map V.int).take at_)) ha1
      have k1 : upd HG a1 (.lst ((ms.map V.int).take at_)) a1 = some (.lst ((ms.map V.int).take at_)) := upd_same
      generalize upd HG a1 (.lst ((ms.map V.int).take at_)) = Hg1 at s1 k1 ⊢
      refine ⟨_, rfl, by show 1 ≤ sizeLine; decide, fun a2 ha2 => ?_⟩
      have s2 := same_upd (o := .lst [odd]) ha2
      have k2 : upd Hg1 a2 (.lst [odd]) a2 = some (.lst [odd]) := upd_same
      generalize upd Hg1 a2 (.lst [odd]) = Hg2 at s2 k2 ⊢
      have lt : ((ms.map V.int).take at_).length = at_ := by rw [List.length_take, List.length_map]; omega
      have ld : ((ms.map V.int).drop at_).length = ms.length - at_ := by rw [List.length_drop, List.length_map]
      refine ⟨a1, a2, _, _, rfl, rfl, L2.sq_of (s2 _ _ k1), L2.sq_of k2, by rw [lt]; exact Nat.le_trans (by show at_ + 1 ≤ 2000; omega) (by decide), fun a3 ha3 => ?_⟩
      have s3 := same_upd (o := .lst ((ms.map V.int).take at_ ++ [odd])) ha3
      have k3 : upd Hg2 a3 (.lst ((ms.map V.int).take at_ ++ [odd])) a3 = some (.lst ((ms.map V.int).take at_ ++ [odd])) := upd_same
      generalize upd Hg2 a3 (.lst ((ms.map V.int).take at_ ++ [odd])) = Hg3 at s3 k3 ⊢
      have s13 := s1.trans (s2.trans s3)
      refine ⟨_, rfl, _, rfl, _, rfl, D, _, rfl, L2.sq_of (s13 _ _ hRG), fun a4 ha4 => ?_⟩
      rw [cut_drop]
      have s4 := same_upd (o := .lst ((ms.map V.int).drop at_)) ha4
      have k4 : upd Hg3 a4 (.lst ((ms.map V.int).drop at_)) a4 = some (.lst ((ms.map V.int).drop at_)) := upd_same
      generalize upd Hg3 a4 (.lst ((ms.map V.int).drop at_)) = Hg4 at s4 k4 ⊢
      refine ⟨a3, a4, _, _, rfl, rfl, L2.sq_of (s4 _ _ k3), L2.sq_of k4, by rw [List.length_append, lt, ld]; exact Nat.le_trans (by show at_ + 1 + (ms.length - at_) ≤ 2000; omega) (by decide), fun a5 ha5 => ?_⟩
      have s5 := same_upd (o := .lst ((ms.map V.int).take at_ ++ [odd] ++ (ms.map V.int).drop at_)) ha5
      have k5 : upd Hg4 a5 (.lst ((ms.map V.int).take at_ ++ [odd] ++ (ms.map V.int).drop at_)) a5 = some (.lst ((ms.map V.int).take at_ ++ [odd] ++ (ms.map V.int).drop at_)) := upd_same
      generalize upd Hg4 a5 (.lst ((ms.map V.int).take at_ ++ [odd] ++ (ms.map V.int).drop at_)) = Hg5 at s5 k5 ⊢
      refine ⟨by show 1 ≤ sizeLine; decide, fun a6 ha6 => ?_⟩
      have s6 := same_upd (o := .lst [.non]) ha6
      have k6 : upd Hg5 a6 (.lst [.non]) a6 = some (.lst [.non]) := upd_same
      generalize upd Hg5 a6 (.lst [.non]) = Hg6 at s6 k6 ⊢
      refine ⟨a5, a6, _, _, rfl, rfl, L2.sq_of (s6 _ _ k5), L2.sq_of k6, by rw [List.length_append, List.length_append, lt, ld]; exact Nat.le_trans (by show at_ + 1 + (ms.length - at_) + 1 ≤ 2000; omega) (by decide), fun a7 ha7 => ?_⟩
      have s7 := same_upd (o := .lst ((ms.map V.int).take at_ ++ [odd] ++ (ms.map V.int).drop at_ ++ [.non])) ha7
      have k7 : upd Hg6 a7 (.lst ((ms.map V.int).take at_ ++ [odd] ++ (ms.map V.int).drop at_ ++ [.non])) a7 = some (.lst ((ms.map V.int).take at_ ++ [odd] ++ (ms.map V.int).drop at_ ++ [.non])) := upd_same
      generalize hB : (ms.map V.int).take at_ ++ [odd] ++ (ms.map V.int).drop at_ ++ [.non] = B at s7 k7 ⊢
      generalize upd Hg6 a7 (.lst B) = Hg7 at s7 k7 ⊢
      have s17 := s13.trans (s4.trans (s5.trans (s6.trans s7)))
      have kq : ∀ {HZ : Hp} {b : Addr}, ExtN Hg7 HZ → RowAt HZ b B → LensQ (some 1000000000000000000) HZ (.ref b) 1 300 (some (at_ : Int)) := fun ez hb =>
        lens_put (ns := ms) (rest := (ms.map V.int).drop at_ ++ [.non]) hb (by rw [← hB]; simp [List.append_assoc]) hat hms (by decide) (by rw [List.length_append, ld]; show ((at_ + (ms.length - at_ + 1) + 1 : Nat) : Int) ≤ 300; omega) (ho.ext (eG.trans ((ExtN.of s17).trans ez))) hoi
      have T7 := TG.ext s17
      have e7 : ExtN HX Hg7 := eG.trans (.of s17)
      clear k1 k2 k3 k4 k5 k6 s1 s2 s3 s4 s5 s6 s7 s13 ha1 ha2 ha3 ha4 ha5 ha6 ha7
      refine ⟨T7, fun Ha1 ea1 Ta1 => ⟨_, rfl, .ref a7, rfl, .inl ⟨(at_ : Int), kq ea1 (.inl (ea1 _ _ k7 fun ps z => by cases z)), eErr (.tail _ (.head _)) fun t1 Hb1 sb1 ht1 => ⟨_, rfl, by show 2 ≤ sizeLine; decide, fun u1 hu1 => ?_⟩⟩⟩⟩
      have s1 := same_upd (o := .tup [.str "lengths", .int (at_ : Int)]) hu1
      refine ⟨_, _, dp_word (s1 _ _ ht1) (.int (at_ : Int)), dp_word (t := u1) upd_same (.int (at_ : Int)), shaped_word (by decide +kernel) (.int (at_ : Int)), shaped_word (by decide +kernel) (.int (at_ : Int)), false, ne_word (by decide +kernel) (.int (at_ : Int)), iteF ?_⟩
      have e1 : ExtN Hg7 (upd Hb1 u1 (.tup [.str "lengths", .int (at_ : Int)])) := ea1.trans (.of (sb1.trans s1))
      have T1 := (Ta1.ext sb1).ext s1
      generalize upd Hb1 u1 (.tup [.str "lengths", .int (at_ : Int)]) = Hc1 at e1 T1 ⊢
      clear s1 hu1 ht1 sb1 ea1 Ta1
      refine ⟨T1, fun Ha2 ea2 Ta2 => ⟨_, rfl, a7, _, rfl, .inl ⟨L2.sq_of ((e1.trans ea2) _ _ k7 fun ps z => by cases z), fun b4 hb4 => ⟨.ref b4, rfl, .inl ⟨(at_ : Int), kq ((e1.trans ea2).trans (.of (same_upd hb4))) (.inr upd_same), eErr (.tail _ (.head _)) fun t2 Hb2 sb2 ht2 => ⟨_, rfl, by show 2 ≤ sizeLine; decide, fun u2 hu2 => ?_⟩⟩⟩⟩⟩⟩
      have s2 := same_upd (o := .tup [.str "lengths", .int (at_ : Int)]) hu2
      refine ⟨_, _, dp_word (s2 _ _ ht2) (.int (at_ : Int)), dp_word (t := u2) upd_same (.int (at_ : Int)), shaped_word (by decide +kernel) (.int (at_ : Int)), shaped_word (by decide +kernel) (.int (at_ : Int)), false, ne_word (by decide +kernel) (.int (at_ : Int)), iteF ?_⟩
      have e2 : ExtN Hc1 (upd Hb2 u2 (.tup [.str "lengths", .int (at_ : Int)])) := ea2.trans (.of ((same_upd hb4).trans (sb2.trans s2)))
      have T2 := ((Ta2.ext (same_upd hb4)).ext sb2).ext s2
      generalize upd Hb2 u2 (.tup [.str "lengths", .int (at_ : Int)]) = Hc2 at e2 T2 ⊢
      clear s2 hu2 ht2 sb2 ea2 Ta2
      exact ⟨⟨_, _, _, rfl⟩, e7.trans (e1.trans e2), T2⟩
    rintro σ H4 ⟨⟨u2, u4, u5, rfl⟩, eX, T4⟩
    have D4 := D3.ext ((ExtN.of sX).trans eX)
    clear hLs hLL ko6 ho6 ko7 ho7 ko8 ho8 so6 so7 so8 sl
    clear hLX eX sX hDX itX
    refine ⟨by show 0 ≤ sizeLine; decide, fun o0b ho0b => ⟨by show 0 ≤ sizeLine; decide, fun o1b ho1b o6b ho6b => ⟨by show 1 ≤ sizeLine; decide, fun l7b hl7b => ⟨l7b, 301, [.int 1], rfl, rfl, upd_same, by decide, by decide, by show 1 * 301 ≤ sizeLine; decide, fun o7b ho7b => ⟨by show 1 ≤ sizeLine; decide, fun l8b hl8b => ⟨l8b, 301, [.non], rfl, rfl, upd_same, by decide, by decide, by show 1 * 301 ≤ sizeLine; decide, fun o8b ho8b => ⟨by show 9 ≤ sizeLine; decide, fun LLb hLLb => ⟨LLb, rfl, ⟨_, L2.st_of upd_same⟩, ?_⟩⟩⟩⟩⟩⟩⟩⟩
    generalize hLsb : ([_, _, _, _, _, _, _, _, _] : List V) = Lsb at hLLb ⊢
    have so0b := same_upd (o := .lst []) ho0b
    have ko0b : upd H4 o0b (.lst []) o0b = some (.lst []) := upd_same
    generalize upd H4 o0b (.lst []) = Hn0b at so0b ko0b ho1b ho6b hl7b ho7b hl8b ho8b hLLb ⊢
    have so1b := same_upd (o := .tup []) ho1b
    have ko1b : upd Hn0b o1b (.tup []) o1b = some (.tup []) := upd_same
    generalize upd Hn0b o1b (.tup []) = Hn1b at so1b ko1b ho6b hl7b ho7b hl8b ho8b hLLb ⊢
    have so6b := same_upd (o := .dK []) ho6b
    have ko6b : upd Hn1b o6b (.dK []) o6b = some (.dK []) := upd_same
    generalize upd Hn1b o6b (.dK []) = Hn2b at so6b ko6b hl7b ho7b hl8b ho8b hLLb ⊢
    have sl7b := same_upd (o := .lst [.int 1]) hl7b
    have kl7b : upd Hn2b l7b (.lst [.int 1]) l7b = some (.lst [.int 1]) := upd_same
    generalize upd Hn2b l7b (.lst [.int 1]) = Hn3b at sl7b kl7b ho7b hl8b ho8b hLLb ⊢
    have so7b := same_upd (o := .lst (List.replicate (301 : Int).toNat [.int 1]).flatten) ho7b
    have ko7b : upd Hn3b o7b (.lst (List.replicate (301 : Int).toNat [.int 1]).flatten) o7b = some (.lst (List.replicate (301 : Int).toNat [.int 1]).flatten) := upd_same
    generalize upd Hn3b o7b (.lst (List.replicate (301 : Int).toNat [.int 1]).flatten) = Hn4b at so7b ko7b hl8b ho8b hLLb ⊢
    have sl8b := same_upd (o := .lst [.non]) hl8b
    have kl8b : upd Hn4b l8b (.lst [.non]) l8b = some (.lst [.non]) := upd_same
    generalize upd Hn4b l8b (.lst [.non]) = Hn5b at sl8b kl8b ho8b hLLb ⊢
    have so8b := same_upd (o := .lst (List.replicate (301 : Int).toNat [.non]).flatten) ho8b
    have ko8b : upd Hn5b o8b (.lst (List.replicate (301 : Int).toNat [.non]).flatten) o8b = some (.lst (List.replicate (301 : Int).toNat [.non]).flatten) := upd_same
    generalize upd Hn5b o8b (.lst (List.replicate (301 : Int).toNat [.non]).flatten) = Hn6b at so8b ko8b  hLLb ⊢
    have slb := same_upd (o := .tup Lsb) hLLb
    have hLXb : upd Hn6b LLb (.tup Lsb) LLb = some (.tup Lsb) := upd_same
    generalize upd Hn6b LLb (.tup Lsb) = HXb at slb hLXb ⊢
    have sXb := (so0b.trans (so1b.trans (so6b.trans (sl7b.trans (so7b.trans (sl8b.trans (so8b.trans slb)))))))
    have itXb : ∀ y ∈ Lsb, LensQ (some 1000000000000000000) HXb y 1 300 (some (-1)) := by
      rw [← hLsb]
      intro y hy
      rcases List.mem_cons.mp hy with rfl | hy
      · exact .len rfl (.inl ((so1b.trans (so6b.trans (sl7b.trans (so7b.trans (sl8b.trans (so8b.trans slb)))))) _ _ ko0b)) (by decide +kernel)
      rcases List.mem_cons.mp hy with rfl | hy
      · exact .len rfl (.inr ((so6b.trans (sl7b.trans (so7b.trans (sl8b.trans (so8b.trans slb))))) _ _ ko1b)) (by decide +kernel)
      rcases List.mem_cons.mp hy with rfl | hy
      · exact .odd (.non) (by decide +kernel) (by decide +kernel)
      rcases List.mem_cons.mp hy with rfl | hy
      · exact .odd (.int _) (by decide +kernel) (by decide +kernel)
      rcases List.mem_cons.mp hy with rfl | hy
      · exact .odd (.str _) (by decide +kernel) (by decide +kernel)
      rcases List.mem_cons.mp hy with rfl | hy
      · exact .odd (.bl _) (by decide +kernel) (by decide +kernel)
      rcases List.mem_cons.mp hy with rfl | hy
      · exact .odd (.dK ((sl7b.trans (so7b.trans (sl8b.trans (so8b.trans slb)))) _ _ ko6b)) (by decide +kernel) (by decide +kernel)
      rcases List.mem_cons.mp hy with rfl | hy
      · exact .len rfl (.inl ((sl8b.trans (so8b.trans slb)) _ _ ko7b)) (by decide +kernel)
      rw [List.mem_singleton.mp hy]
      exact .len rfl (.inl (slb _ _ ko8b)) (by decide +kernel)
    refine for_tup (K := K) (a := LLb) (xs := Lsb) (fun i σ H' => (∃ (u2 u4 u5 : Option V), σ = [some (.ref p), some (.ref D), u2, some (.int (at_ : Int)), u4, u5]) ∧ ExtN HXb H' ∧ Tabs (LT a) H')
      ⟨⟨_, _, _, rfl⟩, ExtN.refl _, T4.ext sXb⟩ (fun i σ H' _ h => L2.st_of (h.2.1 _ _ hLXb fun ps z => by cases z)) ?_ ?_
    · rintro i y σ HG hy ⟨⟨u2, u4, u5, rfl⟩, eG, TG⟩
      have hk := itXb y (List.mem_of_getElem? hy)
      refine ⟨TG, fun Ha3 ea3 Ta3 => ⟨_, rfl, y, rfl, .inl ⟨-1, lensExt (eG.trans ea3) hk, eErr (.tail _ (.head _)) fun t3 Hb3 sb3 ht3 => ⟨_, rfl, by show 2 ≤ sizeLine; decide, fun u3 hu3 => ?_⟩⟩⟩⟩
      have s3 := same_upd (o := .tup [.str "lengths", .int (-1)]) hu3
      refine ⟨_, _, dp_word (s3 _ _ ht3) (.int (-1)), dp_word (t := u3) upd_same (.int (-1)), shaped_word (by decide +kernel) (.int (-1)), shaped_word (by decide +kernel) (.int (-1)), false, ne_word (by decide +kernel) (.int (-1)), iteF ?_⟩
      have e3 : ExtN HG (upd Hb3 u3 (.tup [.str "lengths", .int (-1)])) := ea3.trans (.of (sb3.trans s3))
      have T3 := (Ta3.ext sb3).ext s3
      generalize upd Hb3 u3 (.tup [.str "lengths", .int (-1)]) = Hc3 at e3 T3 ⊢
      clear s3 hu3 ht3 sb3 ea3 Ta3
      exact ⟨⟨_, _, _, rfl⟩, eG.trans e3, T3⟩
    rintro σ H5 ⟨⟨u2, u4, u5, rfl⟩, eX, T5⟩
    have D5 := D4.ext ((ExtN.of sXb).trans eX)
    clear itXb hLXb
    refine ⟨by show 1 ≤ sizeLine; decide, fun t ht => ⟨t, 300, [.int 1], rfl, rfl, L2.st_of upd_same, by decide, by decide, by decide, by decide, fun p3 hp3 => ?_⟩⟩
    rw [show (List.replicate (300 : Int).toNat [V.int 1]).flatten = ones 300 from by decide +kernel]
    have s6 := (same_upd (o := .tup [.int 1]) ht).trans (same_upd (o := .tup (ones 300)) hp3)
    refine ⟨.ref p3, rfl, .inr ⟨p3, rfl, upd_same, fun H6 s7 => ⟨rfl, ?_⟩⟩⟩
    exact q H6 (D5.ext (.of (s6.trans s7))) (T5.ext (s6.trans s7))
end

end K78

namespace K78
open PySem PySem.Spec PyProof.Rows L2 LamX
def spLaw (K : PySem.W.Frag) (TT : List (Addr × Str)) : Sp := fun vs H Q _ => ∃ (p : Addr) (ns : List Int), vs = [.ref p] ∧ SqL K H p (ns.map V.int) ∧ ns.length ≤ 63 ∧ LamX.Tabs TT H ∧ ∀ H', Q (.bl true) H'
theorem cells_int17 {ns : List Int} {lo hi : Option Int} {x : V} (h : x ∈ cutV (ns.map V.int ++ [V.int 0]) lo hi) : ∃ c, x = .int c := by
  rcases List.mem_append.mp (cut_mem h) with h | h
  · obtain ⟨c, _, e⟩ := List.mem_map.mp h
    exact ⟨c, e.symm⟩
  · exact ⟨0, List.mem_singleton.mp h⟩
theorem cpow30 : CPowW 10 30 := ⟨by decide, by decide⟩
theorem cpow9 : CPowW 10 9 := ⟨by decide, by decide⟩
abbrev pdEnd : PyData := .tuple [.int 62, .int 63, .list [.tuple [.int 0, .int 1]]]
theorem end_shaped : SeqAt.shaped pdEnd = true := by decide +kernel
section
variable {P : Program} {w : World} {K : PySem.W.Frag} {mg : Str → Option Value} {base : Heap} {a : Ad} {d : Fd}
theorem ok_law (T : Txt K mg a d) (TB_numbers_right : TabB base mg a.lc_numbers_right a.lp_numbers_right) (TB_lengths_right : TabB base mg a.lc_lengths_right a.lp_lengths_right) (TB_law : TabB base mg a.lc_law a.lp_law) : FnOk P w K mg base CX0 13 a.law d.law P_law (spLaw K (LT a)) := by
  have G_source : FnOk P w K mg base CX0 1 a.source d.source P_source spSource := ok_source T
  have G_draw : FnOk P w K mg base CX0 1 a.draw d.draw P_draw spDraw := ok_draw T
  have G_numbers_right : FnOk P w K mg base CX0 12 a.numbers_right d.numbers_right P_numbers_right (spNumR a) := ok_numbers_right T TB_numbers_right
  have G_lengths_right : FnOk P w K mg base CX0 12 a.lengths_right d.lengths_right P_lengths_right (spLensR a) := ok_lengths_right T TB_lengths_right
  have G_fewest : FnOk P w K mg base (L2.CX P w) 5 a.fewest d.fewest P_fewest (spManyX a.c_InvalidNumber 63 (fun v H Q => v = .int 63 ∧ Q (.int 62) H)) := ok_fewest T
  have G_most_keys : FnOk P w K mg base (L2.CX P w) 5 a.most_keys d.most_keys P_most_keys (spManyX a.c_InvalidNumber 63 (fun v H Q => v = .int 63 ∧ ∀ p xs H', Same H H' → H' p = some (.lst xs) → xs.length = 63 → Q (.ref p) H')) := ok_most_keys T
  have G_spread : FnOk P w K mg base (L2.CX P w) 7 a.spread d.spread P_spread (spManyX a.c_InvalidNumber 6 GSpread) := ok_spread T
  refine T.f_law.okC T.lc_law sc_law (fun vs H Q E h => ?_) (fun A outer s0 H vs Q E hr h => ?_)
  · obtain ⟨p, n, rfl, _⟩ := h
    rfl
  · obtain ⟨sc, ns, rfl, hS, hlen, hT, q⟩ := h
    refine ⟨_, (pss_cons (ps_for PassesOwn.never rfl (pi_tup (pe_tup (pa_cons (pe_un un_neg pe_int) (pa_cons pe_int (pa_cons pe_bl (pa_cons pe_bl (pa_cons pe_non (pa_cons pe_str (pa_cons (pe_lst (pa_cons pe_int pa_nil)) (pa_cons (pe_tup pa_nil) (pa_cons pe_dnewK (pa_cons (pe_op op_powW pe_int pe_int) pa_nil)))))))))))) (pg_name (i := 1) sc_law.nd rfl (Or.inr rfl))
      (pss_one (ps_if (pt_not (pt_val (pe_call G_numbers_right (hr.mono (by decide)) (by rfl) T.g_numbers_right T.k_numbers_right T.b_numbers_right .nil pass0 (pa_cons (pv 1) pa_nil)))) (pss_one (ps_ret pe_bl)) pss_nil)))
    (pss_cons (ps_for PassesOwn.never rfl (pi_tup (pe_tup (pa_cons pe_int (pa_cons pe_int pa_nil)))) (pg_name (i := 1) sc_law.nd rfl (Or.inr rfl))
      (pss_one (ps_if (pt_cmpR (op_neD hr.units) (pe_lamcallG (T := LT a) (k := 9) T.f_error (by rfl) T.g_error T.k_error T.b_error sc_error rfl (Or.inl rfl) (gives_error T) TB_law rfl (hm_law a) (hu_law T) (hr.mono (by decide)) (free_by (show freeB (defScope s_law) _ = true from by decide +kernel)) rfl (Or.inl rfl) (.plain (lamS_by (show lamSB (defScope s_law) _ = true from by decide +kernel)) rfl (fun _ _ _ _ _ _ => rfl) (fun A1 outer1 s1 H1 E1 f1 c1 hr1 => (pe_call G_spread (hr1.mono (by decide)) (by rfl) T.g_spread T.k_spread T.b_spread .nil (passY rfl rfl rfl rfl) (pa_cons (pv 1) pa_nil))))) (pe_tup (pa_cons pe_str (pa_cons pe_str pa_nil))) (nomark _)) (pss_one (ps_ret pe_bl)) pss_nil)))
    (pss_cons (ps_for PassesOwn.never rfl (pi_list (pe_slice sl_list (pe_op op_catS (pv 0) (pe_lst (pa_cons pe_int pa_nil))) po_none (po_some pe_int))) (pg_name (i := 2) sc_law.nd rfl (Or.inl rfl))
      (pss_cons (ps_set (i := 3) sc_law.nd rfl (Or.inl rfl) (pe_call G_source (hr.mono (by decide)) (by rfl) T.g_source T.k_source T.b_source .nil pass0 (pa_cons (pv 2) pa_nil)))
        (pss_one (ps_if (PW.pt (pw_or (pt_not (pt_val (pe_call G_lengths_right (hr.mono (by decide)) (by rfl) T.g_lengths_right T.k_lengths_right T.b_lengths_right .nil pass0 (pa_cons (pv 3) pa_nil)))) (pw_or1 (pt_not (pt_val (pe_call G_numbers_right (hr.mono (by decide)) (by rfl) T.g_numbers_right T.k_numbers_right T.b_numbers_right .nil pass0 (pa_cons (pe_op op_add pe_int (pe_call G_draw (hr.mono (by decide)) (by rfl) T.g_draw T.k_draw T.b_draw .nil pass0 (pa_cons (pv 3) (pa_cons (pe_op op_powW pe_int pe_int) pa_nil)))) pa_nil))))))) (pss_one (ps_ret pe_bl)) pss_nil))))
    (pss_one (ps_ret (pe_cmpR (op_eqD hr.units) (pe_tup (pa_cons (pe_call G_fewest (hr.mono (by decide)) (by rfl) T.g_fewest T.k_fewest T.b_fewest .nil passL (pa_cons pe_int pa_nil)) (pa_cons (pe_callB call_len_seq (by rfl) T.z_len PySem.boot_len (pa_cons (pe_call G_most_keys (hr.mono (by decide)) (by rfl) T.g_most_keys T.k_most_keys T.b_most_keys .nil passL (pa_cons pe_int pa_nil)) pa_nil)) (pa_cons (pe_call G_spread (hr.mono (by decide)) (by rfl) T.g_spread T.k_spread T.b_spread .nil passL (pa_cons pe_int pa_nil)) pa_nil)))) (pe_tup (pa_cons pe_int (pa_cons pe_int (pa_cons (pe_lst (pa_cons (pe_tup (pa_cons pe_int (pa_cons pe_int pa_nil))) pa_nil)) pa_nil)))) (nomark _))))))), ?_⟩
    have ln : (ns.map V.int).length = ns.length := List.length_map _
    have sz : (ns.map V.int).length + 1 ≤ sizeLine := Nat.le_trans (by omega) (by decide : 64 ≤ sizeLine)
    refine ⟨_, rfl, by show 1 ≤ sizeLine; decide, fun o6 ho6 => ⟨by show 0 ≤ sizeLine; decide, fun o7 ho7 o8 ho8 => ⟨_, _, rfl, rfl, cpow30, by show 10 ≤ sizeLine; decide, fun LL hLL => ⟨LL, rfl, ⟨_, L2.st_of upd_same⟩, ?_⟩⟩⟩⟩
    generalize hLs : ([_, _, _, _, _, _, _, _, _, _] : List V) = Ls at hLL ⊢
    have so6 := same_upd (o := .lst [.int 3]) ho6
    have ko6 : upd H o6 (.lst [.int 3]) o6 = some (.lst [.int 3]) := upd_same
    generalize upd H o6 (.lst [.int 3]) = Hn0 at so6 ko6 ho7 ho8 hLL ⊢
    have so7 := same_upd (o := .tup []) ho7
    have ko7 : upd Hn0 o7 (.tup []) o7 = some (.tup []) := upd_same
    generalize upd Hn0 o7 (.tup []) = Hn1 at so7 ko7 ho8 hLL ⊢
    have so8 := same_upd (o := .dK []) ho8
    have ko8 : upd Hn1 o8 (.dK []) o8 = some (.dK []) := upd_same
    generalize upd Hn1 o8 (.dK []) = Hn2 at so8 ko8  hLL ⊢
    have sl := same_upd (o := .tup Ls) hLL
    have hLX : upd Hn2 LL (.tup Ls) LL = some (.tup Ls) := upd_same
    generalize upd Hn2 LL (.tup Ls) = HX at sl hLX ⊢
    have sX := (so6.trans (so7.trans (so8.trans sl)))
    have itX : ∀ y ∈ Ls, ∃ T, AnyV HX y T ∧ inR 0 (some 63) y = false := by
      rw [← hLs]
      intro y hy
      rcases List.mem_cons.mp hy with rfl | hy
      · exact ⟨_, .int _, inR_low (by decide)⟩
      rcases List.mem_cons.mp hy with rfl | hy
      · exact ⟨_, .int _, inR_high (by decide)⟩
      rcases List.mem_cons.mp hy with rfl | hy
      · exact ⟨_, .bl _, rfl⟩
      rcases List.mem_cons.mp hy with rfl | hy
      · exact ⟨_, .bl _, rfl⟩
      rcases List.mem_cons.mp hy with rfl | hy
      · exact ⟨_, .non, rfl⟩
      rcases List.mem_cons.mp hy with rfl | hy
      · exact ⟨_, .str _, rfl⟩
      rcases List.mem_cons.mp hy with rfl | hy
      · exact ⟨_, .lst ((so7.trans (so8.trans sl)) _ _ ko6), rfl⟩
      rcases List.mem_cons.mp hy with rfl | hy
      · exact ⟨_, .tup ((so8.trans sl) _ _ ko7), rfl⟩
      rcases List.mem_cons.mp hy with rfl | hy
      · exact ⟨_, .dK (sl _ _ ko8), rfl⟩
      rw [List.mem_singleton.mp hy]
      exact ⟨_, .int _, inR_high (by decide)⟩
    refine for_tup (K := K) (a := LL) (xs := Ls) (fun i σ H' => (∃ (u1 u2 u3 : Option V), σ = [some (.ref sc), u1, u2, u3]) ∧ ExtN HX H' ∧ Tabs (LT a) H')
      ⟨⟨_, _, _, rfl⟩, ExtN.refl _, hT.ext sX⟩ (fun i σ H' _ h => L2.st_of (h.2.1 _ _ hLX fun ps z => by cases z)) ?_ ?_
    · rintro i y σ HG hy ⟨⟨u1, u2, u3, rfl⟩, eG, TG⟩
      obtain ⟨Tk, hk, hki⟩ := itX y (List.mem_of_getElem? hy)
      refine ⟨_, rfl, y, Tk, rfl, hk.ext eG, hki, TG, fun Ha ea Ta => ⟨true, rfl, iteF ?_⟩⟩
      exact ⟨⟨_, _, _, rfl⟩, eG.trans ea, Ta⟩
    rintro σ H1 ⟨⟨u1, u2, u3, rfl⟩, eX, T1⟩
    have hS1 := seqN ((ExtN.of sX).trans eX) hS
    clear hLs hLL ko6 ho6 ko7 ho7 ko8 ho8 so6 so7 so8 sl
    clear hLX eX sX itX hT hS
    refine ⟨by show 2 ≤ sizeLine; decide, fun LLb hLLb => ⟨LLb, rfl, ⟨_, L2.st_of upd_same⟩, ?_⟩⟩
    generalize hLsb : ([_, _] : List V) = Lsb at hLLb ⊢
    have slb := same_upd (o := .tup Lsb) hLLb
    have hLXb : upd H1 LLb (.tup Lsb) LLb = some (.tup Lsb) := upd_same
    generalize upd H1 LLb (.tup Lsb) = HXb at slb hLXb ⊢
    have sXb := slb
    have itXb : ∀ y ∈ Lsb, ∃ T, AnyV HXb y T ∧ inR 0 (some 6) y = false := by
      rw [← hLsb]
      intro y hy
      rcases List.mem_cons.mp hy with rfl | hy
      · exact ⟨_, .int _, inR_high (by decide)⟩
      rw [List.mem_singleton.mp hy]
      exact ⟨_, .int _, inR_high (by decide)⟩
    refine for_tup (K := K) (a := LLb) (xs := Lsb) (fun i σ H' => (∃ (u1 u2 u3 : Option V), σ = [some (.ref sc), u1, u2, u3]) ∧ ExtN HXb H' ∧ Tabs (LT a) H')
      ⟨⟨_, _, _, rfl⟩, ExtN.refl _, T1.ext sXb⟩ (fun i σ H' _ h => L2.st_of (h.2.1 _ _ hLXb fun ps z => by cases z)) ?_ ?_
    · rintro i y σ HG hy ⟨⟨u1, u2, u3, rfl⟩, eG, TG⟩
      obtain ⟨Tk, hk, hki⟩ := itXb y (List.mem_of_getElem? hy)
      refine ⟨TG, fun Ha1 ea1 Ta1 => ⟨_, rfl, y, Tk, rfl, hk.ext (eG.trans ea1), .inl ⟨hki, eErr (.head _) fun t1 Hb1 sb1 ht1 => ⟨by show 2 ≤ sizeLine; decide, fun u1 hu1 => ?_⟩⟩⟩⟩
      have s1 := same_upd (o := .tup [.str "number", .str "many"]) hu1
      refine ⟨_, _, dp_word (s1 _ _ ht1) (.str "many" (by decide +kernel)), dp_word (t := u1) upd_same (.str "many" (by decide +kernel)), shaped_word (by decide +kernel) (.str "many" (by decide +kernel)), shaped_word (by decide +kernel) (.str "many" (by decide +kernel)), false, ne_word (by decide +kernel) (.str "many" (by decide +kernel)), iteF ?_⟩
      have e1 : ExtN HG (upd Hb1 u1 (.tup [.str "number", .str "many"])) := ea1.trans (.of (sb1.trans s1))
      have T1 := (Ta1.ext sb1).ext s1
      generalize upd Hb1 u1 (.tup [.str "number", .str "many"]) = Hc1 at e1 T1 ⊢
      clear s1 hu1 ht1 sb1 ea1 Ta1
      exact ⟨⟨_, _, _, rfl⟩, eG.trans e1, T1⟩
    rintro σ HB ⟨⟨u1, u2, u3, rfl⟩, eX, TB⟩
    have hSB := seqN ((ExtN.of sXb).trans eX) hS1
    clear hLXb eX sXb itXb T1 hS1
    refine ⟨_, rfl, by show 1 ≤ sizeLine; decide, fun b2 hb2 => ⟨sc, b2, _, _, rfl, rfl, (same_upd hb2).seq hSB, L2.sq_of upd_same, sz, fun c2 hc2 => ?_⟩⟩
    refine ⟨3, rfl, c2, _, rfl, L2.sq_of upd_same, fun e he => ⟨e, rfl, ⟨_, L2.sq_of upd_same⟩, ?_⟩⟩
    have TE : Tabs (LT a) (upd (upd (upd HB b2 (.lst [.int 0])) c2 (.lst (ns.map V.int ++ [V.int 0]))) e (.lst (cutV (ns.map V.int ++ [V.int 0]) none (some 3)))) := ((TB.ext (same_upd hb2)).ext (same_upd hc2)).ext (same_upd he)
    generalize hHe : upd (upd (upd HB b2 (.lst [.int 0])) c2 (.lst (ns.map V.int ++ [V.int 0]))) e (.lst (cutV (ns.map V.int ++ [V.int 0]) none (some 3))) = He at TE ⊢
    have hE : He e = some (.lst (cutV (ns.map V.int ++ [V.int 0]) none (some 3))) := by
      rw [← hHe]
      exact upd_same
    refine for_list (K := K) (a := e) (xs := cutV (ns.map V.int ++ [V.int 0]) none (some 3)) (fun i σ H' => (∃ (u1 u2 u3 : Option V), σ = [some (.ref sc), u1, u2, u3]) ∧ ExtN He H' ∧ Tabs (LT a) H')
      ⟨⟨_, _, _, rfl⟩, ExtN.refl _, TE⟩ (fun i σ H' _ h => L2.sq_of (h.2.1 _ _ hE fun ps z => by cases z)) ?_ ?_
    · rintro i y σ H2 hy ⟨⟨u1, u2, u3, rfl⟩, sm, T2⟩
      obtain ⟨cell, rfl⟩ := cells_int17 (List.mem_of_getElem? hy)
      refine ⟨_, rfl, cell, rfl, fun p x y z x0 hp => ?_⟩
      have sm1 : ExtN He (upd H2 p (.lst [.int x, .int y, .int z])) := sm.trans (ExtN.of (same_upd hp))
      have sr1 : Src (upd H2 p (.lst [.int x, .int y, .int z])) p := .put x0
      have T3 := T2.ext (same_upd (o := .lst [.int x, .int y, .int z]) hp)
      have fp : ∀ b o, (∀ ps, o ≠ HO.tbl ps) → He b = some o → b ≠ p := fun b o n h z => by
        have h2 := sm _ _ h n
        rw [z, hp] at h2
        cases h2
      generalize upd H2 p (.lst [.int x, .int y, .int z]) = H3 at sm1 sr1 T3 ⊢
      have sDn : ∀ {H4 : Hp}, DnT p H3 H4 → ExtN He H4 := fun d b o e n => d.1 b o (fp b o n e) n (sm1 _ _ e n)
      clear fp sm1 sm
      refine ⟨_, rfl, p, rfl, sr1, T3, fun HM dM TM => ⟨true, rfl, iteF ?_⟩⟩
      refine ⟨_, rfl, _, _, rfl, rfl, cpow9, p, _, rfl, dM.2, by decide, by decide, fun v x y z v0 v1 x0 => ?_⟩
      have d4 : Dn p HM (upd HM p (.lst [.int x, .int y, .int z])) := .put x0
      have TN := tabs_dn TM dM.2 d4
      have dN := dM.trans (.of d4)
      generalize upd HM p (.lst [.int x, .int y, .int z]) = HN at TN dN ⊢
      refine ⟨_, _, rfl, rfl, _, "int", rfl, .int _, inR_high (by omega), TN, fun HO eO TO => ⟨true, rfl, iteF ?_⟩⟩
      exact ⟨⟨_, _, _, rfl⟩, (sDn dN).trans eO, TO⟩
    rintro σ H2 ⟨⟨u1, u2, u3, rfl⟩, sm, T2⟩
    refine ⟨.int 63, "int", rfl, .int 63, .inr ⟨inR_yes (by decide) (by decide), rfl, .int 63, "int", rfl, .int 63, .inr ⟨inR_yes (by decide) (by decide), rfl, fun p1 xs H3 s3 hp1 hl => ⟨p1, xs, rfl, .inl (L2.sq_of hp1), ?_⟩⟩⟩⟩
    rw [hl]
    refine ⟨.int 0, "int", rfl, .int 0, .inr ⟨inR_yes (by decide) (by decide), rfl, fun p2 t2 H4 s4 hp2 ht2 => ⟨by show 3 ≤ sizeLine; decide, fun t3 ht3 => ?_⟩⟩⟩
    refine ⟨by show 2 ≤ sizeLine; decide, fun t4 ht4 => ⟨by show 1 ≤ sizeLine; decide, fun l4 hl4 => ⟨by show 3 ≤ sizeLine; decide, fun t5 ht5 => ?_⟩⟩⟩
    have k3 := same_upd (o := .tup [.int 62, .int ((63 : Nat) : Int), .ref p2]) ht3
    have k4 := same_upd (o := .tup [.int 0, .int 1]) ht4
    have k5 := same_upd (o := .lst [.ref t4]) hl4
    have k6 := same_upd (o := .tup [.int 62, .int 63, .ref l4]) ht5
    refine ⟨pdEnd, pdEnd, ?_, ?_, end_shaped, end_shaped, ?_⟩
    · exact .tup (L2.st_of ((k4.trans (k5.trans k6)) _ _ upd_same)) (.cons (.int 62) (.cons (.int 63) (.cons (.lst (L2.sq_of ((k3.trans (k4.trans (k5.trans k6))) _ _ hp2)) (.cons (.tup (L2.st_of ((k3.trans (k4.trans (k5.trans k6))) _ _ ht2)) (.cons (.int 0) (.cons (.int 1) .nil))) .nil)) .nil)))
    · exact .tup (L2.st_of upd_same) (.cons (.int 62) (.cons (.int 63) (.cons (.lst (L2.sq_of (k6 _ _ upd_same)) (.cons (.tup (L2.st_of ((k5.trans k6) _ _ upd_same)) (.cons (.int 0) (.cons (.int 1) .nil))) .nil)) .nil)))
    · rw [eqv_same end_shaped]
      exact q _
end

end K78

/-! a head by one run of the top: the facts of a law's defs, classes, errors and tables as one Bool each -/
namespace Hd
open PySem PySem.Spec PyProof.Rows L2 He
/-! ### the Hook, over given addresses -/
def obsY (as : List Addr) (fn : List DefD) (tf : List Defn) (ex : PySem.W.Frag → Bool) (g : Addr → Option Obj) : AlX := (obsT [] fn [] (frT g as), ex (frT g as) && tabsB g tf (frT g as))
theorem saysY_of {as : List Addr} {fn : List DefD} {tf : List Defn} {ex : PySem.W.Frag → Bool} {w : World} {h : Heap} (e : obsY as fn tf ex h.get? = valX fn [] w) : SaysX [] fn [] tf ex w h (frT h.get? as) := by
  have e1 : obsT [] fn [] (frT h.get? as) = valT fn [] w := congrArg (fun z : AlX => z.1) e
  have e2 : (ex (frT h.get? as) && tabsB h.get? tf (frT h.get? as)) = true := congrArg (fun z : AlX => z.2) e
  obtain ⟨h1, h2⟩ := ba e2
  have key : ∀ p ∈ tf, PySem.W.codeHdIn (frT h.get? as) (cT (frT h.get? as) p).1 (cT (frT h.get? as) p).2 = true ∧ ∃ o, h.get? (cT (frT h.get? as) p).2 = some o ∧ emptyTab o = true := fun p hp => by
    obtain ⟨h3, h4⟩ := ba (List.all_eq_true.mp h2 p hp)
    refine ⟨h3, ?_⟩
    cases q : h.get? (cT (frT h.get? as) p).2 with
    | none =>
      rw [q] at h4
      cases h4
    | some o =>
      rw [q] at h4
      exact ⟨o, rfl, h4⟩
  exact ⟨e1, h1, fun p hp => (key p hp).1, fun p hp => by
    obtain ⟨_, o, q, z⟩ := key p hp
    exact frT_none q z, fun p hp => by
    obtain ⟨_, o, q, z⟩ := key p hp
    rw [q, emptyTab_eq z]⟩
def hookY (as : List Addr) (fn : List DefD) (tf : List Defn) (ex : PySem.W.Frag → Bool) : PySem.W.Hook where
  α := AlX
  obs := fun s => obsY as fn tf ex s.heap.get?
  val := fun w => valX fn [] w
  says := fun w h => ∃ K : PySem.W.Frag, K.In h ∧ SaysX [] fn [] tf ex w h K
  of := fun _ _ e => ⟨_, frT_in, saysY_of e⟩
  keeps := fun _ _ _ ⟨K, hK, c⟩ k => ⟨K, PySem.W.Frag.In.keeps hK k, ⟨c.t, c.more, c.hd, c.out, fun p hp => k _ _ (c.empty p hp)⟩⟩
theorem obsY_eq {as : List Addr} {fn : List DefD} {tf : List Defn} {ex : PySem.W.Frag → Bool} {g : Addr → Option Obj} {s : Shared} (h : ∀ a, g a = s.heap.get? a) : obsY as fn tf ex g = (hookY as fn tf ex).obs s := by
  have e : g = s.heap.get? := funext h
  rw [e] <;> rfl
/-! ### a fact off the list -/
theorem at_ {bs : List Bool} (h : bs.all id = true) (i : Nat) {b : Bool} (e : bs[i]? = some b) : b = true := List.all_eq_true.mp h b (List.mem_of_getElem? e)
theorem dec {bs : List Bool} (h : bs.all id = true) (i : Nat) {p : Prop} [Decidable p] (e : bs[i]? = some (decide p)) : p := of_decide_eq_true (at_ h i e)
section
variable {K : PySem.W.Frag}
def intB (K : PySem.W.Frag) (x : Str) (i : Int) : Bool := match PySem.W.nsIn K mainGlobals x with
  | some (some (.int j _)) => decide (j = i)
  | _ => false
theorem intB_ok {x : Str} {i : Int} (h : intB K x i = true) : ∃ t, PySem.W.nsIn K mainGlobals x = some (some (.int i t)) := by
  unfold intB at h
  cases e : PySem.W.nsIn K mainGlobals x with
  | none =>
    rw [e] at h
    cases h
  | some o =>
    rw [e] at h
    cases o with
    | none => cases h
    | some v =>
      cases v with
      | int j t =>
        have ej : j = i := of_decide_eq_true h
        exact ⟨t, by rw [ej]⟩
      | _ => cases h
def initB (K : PySem.W.Frag) (C : Addr) (n : String) : Bool := match PySem.W.findCls K (.ref C) (.type "type") "__init__" with
  | some (.val v) => decide (v = .builtin n)
  | _ => false
theorem initB_ok {C : Addr} {n : String} (h : initB K C n = true) : PySem.W.findCls K (.ref C) (.type "type") "__init__" = some (.val (.builtin n)) := by
  unfold initB at h
  cases e : PySem.W.findCls K (.ref C) (.type "type") "__init__" with
  | none =>
    rw [e] at h
    cases h
  | some o =>
    rw [e] at h
    cases o with
    | val v =>
      have ev : v = .builtin n := of_decide_eq_true h
      rw [ev]
    | _ => cases h
def excB (K : PySem.W.Frag) (C B : Addr) : Bool := match K.lookup C with
  | some ⟨.type c, _, .cls cd, sl⟩ => decide (c = "type") && (cd.hasDict && (!cd.hasDel && (decide (cd.mro = [.ref C, .ref B, .type "ValueError", .type "Exception", .type "BaseException", .type "object"]) && (match sl.toList with
    | [_, _, _, _, some (.builtin n), _] => decide (n = "ValueError.__new__")
    | _ => false))))
  | _ => false
theorem excB_ok {C B : Addr} (h : excB K C B = true) : ∃ nm q N bs sn sub ab col dd m0 m1 m2 m3 m5, K.lookup C = some (excClassObj nm q C N bs [.ref B, .type "ValueError", .type "Exception", .type "BaseException", .type "object"] true sn sub ab col dd m0 m1 m2 m3 m5 "ValueError.__new__") := by
  unfold excB at h
  split at h
  · rename_i c dd cd sl ho
    obtain ⟨h1, i1⟩ := ba h
    obtain ⟨h2, i2⟩ := ba i1
    obtain ⟨h3, i3⟩ := ba i2
    obtain ⟨h4, i4⟩ := ba i3
    clear h i1 i2 i3
    split at i4
    · rename_i k0 k1 k2 k3 n k5 hs
      obtain ⟨nm, bs, mro, ns, qn, hdc, sn, sub, ab, col, del⟩ := cd
      have e1 : c = "type" := of_decide_eq_true h1
      have e4 := of_decide_eq_true h4
      have e5 : n = "ValueError.__new__" := of_decide_eq_true i4
      have e3 : del = false := by
        cases del with
        | false => rfl
        | true => cases h3
      have e2 : hdc = true := h2
      have hsl : sl = #[k0, k1, k2, k3, some (.builtin n), k5] := by
        obtain ⟨l⟩ := sl
        simp only at hs
        rw [hs]
      dsimp only at e4
      subst e1 e2 e3 e4 e5 hsl
      exact ⟨nm, qn, ns, bs, sn, sub, ab, col, dd, k0, k1, k2, k3, k5, ho⟩
    · cases i4
  · cases h
/-! ### defs -/
variable {fa : List Fa} {fn : List DefD}
theorem lookD {d : DefD} (e : fnW K d.at_ = d.val) (c : d.ok K = true) : ∃ oc od sl dV kV dc pm an cd ct, K.lookup (fAd K d.at_) = some ⟨oc, od, .func (PySem.W.fnOf d.name d.qual d.params d.body d.scope dV kV dc pm an cd ct), sl⟩ ∧ PySem.W.codeIn K cd d.qual = true ∧ PySem.W.keepIn K (.ref (fAd K d.at_)) = true ∧ dflB K dV (d.dvs K) = true ∧ kwdB K kV (d.kws K) = true := by
  obtain ⟨kp, c2⟩ := ba c
  unfold fnW at e
  cases q : K.lookup (fAd K d.at_) with
  | none =>
    rw [q] at c2
    cases c2
  | some o =>
    obtain ⟨oc, od, dt, osl⟩ := o
    rw [q] at c2 e
    cases dt with
    | func fd =>
      obtain ⟨n1, n2, n3, n4, n5, n6, n7, n8, n9, n10, n11, n12, n13, n14, n15⟩ := fd
      have e2 : (some (n1, n2, n3, n4, n5, n6, n7, n15) : FnW) = some (d.name, d.qual, d.params, .stmts d.body, d.scope, mainGlobals, [], builtinsNs) := e
      simp only [Option.some.injEq, Prod.mk.injEq] at e2
      obtain ⟨h1, h2, h3, h4, h5, h6, h7, h8⟩ := e2
      subst h1 h2 h3 h4 h5 h6 h7 h8
      have c3 : (PySem.W.codeIn K n13 d.qual && (dflB K n8 (d.dvs K) && kwdB K n9 (d.kws K))) = true := c2
      obtain ⟨k1, k2⟩ := ba c3
      obtain ⟨k3, k4⟩ := ba k2
      exact ⟨oc, od, osl, n8, n9, n10, n11, n12, n13, n14, rfl, k1, kp, k3, k4⟩
    | _ => cases c2
theorem looks (c : SaysD fa fn K) (i : Nat) {d : DefD} (h : fn[i]? = some d) : ∃ oc od sl dV kV dc pm an cd ct, K.lookup (fAd K d.at_) = some ⟨oc, od, .func (PySem.W.fnOf d.name d.qual d.params d.body d.scope dV kV dc pm an cd ct), sl⟩ ∧ PySem.W.codeIn K cd d.qual = true ∧ PySem.W.keepIn K (.ref (fAd K d.at_)) = true ∧ dflB K dV (d.dvs K) = true ∧ kwdB K kV (d.kws K) = true := by
  have c2 := (ba (show ((fa.all fun f => f.ok K) && fn.all fun d => d.ok K) = true from congrArg (fun z : AlD => z.1) c)).2
  have e : fn.map (fun d => fnW K d.at_) = fn.map DefD.val := congrArg (fun z : AlD => z.2) c
  have e2 : (fn.map fun d => fnW K d.at_)[i]? = (fn.map DefD.val)[i]? := by rw [e]
  rw [List.getElem?_map, List.getElem?_map, h] at e2
  exact lookD (Option.some.inj e2) (List.all_eq_true.mp c2 d (List.mem_of_getElem? h))
/-- a def without defaults -/
theorem look (c : SaysD fa fn K) (i : Nat) {p : Str × Option Str} {nm q : Str} {ar : Arguments} {bd : List Stmt} {sc : Scope} (h : fn[i]? = some ⟨p, nm, q, ar, bd, sc, [], []⟩) : ∃ oc od sl kV dc pm an cd ct, K.lookup (fAd K p) = some ⟨oc, od, .func (PySem.W.fnOf nm q ar bd sc .none kV dc pm an cd ct), sl⟩ ∧ PySem.W.codeIn K cd q = true ∧ PySem.W.keepIn K (.ref (fAd K p)) = true := by
  obtain ⟨oc, od, sl, dV, kV, dc, pm, an, cd, ct, l, h1, h2, h3, _⟩ := looks c i h
  have h4 : dflB K dV [] = true := h3
  cases dV with
  | none => exact ⟨oc, od, sl, kV, dc, pm, an, cd, ct, l, h1, h2⟩
  | _ => cases h4
/-- a def with defaults: the tuple of them -/
theorem lookT (c : SaysD fa fn K) (i : Nat) {p : Str × Option Str} {nm q : Str} {ar : Arguments} {bd : List Stmt} {sc : Scope} {v : Dv} {vs : List Dv} (h : fn[i]? = some ⟨p, nm, q, ar, bd, sc, v :: vs, []⟩) : ∃ oc od sl kV dc pm an cd ct T oT odT its nT slT, K.lookup (fAd K p) = some ⟨oc, od, .func (PySem.W.fnOf nm q ar bd sc (.ref T) kV dc pm an cd ct), sl⟩ ∧ PySem.W.codeIn K cd q = true ∧ PySem.W.keepIn K (.ref (fAd K p)) = true ∧ K.lookup T = some ⟨oT, odT, .seq its nT, slT⟩ ∧ relAll ((v :: vs).map (Dv.v K)) its.toList = true := by
  obtain ⟨oc, od, sl, dV, kV, dc, pm, an, cd, ct, l, h1, h2, h3, _⟩ := looks c i h
  have h4 : dflB K dV (v.v K :: vs.map (Dv.v K)) = true := h3
  cases dV with
  | ref T =>
    have h5 : (match K.lookup T with
      | some ⟨_, _, .seq its _, _⟩ => relAll (v.v K :: vs.map (Dv.v K)) its.toList
      | _ => false) = true := h4
    cases q2 : K.lookup T with
    | none =>
      rw [q2] at h5
      cases h5
    | some o =>
      obtain ⟨oT, odT, dt, slT⟩ := o
      rw [q2] at h5
      cases dt with
      | seq its nT => exact ⟨oc, od, sl, kV, dc, pm, an, cd, ct, T, oT, odT, its, nT, slT, l, h1, h2, q2, h5⟩
      | _ => cases h5
  | _ => cases h4
theorem rel_nil {its : List Value} (h : relAll [] its = true) : its = [] := by
  cases its with
  | nil => rfl
  | cons u us => cases h
theorem rel_cons {v : V} {vs : List V} {its : List Value} (h : relAll (v :: vs) its = true) : ∃ u us, its = u :: us ∧ relB v u = true ∧ relAll vs us = true := by
  cases its with
  | nil => cases h
  | cons u us =>
    obtain ⟨h1, h2⟩ := ba (show (relB v u && relAll vs us) = true from h)
    exact ⟨u, us, rfl, h1, h2⟩
theorem rel_non {u : Value} (h : relB .non u = true) : u = .none := by
  cases u with
  | none => rfl
  | _ => cases h
theorem rel_bl {b : Bool} {u : Value} (h : relB (.bl b) u = true) : u = .bool b := by
  cases u with
  | bool c =>
    have h1 : (b == c) = true := h
    rw [eq_of_beq h1]
  | _ => cases h
theorem rel_int {i : Int} {u : Value} (h : relB (.int i) u = true) : ∃ t, u = .int i t := by
  cases u with
  | int j t =>
    have e : i = j := of_decide_eq_true h
    exact ⟨t, by rw [e]⟩
  | _ => cases h
theorem its1N {its : Array Value} (h : relAll [.non] its.toList = true) : its = #[.none] := by
  obtain ⟨l⟩ := its
  obtain ⟨u, us, e, h1, h2⟩ := rel_cons h
  dsimp only at e
  rw [e, rel_non h1, rel_nil h2]
theorem its1B {b : Bool} {its : Array Value} (h : relAll [.bl b] its.toList = true) : its = #[.bool b] := by
  obtain ⟨l⟩ := its
  obtain ⟨u, us, e, h1, h2⟩ := rel_cons h
  dsimp only at e
  rw [e, rel_bl h1, rel_nil h2]
theorem its1I {i : Int} {its : Array Value} (h : relAll [.int i] its.toList = true) : ∃ t, its = #[.int i t] := by
  obtain ⟨l⟩ := its
  obtain ⟨u, us, e, h1, h2⟩ := rel_cons h
  dsimp only at e
  obtain ⟨t, ht⟩ := rel_int h1
  exact ⟨t, by rw [e, ht, rel_nil h2]⟩
/-- a def with one keyword-only default that is a bool -/
theorem lookK (c : SaysD fa fn K) (i : Nat) {p : Str × Option Str} {nm q x : Str} {b : Bool} {ar : Arguments} {bd : List Stmt} {sc : Scope} (h : fn[i]? = some ⟨p, nm, q, ar, bd, sc, [], [(x, .bl b)]⟩) : ∃ oc od sl D dc pm an cd ct, K.lookup (fAd K p) = some ⟨oc, od, .func (PySem.W.fnOf nm q ar bd sc .none (.ref D) dc pm an cd ct), sl⟩ ∧ PySem.W.codeIn K cd q = true ∧ PySem.W.keepIn K (.ref (fAd K p)) = true ∧ PySem.W.nsIn K D x = some (some (.bool b)) := by
  obtain ⟨oc, od, sl, dV, kV, dc, pm, an, cd, ct, l, h1, h2, h3, h6⟩ := looks c i h
  have h4 : dflB K dV [] = true := h3
  have h7 : kwdB K kV [(x, V.bl b)] = true := h6
  cases dV with
  | none =>
    cases kV with
    | ref D =>
      have h8 := List.all_eq_true.mp (show ([(x, V.bl b)].all fun q => (match PySem.W.nsIn K D q.1 with
        | some (some u) => relB q.2 u
        | _ => false)) = true from h7) (x, V.bl b) (List.Mem.head _)
      refine ⟨oc, od, sl, D, dc, pm, an, cd, ct, l, h1, h2, ?_⟩
      cases e : PySem.W.nsIn K D x with
      | none =>
        rw [e] at h8
        cases h8
      | some r =>
        rw [e] at h8
        cases r with
        | none => cases h8
        | some u => rw [rel_bl (show relB (.bl b) u = true from h8)]
    | _ => cases h7
  | _ => cases h4
/-- the code object of a def that makes lambdas -/
theorem code_at {p : Str × Option Str} {oc : Value} {od : Option Addr} {sl : Array (Option Value)} {fd : FuncData} {q : Str} (l : K.lookup (fAd K p) = some ⟨oc, od, .func fd, sl⟩) (c : PySem.W.codeIn K fd.code q = true) : fd.code = .ref (cT K p).1 := by
  obtain ⟨a, e⟩ := codeIn_ref c
  rw [e]
  exact congrArg Value.ref (codeOf_eq l e).symm
end
end Hd

namespace K78
open PySem PySem.Spec PyProof.Rows L2
theorem all_mk {l : PySem.W.OpenLaw} {w : World} {K : PySem.W.Frag} {h : Heap} {mg : Str → Option Value} {fa f0 f1 f2 f3 f4 f5 f6 f7 f8 f9 f10 f11 f12 f13 f14 f15 f16 f17 f18 f19 f20 f21 f22 f23 f24 C_ListSort C_PieceStack C_InvalidLengths C_InvalidNumber C_SortError : Addr} {t_FIRST_PATIENCE t_GREATEST_ROW t_LEAST_HALVED t_LONGEST_STRETCH t_MOST_ITEMS t_MOST_SPREAD t_MOST_STRETCHES : Tok} {lc_numbers_right lp_numbers_right : Addr} {lc_lengths_right lp_lengths_right : Addr} {lc_law lp_law : Addr} (X : K.In h) (G : h.Ns mainGlobals mg) (hfa : mg "law" = some (.ref fa)) (tb_numbers_right : h.get? lp_numbers_right = some (PySem.W.tabObj #[])) (tb_lengths_right : h.get? lp_lengths_right = some (PySem.W.tabObj #[])) (tb_law : h.get? lp_law = some (PySem.W.tabObj #[]))
    {nm_InvalidLengths q_InvalidLengths : Str} {N_InvalidLengths : Addr} {bs_InvalidLengths : List Value} {sn_InvalidLengths : List Str} {sub_InvalidLengths : List Value} {ab_InvalidLengths : Bool} {col_InvalidLengths : Option Bool} {dd_InvalidLengths : Option Addr} {m0_InvalidLengths m1_InvalidLengths m2_InvalidLengths m3_InvalidLengths m5_InvalidLengths : Option Value}
    {nm_InvalidNumber q_InvalidNumber : Str} {N_InvalidNumber : Addr} {bs_InvalidNumber : List Value} {sn_InvalidNumber : List Str} {sub_InvalidNumber : List Value} {ab_InvalidNumber : Bool} {col_InvalidNumber : Option Bool} {dd_InvalidNumber : Option Addr} {m0_InvalidNumber m1_InvalidNumber m2_InvalidNumber m3_InvalidNumber m5_InvalidNumber : Option Value}
    {od0 an0 od1 an1 od2 an2 od3 an3 od4 an4 od5 an5 od6 an6 od7 an7 od8 an8 od9 an9 od10 an10 od11 an11 od12 an12 od13 an13 od14 an14 od15 an15 od16 an16 od17 an17 od18 an18 od19 an19 od20 an20 od21 an21 od22 an22 od23 an23 od24 an24 : Option Addr} {sl0 sl1 sl2 sl3 sl4 sl5 sl6 sl7 sl8 sl9 sl10 sl11 sl12 sl13 sl14 sl15 sl16 sl17 sl18 sl19 sl20 sl21 sl22 sl23 sl24 : Array (Option Value)} {oc0 kV0 dc0 pm0 cd0 ct0 oc1 kV1 dc1 pm1 cd1 ct1 oc2 kV2 dc2 pm2 cd2 ct2 oc3 kV3 dc3 pm3 cd3 ct3 oc4 kV4 dc4 pm4 cd4 ct4 oc5 kV5 dc5 pm5 cd5 ct5 oc6 kV6 dc6 pm6 cd6 ct6 oc7 kV7 dc7 pm7 cd7 ct7 oc8 kV8 dc8 pm8 cd8 ct8 oc9 kV9 dc9 pm9 cd9 ct9 oc10 kV10 dc10 pm10 cd10 ct10 oc11 kV11 dc11 pm11 cd11 ct11 oc12 kV12 dc12 pm12 cd12 ct12 oc13 kV13 dc13 pm13 cd13 ct13 oc14 kV14 dc14 pm14 cd14 ct14 oc15 kV15 dc15 pm15 cd15 ct15 oc16 kV16 dc16 pm16 cd16 ct16 oc17 kV17 dc17 pm17 cd17 ct17 oc18 kV18 dc18 pm18 cd18 ct18 oc19 kV19 dc19 pm19 cd19 ct19 oc20 kV20 dc20 pm20 cd20 ct20 oc21 kV21 dc21 pm21 cd21 ct21 oc22 kV22 dc22 pm22 cd22 ct22 oc23 kV23 dc23 pm23 cd23 ct23 oc24 kV24 dc24 pm24 cd24 ct24 : Value}
    {T5 : Addr} {odT5 : Option Addr} {oT5 : Value} {nT5 : Nat} {slT5 : Array (Option Value)} 
    {T6 : Addr} {odT6 : Option Addr} {oT6 : Value} {nT6 : Nat} {slT6 : Array (Option Value)} 
    (a0 : PySem.W.nsIn K mainGlobals "ask_honestly" = some (some (.ref f0))) (l0 : K.lookup f0 = some ⟨oc0, od0, .func (PySem.W.fnOf "ask_honestly" "ask_honestly" (defArgs s_ask_honestly) (defBody s_ask_honestly) (defScope s_ask_honestly) .none kV0 dc0 pm0 an0 cd0 ct0), sl0⟩) (c0 : PySem.W.codeIn K cd0 "ask_honestly" = true) (k0 : PySem.W.keepIn K (.ref f0) = true)
    (l1 : K.lookup f1 = some ⟨oc1, od1, .func (PySem.W.fnOf "__init__" "InvalidLengths.__init__" (defArgs s_InvalidLengths___init__) (defBody s_InvalidLengths___init__) (defScope s_InvalidLengths___init__) .none kV1 dc1 pm1 an1 cd1 ct1), sl1⟩) (c1 : PySem.W.codeIn K cd1 "InvalidLengths.__init__" = true) (k1 : PySem.W.keepIn K (.ref f1) = true)
    (l2 : K.lookup f2 = some ⟨oc2, od2, .func (PySem.W.fnOf "__init__" "InvalidNumber.__init__" (defArgs s_InvalidNumber___init__) (defBody s_InvalidNumber___init__) (defScope s_InvalidNumber___init__) .none kV2 dc2 pm2 an2 cd2 ct2), sl2⟩) (c2 : PySem.W.codeIn K cd2 "InvalidNumber.__init__" = true) (k2 : PySem.W.keepIn K (.ref f2) = true)
    (a3 : PySem.W.nsIn K mainGlobals "is_integer" = some (some (.ref f3))) (l3 : K.lookup f3 = some ⟨oc3, od3, .func (PySem.W.fnOf "is_integer" "is_integer" (defArgs s_is_integer) (defBody s_is_integer) (defScope s_is_integer) .none kV3 dc3 pm3 an3 cd3 ct3), sl3⟩) (c3 : PySem.W.codeIn K cd3 "is_integer" = true) (k3 : PySem.W.keepIn K (.ref f3) = true)
    (a4 : PySem.W.nsIn K mainGlobals "is_within" = some (some (.ref f4))) (l4 : K.lookup f4 = some ⟨oc4, od4, .func (PySem.W.fnOf "is_within" "is_within" (defArgs s_is_within) (defBody s_is_within) (defScope s_is_within) .none kV4 dc4 pm4 an4 cd4 ct4), sl4⟩) (c4 : PySem.W.codeIn K cd4 "is_within" = true) (k4 : PySem.W.keepIn K (.ref f4) = true)
    (a5 : PySem.W.nsIn K mainGlobals "check_lengths" = some (some (.ref f5))) (l5 : K.lookup f5 = some ⟨oc5, od5, .func (PySem.W.fnOf "check_lengths" "check_lengths" (defArgs s_check_lengths) (defBody s_check_lengths) (defScope s_check_lengths) (.ref T5) kV5 dc5 pm5 an5 cd5 ct5), sl5⟩) (c5 : PySem.W.codeIn K cd5 "check_lengths" = true) (k5 : PySem.W.keepIn K (.ref f5) = true)
    (t5 : K.lookup T5 = some ⟨oT5, odT5, .seq #[.none] nT5, slT5⟩)
    (a6 : PySem.W.nsIn K mainGlobals "check_number" = some (some (.ref f6))) (l6 : K.lookup f6 = some ⟨oc6, od6, .func (PySem.W.fnOf "check_number" "check_number" (defArgs s_check_number) (defBody s_check_number) (defScope s_check_number) (.ref T6) kV6 dc6 pm6 an6 cd6 ct6), sl6⟩) (c6 : PySem.W.codeIn K cd6 "check_number" = true) (k6 : PySem.W.keepIn K (.ref f6) = true)
    (t6 : K.lookup T6 = some ⟨oT6, odT6, .seq #[.none] nT6, slT6⟩)
    (a7 : PySem.W.findIn K (.ref C_PieceStack) "__init__" = some (some (.ref f7))) (i7 : PySem.W.isFn K (.ref f7) = true) (l7 : K.lookup f7 = some ⟨oc7, od7, .func (PySem.W.fnOf "__init__" "PieceStack.__init__" (defArgs s_PieceStack___init__) (defBody s_PieceStack___init__) (defScope s_PieceStack___init__) .none kV7 dc7 pm7 an7 cd7 ct7), sl7⟩) (c7 : PySem.W.codeIn K cd7 "PieceStack.__init__" = true) (k7 : PySem.W.keepIn K (.ref f7) = true)
    (a8 : PySem.W.nsIn K mainGlobals "least_length" = some (some (.ref f8))) (l8 : K.lookup f8 = some ⟨oc8, od8, .func (PySem.W.fnOf "least_length" "least_length" (defArgs s_least_length) (defBody s_least_length) (defScope s_least_length) .none kV8 dc8 pm8 an8 cd8 ct8), sl8⟩) (c8 : PySem.W.codeIn K cd8 "least_length" = true) (k8 : PySem.W.keepIn K (.ref f8) = true)
    (a9 : PySem.W.findIn K (.ref C_ListSort) "__init__" = some (some (.ref f9))) (i9 : PySem.W.isFn K (.ref f9) = true) (l9 : K.lookup f9 = some ⟨oc9, od9, .func (PySem.W.fnOf "__init__" "ListSort.__init__" (defArgs s_ListSort___init__) (defBody s_ListSort___init__) (defScope s_ListSort___init__) .none kV9 dc9 pm9 an9 cd9 ct9), sl9⟩) (c9 : PySem.W.codeIn K cd9 "ListSort.__init__" = true) (k9 : PySem.W.keepIn K (.ref f9) = true)
    (a10 : PySem.W.nsIn K mainGlobals "all_shapes" = some (some (.ref f10))) (l10 : K.lookup f10 = some ⟨oc10, od10, .func (PySem.W.fnOf "all_shapes" "all_shapes" (defArgs s_all_shapes) (defBody s_all_shapes) (defScope s_all_shapes) .none kV10 dc10 pm10 an10 cd10 ct10), sl10⟩) (c10 : PySem.W.codeIn K cd10 "all_shapes" = true) (k10 : PySem.W.keepIn K (.ref f10) = true)
    (a11 : PySem.W.nsIn K mainGlobals "fewest" = some (some (.ref f11))) (l11 : K.lookup f11 = some ⟨oc11, od11, .func (PySem.W.fnOf "fewest" "fewest" (defArgs s_fewest) (defBody s_fewest) (defScope s_fewest) .none kV11 dc11 pm11 an11 cd11 ct11), sl11⟩) (c11 : PySem.W.codeIn K cd11 "fewest" = true) (k11 : PySem.W.keepIn K (.ref f11) = true)
    (a12 : PySem.W.nsIn K mainGlobals "most" = some (some (.ref f12))) (l12 : K.lookup f12 = some ⟨oc12, od12, .func (PySem.W.fnOf "most" "most" (defArgs s_most) (defBody s_most) (defScope s_most) .none kV12 dc12 pm12 an12 cd12 ct12), sl12⟩) (c12 : PySem.W.codeIn K cd12 "most" = true) (k12 : PySem.W.keepIn K (.ref f12) = true)
    (a13 : PySem.W.nsIn K mainGlobals "fewest_keys" = some (some (.ref f13))) (l13 : K.lookup f13 = some ⟨oc13, od13, .func (PySem.W.fnOf "fewest_keys" "fewest_keys" (defArgs s_fewest_keys) (defBody s_fewest_keys) (defScope s_fewest_keys) .none kV13 dc13 pm13 an13 cd13 ct13), sl13⟩) (c13 : PySem.W.codeIn K cd13 "fewest_keys" = true) (k13 : PySem.W.keepIn K (.ref f13) = true)
    (a14 : PySem.W.nsIn K mainGlobals "most_keys" = some (some (.ref f14))) (l14 : K.lookup f14 = some ⟨oc14, od14, .func (PySem.W.fnOf "most_keys" "most_keys" (defArgs s_most_keys) (defBody s_most_keys) (defScope s_most_keys) .none kV14 dc14 pm14 an14 cd14 ct14), sl14⟩) (c14 : PySem.W.codeIn K cd14 "most_keys" = true) (k14 : PySem.W.keepIn K (.ref f14) = true)
    (a15 : PySem.W.nsIn K mainGlobals "count_of_falling" = some (some (.ref f15))) (l15 : K.lookup f15 = some ⟨oc15, od15, .func (PySem.W.fnOf "count_of_falling" "count_of_falling" (defArgs s_count_of_falling) (defBody s_count_of_falling) (defScope s_count_of_falling) .none kV15 dc15 pm15 an15 cd15 ct15), sl15⟩) (c15 : PySem.W.codeIn K cd15 "count_of_falling" = true) (k15 : PySem.W.keepIn K (.ref f15) = true)
    (a16 : PySem.W.nsIn K mainGlobals "sum_of" = some (some (.ref f16))) (l16 : K.lookup f16 = some ⟨oc16, od16, .func (PySem.W.fnOf "sum_of" "sum_of" (defArgs s_sum_of) (defBody s_sum_of) (defScope s_sum_of) .none kV16 dc16 pm16 an16 cd16 ct16), sl16⟩) (c16 : PySem.W.codeIn K cd16 "sum_of" = true) (k16 : PySem.W.keepIn K (.ref f16) = true)
    (a17 : PySem.W.nsIn K mainGlobals "spread" = some (some (.ref f17))) (l17 : K.lookup f17 = some ⟨oc17, od17, .func (PySem.W.fnOf "spread" "spread" (defArgs s_spread) (defBody s_spread) (defScope s_spread) .none kV17 dc17 pm17 an17 cd17 ct17), sl17⟩) (c17 : PySem.W.codeIn K cd17 "spread" = true) (k17 : PySem.W.keepIn K (.ref f17) = true)
    (a18 : PySem.W.nsIn K mainGlobals "_check_many" = some (some (.ref f18))) (l18 : K.lookup f18 = some ⟨oc18, od18, .func (PySem.W.fnOf "_check_many" "_check_many" (defArgs s_check_many) (defBody s_check_many) (defScope s_check_many) .none kV18 dc18 pm18 an18 cd18 ct18), sl18⟩) (c18 : PySem.W.codeIn K cd18 "_check_many" = true) (k18 : PySem.W.keepIn K (.ref f18) = true)
    (a19 : PySem.W.nsIn K mainGlobals "_law_source" = some (some (.ref f19))) (l19 : K.lookup f19 = some ⟨oc19, od19, .func (PySem.W.fnOf "_law_source" "_law_source" (defArgs s_source) (defBody s_source) (defScope s_source) .none kV19 dc19 pm19 an19 cd19 ct19), sl19⟩) (c19 : PySem.W.codeIn K cd19 "_law_source" = true) (k19 : PySem.W.keepIn K (.ref f19) = true)
    (a20 : PySem.W.nsIn K mainGlobals "_law_draw" = some (some (.ref f20))) (l20 : K.lookup f20 = some ⟨oc20, od20, .func (PySem.W.fnOf "_law_draw" "_law_draw" (defArgs s_draw) (defBody s_draw) (defScope s_draw) .none kV20 dc20 pm20 an20 cd20 ct20), sl20⟩) (c20 : PySem.W.codeIn K cd20 "_law_draw" = true) (k20 : PySem.W.keepIn K (.ref f20) = true)
    (a21 : PySem.W.nsIn K mainGlobals "_law_error" = some (some (.ref f21))) (l21 : K.lookup f21 = some ⟨oc21, od21, .func (PySem.W.fnOf "_law_error" "_law_error" (defArgs s_error) (defBody s_error) (defScope s_error) .none kV21 dc21 pm21 an21 cd21 ct21), sl21⟩) (c21 : PySem.W.codeIn K cd21 "_law_error" = true) (k21 : PySem.W.keepIn K (.ref f21) = true)
    (a22 : PySem.W.nsIn K mainGlobals "_law_numbers_right" = some (some (.ref f22))) (l22 : K.lookup f22 = some ⟨oc22, od22, .func (PySem.W.fnOf "_law_numbers_right" "_law_numbers_right" (defArgs s_numbers_right) (defBody s_numbers_right) (defScope s_numbers_right) .none kV22 dc22 pm22 an22 cd22 ct22), sl22⟩) (c22 : PySem.W.codeIn K cd22 "_law_numbers_right" = true) (k22 : PySem.W.keepIn K (.ref f22) = true)
    (a23 : PySem.W.nsIn K mainGlobals "_law_lengths_right" = some (some (.ref f23))) (l23 : K.lookup f23 = some ⟨oc23, od23, .func (PySem.W.fnOf "_law_lengths_right" "_law_lengths_right" (defArgs s_lengths_right) (defBody s_lengths_right) (defScope s_lengths_right) .none kV23 dc23 pm23 an23 cd23 ct23), sl23⟩) (c23 : PySem.W.codeIn K cd23 "_law_lengths_right" = true) (k23 : PySem.W.keepIn K (.ref f23) = true)
    (a24 : PySem.W.nsIn K mainGlobals "law" = some (some (.ref f24))) (l24 : K.lookup f24 = some ⟨oc24, od24, .func (PySem.W.fnOf "law" "law" (defArgs s_law) (defBody s_law) (defScope s_law) .none kV24 dc24 pm24 an24 cd24 ct24), sl24⟩) (c24 : PySem.W.codeIn K cd24 "law" = true) (k24 : PySem.W.keepIn K (.ref f24) = true)
    (v_FIRST_PATIENCE : PySem.W.nsIn K mainGlobals "FIRST_PATIENCE" = some (some (.int 7 t_FIRST_PATIENCE)))
    (v_GREATEST_ROW : PySem.W.nsIn K mainGlobals "GREATEST_ROW" = some (some (.int 1000000000000000000000000000000 t_GREATEST_ROW)))
    (v_LEAST_HALVED : PySem.W.nsIn K mainGlobals "LEAST_HALVED" = some (some (.int 64 t_LEAST_HALVED)))
    (v_LONGEST_STRETCH : PySem.W.nsIn K mainGlobals "LONGEST_STRETCH" = some (some (.int 1000000000000000000 t_LONGEST_STRETCH)))
    (v_MOST_ITEMS : PySem.W.nsIn K mainGlobals "MOST_ITEMS" = some (some (.int 63 t_MOST_ITEMS)))
    (v_MOST_SPREAD : PySem.W.nsIn K mainGlobals "MOST_SPREAD" = some (some (.int 6 t_MOST_SPREAD)))
    (v_MOST_STRETCHES : PySem.W.nsIn K mainGlobals "MOST_STRETCHES" = some (some (.int 300 t_MOST_STRETCHES)))
    (z_abs : PySem.W.nsIn K mainGlobals "abs" = some none)
    (z_bool : PySem.W.nsIn K mainGlobals "bool" = some none)
    (z_enumerate : PySem.W.nsIn K mainGlobals "enumerate" = some none)
    (z_int : PySem.W.nsIn K mainGlobals "int" = some none)
    (z_isinstance : PySem.W.nsIn K mainGlobals "isinstance" = some none)
    (z_len : PySem.W.nsIn K mainGlobals "len" = some none)
    (z_list : PySem.W.nsIn K mainGlobals "list" = some none)
    (z_max : PySem.W.nsIn K mainGlobals "max" = some none)
    (z_range : PySem.W.nsIn K mainGlobals "range" = some none)
    (z_sorted : PySem.W.nsIn K mainGlobals "sorted" = some none)
    (z_sum : PySem.W.nsIn K mainGlobals "sum" = some none)
    (z_tuple : PySem.W.nsIn K mainGlobals "tuple" = some none)
    (aC_ListSort : PySem.W.nsIn K mainGlobals "ListSort" = some (some (.ref C_ListSort)))
    (pg_ListSort : PySem.W.plainGet K C_ListSort Str.empty = true)
    (hd_ListSort : PySem.W.hasDictIn K C_ListSort = true)
    (po_ListSort : PySem.W.plainOver K C_ListSort = true)
    (sa_ListSort : PySem.W.findIn K (.ref C_ListSort) "__setattr__" = some (some (.builtin "object.__setattr__")))
    (mk_ListSort : PySem.W.makesIn K C_ListSort = true)
    (kc_ListSort : PySem.W.keepIn K (.ref C_ListSort) = true)
    (n_many : PySem.W.findIn K (.ref C_ListSort) "many" = some none)
    (n_turned : PySem.W.findIn K (.ref C_ListSort) "turned" = some none)
    (n_row : PySem.W.findIn K (.ref C_ListSort) "row" = some none)
    (n_least : PySem.W.findIn K (.ref C_ListSort) "least" = some none)
    (n_stack : PySem.W.findIn K (.ref C_ListSort) "stack" = some none)
    (n_patience_between : PySem.W.findIn K (.ref C_ListSort) "patience_between" = some none)
    (n_start : PySem.W.findIn K (.ref C_ListSort) "start" = some none)
    (n_found : PySem.W.findIn K (.ref C_ListSort) "found" = some none)
    (n_length : PySem.W.findIn K (.ref C_ListSort) "length" = some none)
    (n_border : PySem.W.findIn K (.ref C_ListSort) "border" = some none)
    (n_machine : PySem.W.findIn K (.ref C_ListSort) "machine" = some none)
    (n_work : PySem.W.findIn K (.ref C_ListSort) "work" = some none)
    (n_waiting : PySem.W.findIn K (.ref C_ListSort) "waiting" = some none)
    (n_log : PySem.W.findIn K (.ref C_ListSort) "log" = some none)
    (n_steps : PySem.W.findIn K (.ref C_ListSort) "steps" = some none)
    (n_marks : PySem.W.findIn K (.ref C_ListSort) "marks" = some none)
    (aC_PieceStack : PySem.W.nsIn K mainGlobals "PieceStack" = some (some (.ref C_PieceStack)))
    (pg_PieceStack : PySem.W.plainGet K C_PieceStack Str.empty = true)
    (hd_PieceStack : PySem.W.hasDictIn K C_PieceStack = true)
    (po_PieceStack : PySem.W.plainOver K C_PieceStack = true)
    (sa_PieceStack : PySem.W.findIn K (.ref C_PieceStack) "__setattr__" = some (some (.builtin "object.__setattr__")))
    (mk_PieceStack : PySem.W.makesIn K C_PieceStack = true)
    (kc_PieceStack : PySem.W.keepIn K (.ref C_PieceStack) = true)
    (n_whole : PySem.W.findIn K (.ref C_PieceStack) "whole" = some none)
    (n_piled : PySem.W.findIn K (.ref C_PieceStack) "piled" = some none)
    (aX_InvalidLengths : PySem.W.nsIn K mainGlobals "InvalidLengths" = some (some (.ref C_InvalidLengths)))
    (ii_InvalidLengths : PySem.W.findIn K (.ref C_InvalidLengths) "__init__" = some (some (.ref f1)))
    (xL_InvalidLengths : K.lookup C_InvalidLengths = some (excClassObj nm_InvalidLengths q_InvalidLengths C_InvalidLengths N_InvalidLengths bs_InvalidLengths [.ref C_SortError, .type "ValueError", .type "Exception", .type "BaseException", .type "object"] true sn_InvalidLengths sub_InvalidLengths ab_InvalidLengths col_InvalidLengths dd_InvalidLengths m0_InvalidLengths m1_InvalidLengths m2_InvalidLengths m3_InvalidLengths m5_InvalidLengths "ValueError.__new__"))
    (sx_InvalidLengths : PySem.W.findIn K (.ref C_InvalidLengths) "__setattr__" = some (some (.builtin "object.__setattr__")))
    (gx_InvalidLengths : PySem.W.findIn K (.ref C_InvalidLengths) "__getattribute__" = some (some (.builtin "BaseException.__getattribute__")))
    (ggx_InvalidLengths : PySem.W.findIn K (.ref C_InvalidLengths) "__getattr__" = some none)
    (nx_InvalidLengths : PySem.W.findIn K (.ref C_InvalidLengths) "index" = some none)
    (tx_InvalidLengths : PySem.W.typeIn K (.ref f1) = some (.type "function"))
    (kx_InvalidLengths : PySem.W.keepIn K (.ref C_InvalidLengths) = true)
    (ex_InvalidLengths : PySem.W.subIn K (.ref C_InvalidLengths) (.type "BaseException") = some true)
    (tyx_InvalidLengths : PySem.W.typeIn K (.ref C_InvalidLengths) = some (.type "type"))
    (hx_InvalidLengths : PySem.W.hasDictIn K C_InvalidLengths = true)
    (icx_InvalidLengths : PySem.W.isClsIn K C_InvalidLengths = true)
    (scx_InvalidLengths : PySem.W.subIn K (.ref C_InvalidLengths) (.ref C_InvalidLengths) = some true)
    (aX_InvalidNumber : PySem.W.nsIn K mainGlobals "InvalidNumber" = some (some (.ref C_InvalidNumber)))
    (ii_InvalidNumber : PySem.W.findIn K (.ref C_InvalidNumber) "__init__" = some (some (.ref f2)))
    (xL_InvalidNumber : K.lookup C_InvalidNumber = some (excClassObj nm_InvalidNumber q_InvalidNumber C_InvalidNumber N_InvalidNumber bs_InvalidNumber [.ref C_SortError, .type "ValueError", .type "Exception", .type "BaseException", .type "object"] true sn_InvalidNumber sub_InvalidNumber ab_InvalidNumber col_InvalidNumber dd_InvalidNumber m0_InvalidNumber m1_InvalidNumber m2_InvalidNumber m3_InvalidNumber m5_InvalidNumber "ValueError.__new__"))
    (sx_InvalidNumber : PySem.W.findIn K (.ref C_InvalidNumber) "__setattr__" = some (some (.builtin "object.__setattr__")))
    (gx_InvalidNumber : PySem.W.findIn K (.ref C_InvalidNumber) "__getattribute__" = some (some (.builtin "BaseException.__getattribute__")))
    (ggx_InvalidNumber : PySem.W.findIn K (.ref C_InvalidNumber) "__getattr__" = some none)
    (nx_InvalidNumber : PySem.W.findIn K (.ref C_InvalidNumber) "name" = some none)
    (tx_InvalidNumber : PySem.W.typeIn K (.ref f2) = some (.type "function"))
    (kx_InvalidNumber : PySem.W.keepIn K (.ref C_InvalidNumber) = true)
    (ex_InvalidNumber : PySem.W.subIn K (.ref C_InvalidNumber) (.type "BaseException") = some true)
    (tyx_InvalidNumber : PySem.W.typeIn K (.ref C_InvalidNumber) = some (.type "type"))
    (hx_InvalidNumber : PySem.W.hasDictIn K C_InvalidNumber = true)
    (icx_InvalidNumber : PySem.W.isClsIn K C_InvalidNumber = true)
    (scx_InvalidNumber : PySem.W.subIn K (.ref C_InvalidNumber) (.ref C_InvalidNumber) = some true)
    (aX_SortError : PySem.W.nsIn K mainGlobals "SortError" = some (some (.ref C_SortError)))
    (r1x_SortError : PySem.W.readsIn K C_SortError (.type "type") = true)
    (r2x_SortError : PySem.W.specialIn K (.ref C_SortError) "__getattribute__" = some (some (.builtin "type.__getattribute__")))
    (vix_SortError : PySem.W.findCls K (.ref C_SortError) (.type "type") "__init__" = some (.val (.builtin "ValueError.__init__")))
    (ex_SortError : PySem.W.subIn K (.ref C_SortError) (.type "BaseException") = some true)
    (tyx_SortError : PySem.W.typeIn K (.ref C_SortError) = some (.type "type"))
    (icx_SortError : PySem.W.isClsIn K C_SortError = true)
    (scx_SortError : PySem.W.subIn K (.ref C_SortError) (.ref C_SortError) = some true)
    (su_InvalidLengths_InvalidNumber : PySem.W.subIn K (.ref C_InvalidLengths) (.ref C_InvalidNumber) = some false)
    (su_InvalidLengths_SortError : PySem.W.subIn K (.ref C_InvalidLengths) (.ref C_SortError) = some true)
    (su_InvalidNumber_InvalidLengths : PySem.W.subIn K (.ref C_InvalidNumber) (.ref C_InvalidLengths) = some false)
    (su_InvalidNumber_SortError : PySem.W.subIn K (.ref C_InvalidNumber) (.ref C_SortError) = some true)
    (dcx_InvalidLengths : PySem.W.findIn K (.ref C_InvalidLengths) "__class__" = some (some (.builtin "object.__class__")))
    (dmx_InvalidLengths : PySem.W.mroIn K C_InvalidLengths (.type "object") = some true)
    (dcx_InvalidNumber : PySem.W.findIn K (.ref C_InvalidNumber) "__class__" = some (some (.builtin "object.__class__")))
    (dmx_InvalidNumber : PySem.W.mroIn K C_InvalidNumber (.type "object") = some true)
    (dnx : PySem.W.specialIn K (.builtin "object.__class__") "__get__" = some (some (.builtin "getset_descriptor.__get__"))) (dtx : PySem.W.takesIn K (.builtin "object.__class__") = some true)
    (le_numbers_right : cd22 = .ref lc_numbers_right) (lh_numbers_right : PySem.W.codeHdIn K lc_numbers_right lp_numbers_right = true) (ln_numbers_right : K.lookup lp_numbers_right = none)
    (le_lengths_right : cd23 = .ref lc_lengths_right) (lh_lengths_right : PySem.W.codeHdIn K lc_lengths_right lp_lengths_right = true) (ln_lengths_right : K.lookup lp_lengths_right = none)
    (le_law : cd24 = .ref lc_law) (lh_law : PySem.W.codeHdIn K lc_law lp_law = true) (ln_law : K.lookup lp_law = none)
    (lne_numbers_right_lengths_right : lp_numbers_right ≠ lp_lengths_right)
    (lne_numbers_right_law : lp_numbers_right ≠ lp_law)
    (lne_lengths_right_law : lp_lengths_right ≠ lp_law)
    : LamX.LawAtS l w K CX0 13 63 "script" mg fa h := by
  have e : fa = f24 := by
    have e := hfa.symm.trans (PySem.W.mg_of X G a24)
    cases e
    rfl
  have F0 := fun_mk (st := s_ask_honestly) l0 c0 k0
  have B0 := F0.binds (ps := P_ask_honestly) fun _ _ _ _ _ _ us hl => match us, hl with | [_, _], _ => rfl
  have F1 := fun_mk (st := s_InvalidLengths___init__) l1 c1 k1
  have B1 := F1.binds (ps := P_InvalidLengths___init__) fun _ _ _ _ _ _ us hl => match us, hl with | [_, _], _ => rfl
  have F2 := fun_mk (st := s_InvalidNumber___init__) l2 c2 k2
  have B2 := F2.binds (ps := P_InvalidNumber___init__) fun _ _ _ _ _ _ us hl => match us, hl with | [_, _], _ => rfl
  have F3 := fun_mk (st := s_is_integer) l3 c3 k3
  have B3 := F3.binds (ps := P_is_integer) fun _ _ _ _ _ _ us hl => match us, hl with | [_], _ => rfl
  have F4 := fun_mk (st := s_is_within) l4 c4 k4
  have B4 := F4.binds (ps := P_is_within) fun _ _ _ _ _ _ us hl => match us, hl with | [_, _, _], _ => rfl
  have F5 := funV_mk (st := s_check_lengths) l5 c5
  have B5_0 := bindsV (st := s_check_lengths) (dvs := [.non]) (its := [.none]) (ps := P_check_lengths) l5 c5 k5 t5 (.cons rfl .nil) 4 1 (List.cons_ne_nil _ _) rfl fun _ _ _ _ _ _ _ us its h1 h2 => match us, its, h1, h2 with | [_, _, _, _], [_], _, _ => ⟨_, rfl, rfl⟩
  obtain ⟨ds5, rds5, bds5⟩ := B5_0
  have F6 := funV_mk (st := s_check_number) l6 c6
  have B6_0 := bindsV (st := s_check_number) (dvs := [.non]) (its := [.none]) (ps := P_check_number) l6 c6 k6 t6 (.cons rfl .nil) 4 1 (List.cons_ne_nil _ _) rfl fun _ _ _ _ _ _ _ us its h1 h2 => match us, its, h1, h2 with | [_, _, _, _], [_], _, _ => ⟨_, rfl, rfl⟩
  obtain ⟨ds6, rds6, bds6⟩ := B6_0
  have F7 := fun_mk (st := s_PieceStack___init__) l7 c7 k7
  have B7 := F7.binds (ps := P_PieceStack___init__) fun _ _ _ _ _ _ us hl => match us, hl with | [_, _], _ => rfl
  have F8 := fun_mk (st := s_least_length) l8 c8 k8
  have B8 := F8.binds (ps := P_least_length) fun _ _ _ _ _ _ us hl => match us, hl with | [_], _ => rfl
  have F9 := fun_mk (st := s_ListSort___init__) l9 c9 k9
  have B9 := F9.binds (ps := P_ListSort___init__) fun _ _ _ _ _ _ us hl => match us, hl with | [_, _, _], _ => rfl
  have F10 := fun_mk (st := s_all_shapes) l10 c10 k10
  have B10 := F10.binds (ps := P_all_shapes) fun _ _ _ _ _ _ us hl => match us, hl with | [_], _ => rfl
  have F11 := fun_mk (st := s_fewest) l11 c11 k11
  have B11 := F11.binds (ps := P_fewest) fun _ _ _ _ _ _ us hl => match us, hl with | [_], _ => rfl
  have F12 := fun_mk (st := s_most) l12 c12 k12
  have B12 := F12.binds (ps := P_most) fun _ _ _ _ _ _ us hl => match us, hl with | [_], _ => rfl
  have F13 := fun_mk (st := s_fewest_keys) l13 c13 k13
  have B13 := F13.binds (ps := P_fewest_keys) fun _ _ _ _ _ _ us hl => match us, hl with | [_], _ => rfl
  have F14 := fun_mk (st := s_most_keys) l14 c14 k14
  have B14 := F14.binds (ps := P_most_keys) fun _ _ _ _ _ _ us hl => match us, hl with | [_], _ => rfl
  have F15 := fun_mk (st := s_count_of_falling) l15 c15 k15
  have B15 := F15.binds (ps := P_count_of_falling) fun _ _ _ _ _ _ us hl => match us, hl with | [_], _ => rfl
  have F16 := fun_mk (st := s_sum_of) l16 c16 k16
  have B16 := F16.binds (ps := P_sum_of) fun _ _ _ _ _ _ us hl => match us, hl with | [_], _ => rfl
  have F17 := fun_mk (st := s_spread) l17 c17 k17
  have B17 := F17.binds (ps := P_spread) fun _ _ _ _ _ _ us hl => match us, hl with | [_], _ => rfl
  have F18 := fun_mk (st := s_check_many) l18 c18 k18
  have B18 := F18.binds (ps := P_check_many) fun _ _ _ _ _ _ us hl => match us, hl with | [_], _ => rfl
  have F19 := fun_mk (st := s_source) l19 c19 k19
  have B19 := F19.binds (ps := P_source) fun _ _ _ _ _ _ us hl => match us, hl with | [_], _ => rfl
  have F20 := fun_mk (st := s_draw) l20 c20 k20
  have B20 := F20.binds (ps := P_draw) fun _ _ _ _ _ _ us hl => match us, hl with | [_, _], _ => rfl
  have F21 := fun_mk (st := s_error) l21 c21 k21
  have B21 := F21.binds (ps := P_error) fun _ _ _ _ _ _ us hl => match us, hl with | [_], _ => rfl
  have F22 := fun_mk (st := s_numbers_right) l22 c22 k22
  have B22 := F22.binds (ps := P_numbers_right) fun _ _ _ _ _ _ us hl => match us, hl with | [_], _ => rfl
  have F23 := fun_mk (st := s_lengths_right) l23 c23 k23
  have B23 := F23.binds (ps := P_lengths_right) fun _ _ _ _ _ _ us hl => match us, hl with | [_], _ => rfl
  have F24 := fun_mk (st := s_law) l24 c24 k24
  have B24 := F24.binds (ps := P_law) fun _ _ _ _ _ _ us hl => match us, hl with | [_], _ => rfl
  have T : Txt K mg ⟨lc_numbers_right, lp_numbers_right, lc_lengths_right, lp_lengths_right, lc_law, lp_law, f0, f1, f2, f3, f4, f5, f6, f7, f8, f9, f10, f11, f12, f13, f14, f15, f16, f17, f18, f19, f20, f21, f22, f23, f24, t_FIRST_PATIENCE, t_GREATEST_ROW, t_LEAST_HALVED, t_LONGEST_STRETCH, t_MOST_ITEMS, t_MOST_SPREAD, t_MOST_STRETCHES, C_ListSort, C_PieceStack, C_InvalidLengths, C_InvalidNumber, C_SortError⟩ ⟨_, _, _, _, _, _, _, _, _, _, _, _, _, _, _, _, _, _, _, _, _, _, _, _, _⟩ := ⟨PySem.W.mg_of X G a0, k0, F0, B0, F1, B1, F2, B2, PySem.W.mg_of X G a3, k3, F3, B3, PySem.W.mg_of X G a4, k4, F4, B4, PySem.W.mg_of X G a5, k5, F5, Binds.none rds5 bds5, PySem.W.mg_of X G a6, k6, F6, Binds.none rds6 bds6, ⟨a7, i7, k7⟩, F7, B7, PySem.W.mg_of X G a8, k8, F8, B8, ⟨a9, i9, k9⟩, F9, B9, PySem.W.mg_of X G a10, k10, F10, B10, PySem.W.mg_of X G a11, k11, F11, B11, PySem.W.mg_of X G a12, k12, F12, B12, PySem.W.mg_of X G a13, k13, F13, B13, PySem.W.mg_of X G a14, k14, F14, B14, PySem.W.mg_of X G a15, k15, F15, B15, PySem.W.mg_of X G a16, k16, F16, B16, PySem.W.mg_of X G a17, k17, F17, B17, PySem.W.mg_of X G a18, k18, F18, B18, PySem.W.mg_of X G a19, k19, F19, B19, PySem.W.mg_of X G a20, k20, F20, B20, PySem.W.mg_of X G a21, k21, F21, B21, PySem.W.mg_of X G a22, k22, F22, B22, PySem.W.mg_of X G a23, k23, F23, B23, PySem.W.mg_of X G a24, k24, F24, B24, le_numbers_right, le_lengths_right, le_law, lne_numbers_right_lengths_right, lne_numbers_right_law, lne_lengths_right_law, PySem.W.mg_of X G v_FIRST_PATIENCE, PySem.W.mg_of X G v_GREATEST_ROW, PySem.W.mg_of X G v_LEAST_HALVED, PySem.W.mg_of X G v_LONGEST_STRETCH, PySem.W.mg_of X G v_MOST_ITEMS, PySem.W.mg_of X G v_MOST_SPREAD, PySem.W.mg_of X G v_MOST_STRETCHES, PySem.W.mg_none_of X G z_abs, PySem.W.mg_none_of X G z_bool, PySem.W.mg_none_of X G z_enumerate, PySem.W.mg_none_of X G z_int, PySem.W.mg_none_of X G z_isinstance, PySem.W.mg_none_of X G z_len, PySem.W.mg_none_of X G z_list, PySem.W.mg_none_of X G z_max, PySem.W.mg_none_of X G z_range, PySem.W.mg_none_of X G z_sorted, PySem.W.mg_none_of X G z_sum, PySem.W.mg_none_of X G z_tuple, exC_mk X G aX_InvalidLengths xL_InvalidLengths sx_InvalidLengths gx_InvalidLengths ggx_InvalidLengths nx_InvalidLengths ii_InvalidLengths tx_InvalidLengths kx_InvalidLengths ex_InvalidLengths tyx_InvalidLengths hx_InvalidLengths icx_InvalidLengths scx_InvalidLengths, exC_mk X G aX_InvalidNumber xL_InvalidNumber sx_InvalidNumber gx_InvalidNumber ggx_InvalidNumber nx_InvalidNumber ii_InvalidNumber tx_InvalidNumber kx_InvalidNumber ex_InvalidNumber tyx_InvalidNumber hx_InvalidNumber icx_InvalidNumber scx_InvalidNumber, ⟨PySem.W.mg_of X G aX_SortError, r1x_SortError, r2x_SortError, vix_SortError⟩, exS_mk ex_InvalidLengths tyx_InvalidLengths icx_InvalidLengths scx_InvalidLengths scx_InvalidLengths, exS_mk ex_InvalidNumber tyx_InvalidNumber icx_InvalidNumber scx_InvalidNumber su_InvalidLengths_InvalidNumber, exS_mk ex_SortError tyx_SortError icx_SortError scx_SortError su_InvalidLengths_SortError, exS_mk ex_InvalidLengths tyx_InvalidLengths icx_InvalidLengths scx_InvalidLengths su_InvalidNumber_InvalidLengths, exS_mk ex_InvalidNumber tyx_InvalidNumber icx_InvalidNumber scx_InvalidNumber scx_InvalidNumber, exS_mk ex_SortError tyx_SortError icx_SortError scx_SortError su_InvalidNumber_SortError, ⟨gx_InvalidLengths, ggx_InvalidLengths, ex_InvalidLengths, hx_InvalidLengths, dcx_InvalidLengths, dnx, dtx, dmx_InvalidLengths⟩, ⟨gx_InvalidNumber, ggx_InvalidNumber, ex_InvalidNumber, hx_InvalidNumber, dcx_InvalidNumber, dnx, dtx, dmx_InvalidNumber⟩, ⟨pg_ListSort, hd_ListSort, po_ListSort, sa_ListSort⟩, PySem.W.mg_of X G aC_ListSort, ⟨mk_ListSort, a9, i9, kc_ListSort⟩, n_many, n_turned, n_row, n_least, n_stack, n_patience_between, n_start, n_found, n_length, n_border, n_machine, n_work, n_waiting, n_log, n_steps, n_marks, ⟨pg_PieceStack, hd_PieceStack, po_PieceStack, sa_PieceStack⟩, PySem.W.mg_of X G aC_PieceStack, ⟨mk_PieceStack, a7, i7, kc_PieceStack⟩, n_whole, n_piled⟩
  exact ⟨_, [(lc_numbers_right, lp_numbers_right), (lc_lengths_right, lp_lengths_right), (lc_law, lp_law)], spLaw K [(lp_numbers_right, lq_numbers_right), (lp_lengths_right, lq_lengths_right), (lp_law, lq_law)], (fac tb_numbers_right (fac tb_lengths_right (fac tb_law fan))), (fac ln_numbers_right (fac ln_lengths_right (fac ln_law fan))), (fac (PySem.W.codeHd_of_K X lh_numbers_right) (fac (PySem.W.codeHd_of_K X lh_lengths_right) (fac (PySem.W.codeHd_of_K X lh_law) fan))), fun s v => .of_eq rfl, fun H a ns hl _ ht hS => ⟨a, ns, rfl, hS, hl, (fac (LamX.TabS.nil (ht _ (List.Mem.head _))) (fac (LamX.TabS.nil (ht _ (List.Mem.tail _ (List.Mem.head _)))) (fac (LamX.TabS.nil (ht _ (List.Mem.tail _ (List.Mem.tail _ (List.Mem.head _))))) fan))), fun _ => rfl⟩, fun base _ _ TB => by rw [e]; exact ok_law T (TB _ (List.Mem.head _)) (TB _ (List.Mem.tail _ (List.Mem.head _))) (TB _ (List.Mem.tail _ (List.Mem.tail _ (List.Mem.head _))))⟩
end K78
namespace K78
open PySem PySem.Spec PyProof.Rows L2
def hfn0 : List He.DefD := [⟨("ask_honestly", none), "ask_honestly", "ask_honestly", defArgs s_ask_honestly, defBody s_ask_honestly, defScope s_ask_honestly, [], []⟩, ⟨("InvalidLengths", some "__init__"), "__init__", "InvalidLengths.__init__", defArgs s_InvalidLengths___init__, defBody s_InvalidLengths___init__, defScope s_InvalidLengths___init__, [], []⟩, ⟨("InvalidNumber", some "__init__"), "__init__", "InvalidNumber.__init__", defArgs s_InvalidNumber___init__, defBody s_InvalidNumber___init__, defScope s_InvalidNumber___init__, [], []⟩, ⟨("is_integer", none), "is_integer", "is_integer", defArgs s_is_integer, defBody s_is_integer, defScope s_is_integer, [], []⟩, ⟨("is_within", none), "is_within", "is_within", defArgs s_is_within, defBody s_is_within, defScope s_is_within, [], []⟩, ⟨("check_lengths", none), "check_lengths", "check_lengths", defArgs s_check_lengths, defBody s_check_lengths, defScope s_check_lengths, [.non], []⟩, ⟨("check_number", none), "check_number", "check_number", defArgs s_check_number, defBody s_check_number, defScope s_check_number, [.non], []⟩, ⟨("PieceStack", some "__init__"), "__init__", "PieceStack.__init__", defArgs s_PieceStack___init__, defBody s_PieceStack___init__, defScope s_PieceStack___init__, [], []⟩, ⟨("least_length", none), "least_length", "least_length", defArgs s_least_length, defBody s_least_length, defScope s_least_length, [], []⟩, ⟨("ListSort", some "__init__"), "__init__", "ListSort.__init__", defArgs s_ListSort___init__, defBody s_ListSort___init__, defScope s_ListSort___init__, [], []⟩, ⟨("all_shapes", none), "all_shapes", "all_shapes", defArgs s_all_shapes, defBody s_all_shapes, defScope s_all_shapes, [], []⟩, ⟨("fewest", none), "fewest", "fewest", defArgs s_fewest, defBody s_fewest, defScope s_fewest, [], []⟩, ⟨("most", none), "most", "most", defArgs s_most, defBody s_most, defScope s_most, [], []⟩, ⟨("fewest_keys", none), "fewest_keys", "fewest_keys", defArgs s_fewest_keys, defBody s_fewest_keys, defScope s_fewest_keys, [], []⟩, ⟨("most_keys", none), "most_keys", "most_keys", defArgs s_most_keys, defBody s_most_keys, defScope s_most_keys, [], []⟩, ⟨("count_of_falling", none), "count_of_falling", "count_of_falling", defArgs s_count_of_falling, defBody s_count_of_falling, defScope s_count_of_falling, [], []⟩, ⟨("sum_of", none), "sum_of", "sum_of", defArgs s_sum_of, defBody s_sum_of, defScope s_sum_of, [], []⟩, ⟨("spread", none), "spread", "spread", defArgs s_spread, defBody s_spread, defScope s_spread, [], []⟩, ⟨("_check_many", none), "_check_many", "_check_many", defArgs s_check_many, defBody s_check_many, defScope s_check_many, [], []⟩, ⟨("_law_source", none), "_law_source", "_law_source", defArgs s_source, defBody s_source, defScope s_source, [], []⟩]
def hfn1 : List He.DefD := [⟨("_law_draw", none), "_law_draw", "_law_draw", defArgs s_draw, defBody s_draw, defScope s_draw, [], []⟩, ⟨("_law_error", none), "_law_error", "_law_error", defArgs s_error, defBody s_error, defScope s_error, [], []⟩, ⟨("_law_numbers_right", none), "_law_numbers_right", "_law_numbers_right", defArgs s_numbers_right, defBody s_numbers_right, defScope s_numbers_right, [], []⟩, ⟨("_law_lengths_right", none), "_law_lengths_right", "_law_lengths_right", defArgs s_lengths_right, defBody s_lengths_right, defScope s_lengths_right, [], []⟩, ⟨("law", none), "law", "law", defArgs s_law, defBody s_law, defScope s_law, [], []⟩]
def hfn : List He.DefD := hfn0 ++ hfn1
def htf : List He.Defn := [("_law_numbers_right", none), ("_law_lengths_right", none), ("law", none)]
def hex0 (K : PySem.W.Frag) : List Bool := [decide (PySem.W.nsIn K mainGlobals "ask_honestly" = some (some (.ref (He.fAd K ("ask_honestly", none))))),
  decide (PySem.W.nsIn K mainGlobals "is_integer" = some (some (.ref (He.fAd K ("is_integer", none))))),
  decide (PySem.W.nsIn K mainGlobals "is_within" = some (some (.ref (He.fAd K ("is_within", none))))),
  decide (PySem.W.nsIn K mainGlobals "check_lengths" = some (some (.ref (He.fAd K ("check_lengths", none))))),
  decide (PySem.W.nsIn K mainGlobals "check_number" = some (some (.ref (He.fAd K ("check_number", none))))),
  decide (PySem.W.findIn K (.ref (He.ga K "PieceStack")) "__init__" = some (some (.ref (He.fAd K ("PieceStack", some "__init__"))))),
  decide (PySem.W.isFn K (.ref (He.fAd K ("PieceStack", some "__init__"))) = true),
  decide (PySem.W.nsIn K mainGlobals "least_length" = some (some (.ref (He.fAd K ("least_length", none))))),
  decide (PySem.W.findIn K (.ref (He.ga K "ListSort")) "__init__" = some (some (.ref (He.fAd K ("ListSort", some "__init__"))))),
  decide (PySem.W.isFn K (.ref (He.fAd K ("ListSort", some "__init__"))) = true),
  decide (PySem.W.nsIn K mainGlobals "all_shapes" = some (some (.ref (He.fAd K ("all_shapes", none))))),
  decide (PySem.W.nsIn K mainGlobals "fewest" = some (some (.ref (He.fAd K ("fewest", none))))),
  decide (PySem.W.nsIn K mainGlobals "most" = some (some (.ref (He.fAd K ("most", none))))),
  decide (PySem.W.nsIn K mainGlobals "fewest_keys" = some (some (.ref (He.fAd K ("fewest_keys", none))))),
  decide (PySem.W.nsIn K mainGlobals "most_keys" = some (some (.ref (He.fAd K ("most_keys", none))))),
  decide (PySem.W.nsIn K mainGlobals "count_of_falling" = some (some (.ref (He.fAd K ("count_of_falling", none))))),
  decide (PySem.W.nsIn K mainGlobals "sum_of" = some (some (.ref (He.fAd K ("sum_of", none))))),
  decide (PySem.W.nsIn K mainGlobals "spread" = some (some (.ref (He.fAd K ("spread", none))))),
  decide (PySem.W.nsIn K mainGlobals "_check_many" = some (some (.ref (He.fAd K ("_check_many", none))))),
  decide (PySem.W.nsIn K mainGlobals "_law_source" = some (some (.ref (He.fAd K ("_law_source", none))))),
  decide (PySem.W.nsIn K mainGlobals "_law_draw" = some (some (.ref (He.fAd K ("_law_draw", none))))),
  decide (PySem.W.nsIn K mainGlobals "_law_error" = some (some (.ref (He.fAd K ("_law_error", none))))),
  decide (PySem.W.nsIn K mainGlobals "_law_numbers_right" = some (some (.ref (He.fAd K ("_law_numbers_right", none))))),
  decide (PySem.W.nsIn K mainGlobals "_law_lengths_right" = some (some (.ref (He.fAd K ("_law_lengths_right", none))))),
  decide (PySem.W.nsIn K mainGlobals "law" = some (some (.ref (He.fAd K ("law", none))))),
  Hd.intB K "FIRST_PATIENCE" 7,
  Hd.intB K "GREATEST_ROW" 1000000000000000000000000000000,
  Hd.intB K "LEAST_HALVED" 64,
  Hd.intB K "LONGEST_STRETCH" 1000000000000000000,
  Hd.intB K "MOST_ITEMS" 63]
def hex1 (K : PySem.W.Frag) : List Bool := [Hd.intB K "MOST_SPREAD" 6,
  Hd.intB K "MOST_STRETCHES" 300,
  decide (PySem.W.nsIn K mainGlobals "abs" = some none),
  decide (PySem.W.nsIn K mainGlobals "bool" = some none),
  decide (PySem.W.nsIn K mainGlobals "enumerate" = some none),
  decide (PySem.W.nsIn K mainGlobals "int" = some none),
  decide (PySem.W.nsIn K mainGlobals "isinstance" = some none),
  decide (PySem.W.nsIn K mainGlobals "len" = some none),
  decide (PySem.W.nsIn K mainGlobals "list" = some none),
  decide (PySem.W.nsIn K mainGlobals "max" = some none),
  decide (PySem.W.nsIn K mainGlobals "range" = some none),
  decide (PySem.W.nsIn K mainGlobals "sorted" = some none),
  decide (PySem.W.nsIn K mainGlobals "sum" = some none),
  decide (PySem.W.nsIn K mainGlobals "tuple" = some none),
  decide (PySem.W.nsIn K mainGlobals "ListSort" = some (some (.ref (He.ga K "ListSort")))),
  decide (PySem.W.plainGet K (He.ga K "ListSort") Str.empty = true),
  decide (PySem.W.hasDictIn K (He.ga K "ListSort") = true),
  decide (PySem.W.plainOver K (He.ga K "ListSort") = true),
  decide (PySem.W.findIn K (.ref (He.ga K "ListSort")) "__setattr__" = some (some (.builtin "object.__setattr__"))),
  decide (PySem.W.makesIn K (He.ga K "ListSort") = true),
  decide (PySem.W.keepIn K (.ref (He.ga K "ListSort")) = true),
  decide (PySem.W.findIn K (.ref (He.ga K "ListSort")) "many" = some none),
  decide (PySem.W.findIn K (.ref (He.ga K "ListSort")) "turned" = some none),
  decide (PySem.W.findIn K (.ref (He.ga K "ListSort")) "row" = some none),
  decide (PySem.W.findIn K (.ref (He.ga K "ListSort")) "least" = some none),
  decide (PySem.W.findIn K (.ref (He.ga K "ListSort")) "stack" = some none),
  decide (PySem.W.findIn K (.ref (He.ga K "ListSort")) "patience_between" = some none),
  decide (PySem.W.findIn K (.ref (He.ga K "ListSort")) "start" = some none),
  decide (PySem.W.findIn K (.ref (He.ga K "ListSort")) "found" = some none),
  decide (PySem.W.findIn K (.ref (He.ga K "ListSort")) "length" = some none)]
def hex2 (K : PySem.W.Frag) : List Bool := [decide (PySem.W.findIn K (.ref (He.ga K "ListSort")) "border" = some none),
  decide (PySem.W.findIn K (.ref (He.ga K "ListSort")) "machine" = some none),
  decide (PySem.W.findIn K (.ref (He.ga K "ListSort")) "work" = some none),
  decide (PySem.W.findIn K (.ref (He.ga K "ListSort")) "waiting" = some none),
  decide (PySem.W.findIn K (.ref (He.ga K "ListSort")) "log" = some none),
  decide (PySem.W.findIn K (.ref (He.ga K "ListSort")) "steps" = some none),
  decide (PySem.W.findIn K (.ref (He.ga K "ListSort")) "marks" = some none),
  decide (PySem.W.nsIn K mainGlobals "PieceStack" = some (some (.ref (He.ga K "PieceStack")))),
  decide (PySem.W.plainGet K (He.ga K "PieceStack") Str.empty = true),
  decide (PySem.W.hasDictIn K (He.ga K "PieceStack") = true),
  decide (PySem.W.plainOver K (He.ga K "PieceStack") = true),
  decide (PySem.W.findIn K (.ref (He.ga K "PieceStack")) "__setattr__" = some (some (.builtin "object.__setattr__"))),
  decide (PySem.W.makesIn K (He.ga K "PieceStack") = true),
  decide (PySem.W.keepIn K (.ref (He.ga K "PieceStack")) = true),
  decide (PySem.W.findIn K (.ref (He.ga K "PieceStack")) "whole" = some none),
  decide (PySem.W.findIn K (.ref (He.ga K "PieceStack")) "piled" = some none),
  decide (PySem.W.nsIn K mainGlobals "InvalidLengths" = some (some (.ref (He.ga K "InvalidLengths")))),
  decide (PySem.W.findIn K (.ref (He.ga K "InvalidLengths")) "__init__" = some (some (.ref (He.fAd K ("InvalidLengths", some "__init__"))))),
  Hd.excB K (He.ga K "InvalidLengths") (He.ga K "SortError"),
  decide (PySem.W.findIn K (.ref (He.ga K "InvalidLengths")) "__setattr__" = some (some (.builtin "object.__setattr__"))),
  decide (PySem.W.findIn K (.ref (He.ga K "InvalidLengths")) "__getattribute__" = some (some (.builtin "BaseException.__getattribute__"))),
  decide (PySem.W.findIn K (.ref (He.ga K "InvalidLengths")) "__getattr__" = some none),
  decide (PySem.W.findIn K (.ref (He.ga K "InvalidLengths")) "index" = some none),
  decide (PySem.W.typeIn K (.ref (He.fAd K ("InvalidLengths", some "__init__"))) = some (.type "function")),
  decide (PySem.W.keepIn K (.ref (He.ga K "InvalidLengths")) = true),
  decide (PySem.W.subIn K (.ref (He.ga K "InvalidLengths")) (.type "BaseException") = some true),
  decide (PySem.W.typeIn K (.ref (He.ga K "InvalidLengths")) = some (.type "type")),
  decide (PySem.W.hasDictIn K (He.ga K "InvalidLengths") = true),
  decide (PySem.W.isClsIn K (He.ga K "InvalidLengths") = true),
  decide (PySem.W.subIn K (.ref (He.ga K "InvalidLengths")) (.ref (He.ga K "InvalidLengths")) = some true)]
def hex3 (K : PySem.W.Frag) : List Bool := [decide (PySem.W.nsIn K mainGlobals "InvalidNumber" = some (some (.ref (He.ga K "InvalidNumber")))),
  decide (PySem.W.findIn K (.ref (He.ga K "InvalidNumber")) "__init__" = some (some (.ref (He.fAd K ("InvalidNumber", some "__init__"))))),
  Hd.excB K (He.ga K "InvalidNumber") (He.ga K "SortError"),
  decide (PySem.W.findIn K (.ref (He.ga K "InvalidNumber")) "__setattr__" = some (some (.builtin "object.__setattr__"))),
  decide (PySem.W.findIn K (.ref (He.ga K "InvalidNumber")) "__getattribute__" = some (some (.builtin "BaseException.__getattribute__"))),
  decide (PySem.W.findIn K (.ref (He.ga K "InvalidNumber")) "__getattr__" = some none),
  decide (PySem.W.findIn K (.ref (He.ga K "InvalidNumber")) "name" = some none),
  decide (PySem.W.typeIn K (.ref (He.fAd K ("InvalidNumber", some "__init__"))) = some (.type "function")),
  decide (PySem.W.keepIn K (.ref (He.ga K "InvalidNumber")) = true),
  decide (PySem.W.subIn K (.ref (He.ga K "InvalidNumber")) (.type "BaseException") = some true),
  decide (PySem.W.typeIn K (.ref (He.ga K "InvalidNumber")) = some (.type "type")),
  decide (PySem.W.hasDictIn K (He.ga K "InvalidNumber") = true),
  decide (PySem.W.isClsIn K (He.ga K "InvalidNumber") = true),
  decide (PySem.W.subIn K (.ref (He.ga K "InvalidNumber")) (.ref (He.ga K "InvalidNumber")) = some true),
  decide (PySem.W.nsIn K mainGlobals "SortError" = some (some (.ref (He.ga K "SortError")))),
  decide (PySem.W.readsIn K (He.ga K "SortError") (.type "type") = true),
  decide (PySem.W.specialIn K (.ref (He.ga K "SortError")) "__getattribute__" = some (some (.builtin "type.__getattribute__"))),
  Hd.initB K (He.ga K "SortError") "ValueError.__init__",
  decide (PySem.W.subIn K (.ref (He.ga K "SortError")) (.type "BaseException") = some true),
  decide (PySem.W.typeIn K (.ref (He.ga K "SortError")) = some (.type "type")),
  decide (PySem.W.isClsIn K (He.ga K "SortError") = true),
  decide (PySem.W.subIn K (.ref (He.ga K "SortError")) (.ref (He.ga K "SortError")) = some true),
  decide (PySem.W.subIn K (.ref (He.ga K "InvalidLengths")) (.ref (He.ga K "InvalidNumber")) = some false),
  decide (PySem.W.subIn K (.ref (He.ga K "InvalidLengths")) (.ref (He.ga K "SortError")) = some true),
  decide (PySem.W.subIn K (.ref (He.ga K "InvalidNumber")) (.ref (He.ga K "InvalidLengths")) = some false),
  decide (PySem.W.subIn K (.ref (He.ga K "InvalidNumber")) (.ref (He.ga K "SortError")) = some true),
  decide (PySem.W.findIn K (.ref (He.ga K "InvalidLengths")) "__class__" = some (some (.builtin "object.__class__"))),
  decide (PySem.W.mroIn K (He.ga K "InvalidLengths") (.type "object") = some true),
  decide (PySem.W.findIn K (.ref (He.ga K "InvalidNumber")) "__class__" = some (some (.builtin "object.__class__"))),
  decide (PySem.W.mroIn K (He.ga K "InvalidNumber") (.type "object") = some true)]
def hex4 (K : PySem.W.Frag) : List Bool := [decide (PySem.W.specialIn K (.builtin "object.__class__") "__get__" = some (some (.builtin "getset_descriptor.__get__"))),
  decide (PySem.W.takesIn K (.builtin "object.__class__") = some true),
  decide ((He.cT K ("_law_numbers_right", none)).2 ≠ (He.cT K ("_law_lengths_right", none)).2),
  decide ((He.cT K ("_law_numbers_right", none)).2 ≠ (He.cT K ("law", none)).2),
  decide ((He.cT K ("_law_lengths_right", none)).2 ≠ (He.cT K ("law", none)).2)]
def hexs (K : PySem.W.Frag) : List Bool := hex0 K ++ (hex1 K ++ (hex2 K ++ (hex3 K ++ (hex4 K))))
def hex (K : PySem.W.Frag) : Bool := (hexs K).all id
def has : List Addr := List.range 1000
abbrev hk : PySem.W.Hook := Hd.hookY has hfn htf hex
def hob (s : PySem.W.SharedT) : He.AlX := Hd.obsY has hfn htf hex (HandSHeadRun.getT s)
theorem hob_eq (s : PySem.W.SharedT) : hob s = hk.obs s.abs := Hd.obsY_eq (HandSHeadRun.getT_eq s)
def hnm0 : List PySem.Str := ["_wall", "__name__", "ask_honestly", "SortError", "InvalidLengths", "InvalidNumber", "GREATEST_ROW", "is_integer", "is_within", "check_lengths", "check_number", "fewest_of_halving", "most_of_halving", "long_ways_of_halving", "total_of_halving", "AT_HINT", "STEPPING", "HALVING", "Leaper", "FIRST_LEAP", "LAST_LEAP", "ONE_BY_ONE", "LEAP_IN_FIRST", "LEAP_IN_SECOND", "LONG_LEAP", "Joiner", "level_between", "PieceStack", "Placer", "LEAST_HALVED"]
def hnm1 : List PySem.Str := ["least_length", "RISING", "ALL_EQUAL", "FALLING", "STILL_EQUAL", "RISING_ON", "RunFinder", "FIRST_PATIENCE", "ListSort", "sum_over_orders", "_runs_broken_at", "_total_of_whole_runs", "all_shapes", "_with_one_more", "MOST_ITEMS", "MOST_SPREAD", "MOST_STRETCHES", "LONGEST_STRETCH", "fewest", "most", "fewest_keys", "most_keys", "count_of_falling", "sum_of", "spread", "_check_many", "_law_source", "_law_draw", "_law_pick", "_law_error"]
def hnm2 : List PySem.Str := ["_law_numbers_right", "_law_lengths_right"]
def hnm : List PySem.Str := hnm0 ++ hnm1 ++ hnm2
abbrev HR : PySem.W.OpenRow := PySem.W.OpenLaw.row PySem.Challenge.rw_askedorder_k78_what_counts_refuse
theorem hrun (w : World) : HandSHeadRun.RunEq HR (PySem.W.view HR.prog [76]) hk hob 6000 hnm w := by
  intro os
  kernel_rfl
theorem all_of {l : PySem.W.OpenLaw} {w : World} {K : PySem.W.Frag} {h : Heap} {mg : Str → Option Value} {fa : Addr} (X : K.In h) (G : h.Ns mainGlobals mg) (hfa : mg "law" = some (.ref fa)) (c : He.SaysX [] hfn [] htf hex w h K)
    : LamX.LawAtS l w K CX0 13 63 "script" mg fa h := by
  have hm : (hexs K).all id = true := c.more
  obtain ⟨_, _, _, _, _, _, _, _, _, l0, c0, k0⟩ := Hd.look c.t.d 0 rfl
  obtain ⟨_, _, _, _, _, _, _, _, _, l1, c1, k1⟩ := Hd.look c.t.d 1 rfl
  obtain ⟨_, _, _, _, _, _, _, _, _, l2, c2, k2⟩ := Hd.look c.t.d 2 rfl
  obtain ⟨_, _, _, _, _, _, _, _, _, l3, c3, k3⟩ := Hd.look c.t.d 3 rfl
  obtain ⟨_, _, _, _, _, _, _, _, _, l4, c4, k4⟩ := Hd.look c.t.d 4 rfl
  obtain ⟨_, _, _, _, _, _, _, _, _, _, _, _, its5, _, _, l5, c5, k5, t5, r5⟩ := Hd.lookT c.t.d 5 rfl
  have e5 := Hd.its1N r5
  rw [e5] at t5
  obtain ⟨_, _, _, _, _, _, _, _, _, _, _, _, its6, _, _, l6, c6, k6, t6, r6⟩ := Hd.lookT c.t.d 6 rfl
  have e6 := Hd.its1N r6
  rw [e6] at t6
  obtain ⟨_, _, _, _, _, _, _, _, _, l7, c7, k7⟩ := Hd.look c.t.d 7 rfl
  obtain ⟨_, _, _, _, _, _, _, _, _, l8, c8, k8⟩ := Hd.look c.t.d 8 rfl
  obtain ⟨_, _, _, _, _, _, _, _, _, l9, c9, k9⟩ := Hd.look c.t.d 9 rfl
  obtain ⟨_, _, _, _, _, _, _, _, _, l10, c10, k10⟩ := Hd.look c.t.d 10 rfl
  obtain ⟨_, _, _, _, _, _, _, _, _, l11, c11, k11⟩ := Hd.look c.t.d 11 rfl
  obtain ⟨_, _, _, _, _, _, _, _, _, l12, c12, k12⟩ := Hd.look c.t.d 12 rfl
  obtain ⟨_, _, _, _, _, _, _, _, _, l13, c13, k13⟩ := Hd.look c.t.d 13 rfl
  obtain ⟨_, _, _, _, _, _, _, _, _, l14, c14, k14⟩ := Hd.look c.t.d 14 rfl
  obtain ⟨_, _, _, _, _, _, _, _, _, l15, c15, k15⟩ := Hd.look c.t.d 15 rfl
  obtain ⟨_, _, _, _, _, _, _, _, _, l16, c16, k16⟩ := Hd.look c.t.d 16 rfl
  obtain ⟨_, _, _, _, _, _, _, _, _, l17, c17, k17⟩ := Hd.look c.t.d 17 rfl
  obtain ⟨_, _, _, _, _, _, _, _, _, l18, c18, k18⟩ := Hd.look c.t.d 18 rfl
  obtain ⟨_, _, _, _, _, _, _, _, _, l19, c19, k19⟩ := Hd.look c.t.d 19 rfl
  obtain ⟨_, _, _, _, _, _, _, _, _, l20, c20, k20⟩ := Hd.look c.t.d 20 rfl
  obtain ⟨_, _, _, _, _, _, _, _, _, l21, c21, k21⟩ := Hd.look c.t.d 21 rfl
  obtain ⟨_, _, _, _, _, _, _, _, _, l22, c22, k22⟩ := Hd.look c.t.d 22 rfl
  obtain ⟨_, _, _, _, _, _, _, _, _, l23, c23, k23⟩ := Hd.look c.t.d 23 rfl
  obtain ⟨_, _, _, _, _, _, _, _, _, l24, c24, k24⟩ := Hd.look c.t.d 24 rfl
  obtain ⟨t_FIRST_PATIENCE, v_FIRST_PATIENCE⟩ := Hd.intB_ok (Hd.at_ hm 25 rfl)
  obtain ⟨t_GREATEST_ROW, v_GREATEST_ROW⟩ := Hd.intB_ok (Hd.at_ hm 26 rfl)
  obtain ⟨t_LEAST_HALVED, v_LEAST_HALVED⟩ := Hd.intB_ok (Hd.at_ hm 27 rfl)
  obtain ⟨t_LONGEST_STRETCH, v_LONGEST_STRETCH⟩ := Hd.intB_ok (Hd.at_ hm 28 rfl)
  obtain ⟨t_MOST_ITEMS, v_MOST_ITEMS⟩ := Hd.intB_ok (Hd.at_ hm 29 rfl)
  obtain ⟨t_MOST_SPREAD, v_MOST_SPREAD⟩ := Hd.intB_ok (Hd.at_ hm 30 rfl)
  obtain ⟨t_MOST_STRETCHES, v_MOST_STRETCHES⟩ := Hd.intB_ok (Hd.at_ hm 31 rfl)
  obtain ⟨_, _, _, _, _, _, _, _, _, _, _, _, _, _, xL_InvalidLengths⟩ := Hd.excB_ok (Hd.at_ hm 78 rfl)
  obtain ⟨_, _, _, _, _, _, _, _, _, _, _, _, _, _, xL_InvalidNumber⟩ := Hd.excB_ok (Hd.at_ hm 92 rfl)
  have le_numbers_right := Hd.code_at l22 c22
  have le_lengths_right := Hd.code_at l23 c23
  have le_law := Hd.code_at l24 c24
  exact all_mk X G hfa (c.empty _ (List.Mem.head _)) (c.empty _ (List.Mem.tail _ (List.Mem.head _))) (c.empty _ (List.Mem.tail _ (List.Mem.tail _ (List.Mem.head _)))) (Hd.dec hm 0 rfl) l0 c0 k0 l1 c1 k1 l2 c2 k2 (Hd.dec hm 1 rfl) l3 c3 k3 (Hd.dec hm 2 rfl) l4 c4 k4 (Hd.dec hm 3 rfl) l5 c5 k5 t5 (Hd.dec hm 4 rfl) l6 c6 k6 t6 (Hd.dec hm 5 rfl) (Hd.dec hm 6 rfl) l7 c7 k7 (Hd.dec hm 7 rfl) l8 c8 k8 (Hd.dec hm 8 rfl) (Hd.dec hm 9 rfl) l9 c9 k9 (Hd.dec hm 10 rfl) l10 c10 k10 (Hd.dec hm 11 rfl) l11 c11 k11 (Hd.dec hm 12 rfl) l12 c12 k12 (Hd.dec hm 13 rfl) l13 c13 k13 (Hd.dec hm 14 rfl) l14 c14 k14 (Hd.dec hm 15 rfl) l15 c15 k15 (Hd.dec hm 16 rfl) l16 c16 k16 (Hd.dec hm 17 rfl) l17 c17 k17 (Hd.dec hm 18 rfl) l18 c18 k18 (Hd.dec hm 19 rfl) l19 c19 k19 (Hd.dec hm 20 rfl) l20 c20 k20 (Hd.dec hm 21 rfl) l21 c21 k21 (Hd.dec hm 22 rfl) l22 c22 k22 (Hd.dec hm 23 rfl) l23 c23 k23 (Hd.dec hm 24 rfl) l24 c24 k24 v_FIRST_PATIENCE v_GREATEST_ROW v_LEAST_HALVED v_LONGEST_STRETCH v_MOST_ITEMS v_MOST_SPREAD v_MOST_STRETCHES (Hd.dec hm 32 rfl) (Hd.dec hm 33 rfl) (Hd.dec hm 34 rfl) (Hd.dec hm 35 rfl) (Hd.dec hm 36 rfl) (Hd.dec hm 37 rfl) (Hd.dec hm 38 rfl) (Hd.dec hm 39 rfl) (Hd.dec hm 40 rfl) (Hd.dec hm 41 rfl) (Hd.dec hm 42 rfl) (Hd.dec hm 43 rfl) (Hd.dec hm 44 rfl) (Hd.dec hm 45 rfl) (Hd.dec hm 46 rfl) (Hd.dec hm 47 rfl) (Hd.dec hm 48 rfl) (Hd.dec hm 49 rfl) (Hd.dec hm 50 rfl) (Hd.dec hm 51 rfl) (Hd.dec hm 52 rfl) (Hd.dec hm 53 rfl) (Hd.dec hm 54 rfl) (Hd.dec hm 55 rfl) (Hd.dec hm 56 rfl) (Hd.dec hm 57 rfl) (Hd.dec hm 58 rfl) (Hd.dec hm 59 rfl) (Hd.dec hm 60 rfl) (Hd.dec hm 61 rfl) (Hd.dec hm 62 rfl) (Hd.dec hm 63 rfl) (Hd.dec hm 64 rfl) (Hd.dec hm 65 rfl) (Hd.dec hm 66 rfl) (Hd.dec hm 67 rfl) (Hd.dec hm 68 rfl) (Hd.dec hm 69 rfl) (Hd.dec hm 70 rfl) (Hd.dec hm 71 rfl) (Hd.dec hm 72 rfl) (Hd.dec hm 73 rfl) (Hd.dec hm 74 rfl) (Hd.dec hm 75 rfl) (Hd.dec hm 76 rfl) (Hd.dec hm 77 rfl) xL_InvalidLengths (Hd.dec hm 79 rfl) (Hd.dec hm 80 rfl) (Hd.dec hm 81 rfl) (Hd.dec hm 82 rfl) (Hd.dec hm 83 rfl) (Hd.dec hm 84 rfl) (Hd.dec hm 85 rfl) (Hd.dec hm 86 rfl) (Hd.dec hm 87 rfl) (Hd.dec hm 88 rfl) (Hd.dec hm 89 rfl) (Hd.dec hm 90 rfl) (Hd.dec hm 91 rfl) xL_InvalidNumber (Hd.dec hm 93 rfl) (Hd.dec hm 94 rfl) (Hd.dec hm 95 rfl) (Hd.dec hm 96 rfl) (Hd.dec hm 97 rfl) (Hd.dec hm 98 rfl) (Hd.dec hm 99 rfl) (Hd.dec hm 100 rfl) (Hd.dec hm 101 rfl) (Hd.dec hm 102 rfl) (Hd.dec hm 103 rfl) (Hd.dec hm 104 rfl) (Hd.dec hm 105 rfl) (Hd.dec hm 106 rfl) (Hd.initB_ok (Hd.at_ hm 107 rfl)) (Hd.dec hm 108 rfl) (Hd.dec hm 109 rfl) (Hd.dec hm 110 rfl) (Hd.dec hm 111 rfl) (Hd.dec hm 112 rfl) (Hd.dec hm 113 rfl) (Hd.dec hm 114 rfl) (Hd.dec hm 115 rfl) (Hd.dec hm 116 rfl) (Hd.dec hm 117 rfl) (Hd.dec hm 118 rfl) (Hd.dec hm 119 rfl) (Hd.dec hm 120 rfl) (Hd.dec hm 121 rfl) le_numbers_right (c.hd _ (List.Mem.head _)) (c.out _ (List.Mem.head _)) le_lengths_right (c.hd _ (List.Mem.tail _ (List.Mem.head _))) (c.out _ (List.Mem.tail _ (List.Mem.head _))) le_law (c.hd _ (List.Mem.tail _ (List.Mem.tail _ (List.Mem.head _)))) (c.out _ (List.Mem.tail _ (List.Mem.tail _ (List.Mem.head _)))) (Hd.dec hm 122 rfl) (Hd.dec hm 123 rfl) (Hd.dec hm 124 rfl)
end K78
open PySem PySem.W PySem.Calls PyProof.Rows
set_option maxHeartbeats 0 in
theorem PySem.Challenge.cw_askedorder_k78_what_counts_refuse_holds : PySem.Challenge.rw_askedorder_k78_what_counts_refuse.Holds := by
  w_on; o_law
  refine HandSHeadRun.head_any (r := OpenLaw.row PySem.Challenge.rw_askedorder_k78_what_counts_refuse) (q := view (PySem.W.OpenLaw.row PySem.Challenge.rw_askedorder_k78_what_counts_refuse).prog [76]) (H := K78.hk) (ob := K78.hob) (M := 6000) (loose := K78.hnm) (d := HandSHeadRun.topDef (PySem.W.OpenLaw.row PySem.Challenge.rw_askedorder_k78_what_counts_refuse).prog 76) (kwd := []) K78.hob_eq (by kernel_rfl) (fun s => by kernel_rfl) K78.hrun (by kernel_rfl) (by kernel_rfl) (by kernel_rfl) (by rfl) (by first | assumption | decide +kernel) (by decide +kernel) ⟨rfl, rfl, rfl, rfl, rfl, by decide +kernel⟩ ?hw ?hc
  case hw => w_witness2
  case hc =>
    refine LamX.walk_ofTsE (l := PySem.Challenge.rw_askedorder_k78_what_counts_refuse) (n := 63) (k := 13) (x := "script") (CX := fun _ => L2.CX0) rfl (by decide) (by kernel_rfl) ⟨rfl, by decide, by decide⟩ ?F (fun _ _ _ _ _ z => z)
    intro w mg fa h Y G hmg0
    obtain ⟨K, KX, c⟩ := Y
    have hmg : mg ("law" : PySem.Str) = some (.ref fa) := by
      have e : (HandSHeadRun.topDef (PySem.W.OpenLaw.row PySem.Challenge.rw_askedorder_k78_what_counts_refuse).prog 76).name = ("law" : PySem.Str) := by kernel_rfl
      rw [← e]
      exact hmg0
    exact ⟨K, KX, K78.all_of KX G hmg c⟩


