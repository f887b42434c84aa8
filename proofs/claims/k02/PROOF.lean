import PyProof.Rows.All
import Wide.All
import OpenK.AllK
import Wide.FinOn
import HandS.ForMost
import HandS.ForExc
import HandS.Wide
import HandS.IsInst
import HandS.Style
import HandS.Evl
import HandS.Defaults
import HandS.WordsExc
import KE.GoesEnum
import HandS.SortRule
import HandS.SortInts
import PySem.Challenge.RW_askedorder_k02_stable_orders
set_option Elab.async false
set_option linter.all false
set_option maxRecDepth 100000
set_option maxHeartbeats 8000000
namespace L2
open PySem PySem.Spec PyProof.Rows
/-! ### own rules: list + list of lists that are only read, powers, repr of a bool, calls by keywords alone -/
def rCatS (K : PySem.W.Frag) : R2 := fun x y H Q => ∃ l b xs zs, x = .ref l ∧ y = .ref b ∧ SqL K H l xs ∧ SqL K H b zs ∧ xs.length + zs.length ≤ sizeLine ∧ ∀ p, H p = none → Q (.ref p) (upd H p (.lst (xs ++ zs)))
theorem op_catS {X : Cx} : OpR X (binaryOp .Add) (rCatS X.K) := by
  intro pins s σ H x y v u Q I rx ry h
  obtain ⟨l, b, xs, zs, rfl, rfl, hH, hB, hz, q⟩ := h
  cases rx
  cases ry
  obtain ⟨its, r, pl, hl⟩ := I.list hH
  obtain ⟨its2, r2, pl2, hl2⟩ := I.list hB
  have e1 := r.length
  have e2 := r2.length
  obtain ⟨⟨cls, dd, data, sl⟩, n, ho, hc, hdd, hd⟩ := pl
  obtain ⟨⟨cls2, dd2, data2, sl2⟩, n2, ho2, hc2, hdd2, hd2⟩ := pl2
  simp only at hc hd hc2 hd2
  subst hc hd hc2 hd2
  have e : its.toArray ++ its2.toArray = (its ++ its2).toArray := by simp
  refine concat_meets ⟨_, ho, rfl⟩ ⟨_, ho2, rfl⟩ noFill_list_add seq_list_add PySem.F.slot_list_add PySem.F.entry_list_add (PySem.F.args_list_add_2 _ _) (list_addW l b its.toArray its2.toArray n n2 dd dd2 sl sl2 (by simp only [List.size_toArray]; omega)) ⟨ho, ho2, ?_⟩
  rw [e]
  exact ⟨.ref _, _, I.lnew (t' := s.toks) (r.append r2) (by rw [List.length_append]; omega), rfl, q _ I.fresh⟩
def CPowW (i j : Int) : Prop := 0 ≤ j ∧ (Builtin.Int.intBits i : Int) * j ≤ 2 ^ 27
theorem op_powW {X : Cx} : OpR X (binaryOp .Pow) (rI CPowW fun i j => .int (i ^ j.toNat)) := opI fun _ _ _ _ _ _ _ hc q => pow_int hc.1 hc.2 q
theorem call_repr_bool {X : Cx} : CallR X (.builtin "repr") (fun xs H Q => ∃ b, xs = [.bl b] ∧ Q (.str (if b then "True" else "False")) H) := by
  intro pins s σ H xs us Q I r h
  obtain ⟨b, rfl, q⟩ := h
  obtain ⟨u, rfl, r1⟩ := vals1 r
  cases r1
  exact PySem.P.repr_of_bool ⟨.str _, H, I.tok _, ⟨_, rfl⟩, q⟩
/-- f(k = v, ..), keywords alone -/
def tCallK0 (sp : Sp) (gV : List V → List V → List V) (E : XK) (tk : TA) : TE := fun σ H Q => tk σ H fun zs H2 => sp (gV [] zs) H2 Q E
theorem pe_callK0 {X : Cx} {CX : CXT} {k : Nat} {f : Addr} {fd : FuncData} {ps ks : List Str} {sp : Sp} {E : XK} {x : Str} {p pos : Pos} {kws : List Keyword} {tk : TA} {g : List Value → List Value → List Value} {gV : List V → List V → List V}
    (F : FnOk X.prog X.w X.K X.mg X.base CX k f fd ps sp) (hr : Room k X.A) (hg : Gl X x) (hm : X.mg x = some (.ref f)) (hk : PySem.W.keepIn X.K (.ref f) = true) (hb : KBinds X.K fd ps ks g gV) (hx : Passes CX X E)
    (hkw : PK X kws tk) (hall : (backToKw pos (keywordEach kws X.env)).all (·.1.isSome) = true := by rfl) (hks : (backToKw pos (keywordEach kws X.env)).filterMap (·.1) = ks := by rfl)
    (hdb : (x == ("__debug__" : Str)) = false := by decide)
    (hpl : ((backTo pos (starEach [] X.env)).any (·.1) || (backToKw pos (keywordEach kws X.env)).any (·.1.isNone)) = false := by rfl) :
    PE X (.Call (.Name x p) [] kws pos) (tCallK0 sp gV E tk) := by
  refine ⟨fun pins s σ H Q I h => ?_⟩
  refine wpAny_Call_Name_kw (ld_glob I hg hm ?_ hdb)
  refine PySem.W.callWith_KW0 (h₀ := X.base) I.ok.mod.kin hk hall ?_ hpl
  refine thn (hkw.run pos pins s σ H _ I h) fun ws s2 ⟨zs, H2, I2, rz, q2⟩ => ⟨I2.kIn, ?_⟩
  rw [hks]
  exact run_fnk F hr hb hx I2 .nil rz q2
/-! ### heaps: all but one address -/
/-- all that was tracked, but at p, is as it was -/
def SB (p : Addr) (H H' : Hp) : Prop := ∀ b o, b ≠ p → H b = some o → H' b = some o
theorem SB.refl (p : Addr) (H : Hp) : SB p H H := fun _ _ _ h => h
theorem SB.trans {p : Addr} {H H1 H2 : Hp} (a : SB p H H1) (b : SB p H1 H2) : SB p H H2 := fun c o n h => b c o n (a c o n h)
theorem SB.new {p q : Addr} {H : Hp} {o : HO} (h : H q = none) : SB p H (upd H q o) := fun b u n e => by
  rw [upd_ne (ne_of_none e h)]
  exact e
theorem SB.put {p : Addr} {H : Hp} {o : HO} : SB p H (upd H p o) := fun b u n e => by
  rw [upd_ne n]
  exact e
theorem SB.of {p : Addr} {H H' : Hp} (a : Same H H') : SB p H H' := fun c o _ h => a c o h
theorem SB.seq {p : Addr} {K : PySem.W.Frag} {H H' : Hp} {a : Addr} {xs : List V} (e : SB p H H') (n : a ≠ p) (h : SqL K H a xs) : SqL K H' a xs := by
  rcases h with (h | ⟨o, h⟩) | h
  · exact .inl (.inl (e _ _ n h))
  · exact .inl (.inr ⟨o, e _ _ n h⟩)
  · exact .inr h
theorem SB.tup {p : Addr} {K : PySem.W.Frag} {H H' : Hp} {a : Addr} {xs : List V} (e : SB p H H') (n : a ≠ p) (h : SqT K H a xs) : SqT K H' a xs := by
  rcases h with (h | ⟨o, h⟩) | h
  · exact .inl (.inl (e _ _ n h))
  · exact .inl (.inr ⟨o, e _ _ n h⟩)
  · exact .inr h
/-- what is free behind was free before, but at p -/
theorem SB.free {p : Addr} {H H' : Hp} (e : SB p H H') {l : Addr} (n : l ≠ p) (h : H' l = Option.none) : H l = Option.none := by
  cases q : H l with
  | none => rfl
  | some o =>
    rw [e l o n q] at h
    cases h
theorem same_upd {H : Hp} {p : Addr} {o : HO} (h : H p = none) : Same H (upd H p o) := fun b x e => by
  rw [upd_ne (ne_of_none e h)]
  exact e
theorem Same.tupS {K : PySem.W.Frag} {H H' : Hp} {a : Addr} {xs : List V} (e : Same H H') (h : SqT K H a xs) : SqT K H' a xs := by
  rcases h with (h | ⟨o, h⟩) | h
  · exact .inl (.inl (e _ _ h))
  · exact .inl (.inr ⟨o, e _ _ h⟩)
  · exact .inr h
theorem sq_of {K : PySem.W.Frag} {H : Hp} {a : Addr} {xs : List V} (h : H a = some (.lst xs)) : SqL K H a xs := .inl (.inl h)
theorem st_of {K : PySem.W.Frag} {H : Hp} {a : Addr} {xs : List V} (h : H a = some (.tup xs)) : SqT K H a xs := .inl (.inl h)
end L2
namespace L2
open PySem PySem.Spec PyProof.Rows
theorem for_iteL {K : PySem.W.Frag} {a : Addr} {xs : List V} {g : TG} {tb : TS} {D : Ends} {σ : St} {H : Hp} (Pv : Nat → St → Hp → Prop) (h0 : Pv 0 σ H) (hl : ∀ i σ H, i ≤ xs.length → Pv i σ H → SqL K H a xs)
    (hs : ∀ i x σ H T, xs[i]? = some x → Pv i σ H → H T = none → g (.ref T) σ (upd H T (.tup [.int (i : Nat), x])) fun σ2 H2 => tb { D with nx := Pv (i + 1), ct := Pv (i + 1), bk := D.nx } σ2 H2) (hd : ∀ σ H, Pv xs.length σ H → D.nx σ H) :
    ∃ W : Nat → Nat → St → Hp → Prop, (∃ m, W 0 m σ H) ∧ ∀ i m σ H, W i m σ H →
      ((Ite K a).stop i H ∧ D.nx σ H) ∨ ((Ite K a).go i H ∧ ∃ N : St → Hp → Prop, (∀ σ' H', N σ' H' → ∃ m', m' < m ∧ W (i + 1) m' σ' H') ∧ ∀ x H', (Ite K a).yld i H x H' → g x σ H' fun σ2 H2 => tb { D with nx := N, ct := N, bk := D.nx } σ2 H2) := by
  refine ⟨fun i m σ H => m = xs.length - i ∧ i ≤ xs.length ∧ Pv i σ H, ⟨xs.length, by simp, Nat.zero_le _, h0⟩, ?_⟩
  rintro i m σ H ⟨rfl, hi, p⟩
  have q := hl i σ H hi p
  by_cases hlt : i < xs.length
  · refine .inr ⟨⟨xs, xs[i], q, by simp [hlt]⟩, Pv (i + 1), fun σ' H' p' => ⟨xs.length - (i + 1), by omega, rfl, hlt, p'⟩, fun x H' y => ?_⟩
    obtain ⟨T, z, e, nT, eH, f⟩ := y
    subst e eH
    exact hs i z σ _ T (f xs q) p nT
  · have e : i = xs.length := by omega
    subst e
    exact .inl ⟨⟨xs, q, Nat.le_refl _⟩, hd σ H p⟩
end L2

namespace L2
open PySem PySem.Spec PyProof.Rows
/-! ### a def that has defaults -/
structure FunV (K : PySem.W.Frag) (x qual : Str) (st : Stmt) (f : Addr) (fd : FuncData) : Prop where
  ex : ∃ (oc : Value) (od : Option Addr) (dV kV doc pm : Value) (an : Option Addr) (cdv ct : Value) (osl : Array (Option Value)),
    fd = PySem.W.fnOf x qual (defArgs st) (defBody st) (defScope st) dV kV doc pm an cdv ct ∧ K.lookup f = some ⟨oc, od, .func fd, osl⟩ ∧ PySem.W.codeIn K cdv qual = true
section
variable {P : Program} {w : World} {K : PySem.W.Frag} {mg : Str → Option Value} {base : Heap}
theorem FunV.ok {x qual : Str} {st : Stmt} {f : Addr} {fd : FuncData} {N ps : List Str} {k : Nat} {sp : Sp} (F : FunV K x qual st f fd) (S : FnScope N ps (defScope st)) (len : ∀ vs H Q E, sp vs H Q E → vs.length = ps.length)
    (hbody : ∀ (cdv : Value) (A : Around) (outer : List Env) (s : Shared) (H : Hp) (vs : List V) (Q : VK) (E : XK), Room k (A.deeper (envOfC qual (defScope st) s.heap.objs.size f cdv)) → sp vs H Q E →
      ∃ t, PSs (cxOf CX0 P w K mg base N qual (defScope st) f cdv A outer s H E).nox (defBody st) t ∧ t { nx := fun _ H' => Q .non H', rt := Q } (start N vs) H) : FnOk P w K mg base CX0 (k + 1) f fd ps sp := by
  obtain ⟨oc, od, dV, kV, doc, pm, an, cdv, ct, osl, rfl, lk, hcd⟩ := F.ex
  refine fn_of lk hcd S len fun A outer s H vs Q E hr hsp => ?_
  obtain ⟨t, h, q⟩ := hbody cdv A outer s H vs Q E hr hsp
  exact ⟨t, h.nox, q⟩
theorem FunV.okX {x qual : Str} {st : Stmt} {f : Addr} {fd : FuncData} {N ps : List Str} {k : Nat} {sp : Sp} (F : FunV K x qual st f fd) (S : FnScope N ps (defScope st)) (len : ∀ vs H Q E, sp vs H Q E → vs.length = ps.length)
    (hbody : ∀ (cdv : Value) (A : Around) (outer : List Env) (s : Shared) (H : Hp) (vs : List V) (Q : VK) (E : XK), Room k (A.deeper (envOfC qual (defScope st) s.heap.objs.size f cdv)) → sp vs H Q E →
      ∃ t, PSs (cxOf (L2.CX P w) P w K mg base N qual (defScope st) f cdv A outer s H E) (defBody st) t ∧ t { nx := fun _ H' => Q .non H', rt := Q } (start N vs) H) : FnOk P w K mg base (L2.CX P w) (k + 1) f fd ps sp := by
  obtain ⟨oc, od, dV, kV, doc, pm, an, cdv, ct, osl, rfl, lk, hcd⟩ := F.ex
  exact fn_of lk hcd S len fun A outer s H vs Q E hr hsp => hbody cdv A outer s H vs Q E hr hsp
theorem funV_mk {x qual : Str} {st : Stmt} {f : Addr} {oc : Value} {od an : Option Addr} {osl : Array (Option Value)} {dV kV doc pm cdv ct : Value} (l : K.lookup f = some ⟨oc, od, .func (PySem.W.fnOf x qual (defArgs st) (defBody st) (defScope st) dV kV doc pm an cdv ct), osl⟩)
    (c : PySem.W.codeIn K cdv qual = true) : FunV K x qual st f (PySem.W.fnOf x qual (defArgs st) (defBody st) (defScope st) dV kV doc pm an cdv ct) := ⟨oc, od, dV, kV, doc, pm, an, cdv, ct, osl, rfl, l, c⟩
/-- how the arguments bind where the last defaults fill up: dvs the defaults, j of them are written -/
theorem bindsV {x qual : Str} {st : Stmt} {f T : Addr} {oc oT : Value} {od odT an : Option Addr} {osl slT : Array (Option Value)} {kV doc pm cdv ct : Value} {its : List Value} {nT : Nat} {ps : List Str} {dvs : List V}
    (l : K.lookup f = some ⟨oc, od, .func (PySem.W.fnOf x qual (defArgs st) (defBody st) (defScope st) (.ref T) kV doc pm an cdv ct), osl⟩)
    (c : PySem.W.codeIn K cdv qual = true) (kp : PySem.W.keepIn K (.ref f) = true) (lT : K.lookup T = some ⟨oT, odT, .seq its.toArray nT, slT⟩) (rT : Vals dvs its) (n j : Nat) (hd : dvs ≠ []) (hn : n + (dvs.length - j) = ps.length)
    (h : ∀ (T : Addr) (kV doc pm : Value) (an : Option Addr) (cdv ct : Value) (us its : List Value), us.length = n → its.length = dvs.length →
      ∃ k, bindArgs (PySem.W.fnOf x qual (defArgs st) (defBody st) (defScope st) (.ref T) kV doc pm an cdv ct) ⟨us, []⟩ = seqItems? (.ref T) >>= k ∧ k (some its.toArray) = pure (ps.zip (us ++ its.drop j))) :
    ∃ ds, Vals (dvs.drop j) ds ∧ Binds K (PySem.W.fnOf x qual (defArgs st) (defBody st) (defScope st) (.ref T) kV doc pm an cdv ct) ps ds := by
  have F : FunD K x qual (defArgs st) (defBody st) (defScope st) dvs [] f _ := ⟨⟨_, _, _, _, _, _, _, _, _, _, rfl, l, c, .inr ⟨hd, T, _, its, nT, rfl, lT, rfl, rT⟩, .inl rfl⟩, kp⟩
  exact F.binds1 (ps := ps) n j hd hn h
theorem Binds.none {fd : FuncData} {ps : List Str} {ds : List Value} (r : Vals [] ds) (b : Binds K fd ps ds) : Binds K fd ps [] := by
  cases r
  exact b
end
end L2

namespace PySem
open Sem (wp)
theorem meets_enumerate_new0 {v : Value} {o : Obj} {H : Heap → Prop} (B : Begins v o H) :
    Meets (Builtin.«enumerate.__new__» ⟨[.type "enumerate", v], []⟩) (fun _ R s => H s.heap ∧
      R (.ok (.ret (.ref (s.heap.push o).objs.size))) { s with heap := (s.heap.push o).push { cls := .type "enumerate", data := .fields #[.none, .bool false, .ref s.heap.objs.size, rawInt 0, .none, .none] } }) :=
  .of_wp fun prog w A R s h => by
    obtain ⟨hp, g, d, tk, os⟩ := s; obtain ⟨h1, h⟩ := h
    have hsub := sub_enumerate
    have q1 : ∀ {A' : Around} {E : Value → Shared → Prop} {Q : Value → Shared → Prop}, Q (.ref hp.objs.size) ⟨hp.push o, g, d, tk, os⟩ → wpAny (model prog w) A' (pyIter v) Q E ⟨hp, g, d, tk, os⟩ :=
      fun q => B.iter prog w _ _ ⟨hp, g, d, tk, os⟩ _ h1 q
    wp_walk using q1
    refine wpAny_stack_any fun st => wpAny_pure ?_
    split
    · rename_i c _ _ _ _ _
      cases (c == Value.type "enumerate")
      · wp_walk using q1
        exact ⟨_, rfl, h⟩
      · wp_walk using q1
        exact ⟨_, rfl, h⟩
    · wp_walk using q1
      exact ⟨_, rfl, h⟩
theorem enum_begins0 {prog : Program} {w : World} {A : Around} {E : Value → Shared → Prop} {s : Shared} {v : Value} {o : Obj} {H : Heap → Prop} {Q : Value → Shared → Prop} (B : Begins v o H) (h1 : H s.heap)
    (h : ∀ h', IsEnum h' (s.heap.objs.size + 1) s.heap.objs.size 0 .none → h'.get? s.heap.objs.size = some o → h'.objs.size = s.heap.objs.size + 2 →
      (∀ b o, s.heap.get? b = some o → h'.get? b = some o) → Q (.ref (s.heap.objs.size + 1)) { s with heap := h' }) :
    wpAny (model prog w) A (call (.type "enumerate") [v]) Q E s := by
  refine callType_new F.called_enumerate (by decide) (F.typeCall_enumerate_1 _) (F.newCall_enumerate_1 _) (fun obj => F.args_object_init_2 obj _) F.entry_enumerate_new
    (meets_enumerate_new0 B) ⟨h1, ?_⟩
  have hz : (s.heap.push o).objs.size = s.heap.objs.size + 1 := Heap.size_push ..
  show _ ∧ _
  rw [hz]
  have he : IsEnum ((s.heap.push o).push { cls := .type "enumerate", data := .fields #[.none, .bool false, .ref s.heap.objs.size, rawInt 0, .none, .none] }) (s.heap.objs.size + 1) s.heap.objs.size 0 .none := by
    have := Heap.get?_push_size (s.heap.push o) (o := { cls := .type "enumerate", data := .fields #[.none, .bool false, .ref s.heap.objs.size, rawInt 0, .none, .none] }) rfl
    rw [hz] at this; exact this
  refine ⟨⟨_, he, rfl⟩, h _ he (Heap.get?_push_of_some _ (Heap.get?_push_size _ B.free)) (by rw [Heap.size_push, hz]) fun b o x => Heap.get?_push_of_some _ (Heap.get?_push_of_some _ x)⟩
end PySem
namespace L2
open PySem PySem.Spec PyProof.Rows
/-- the tuple at a, each item in a new pair -/
def IteT (K : PySem.W.Frag) (a : Addr) : It :=
  ⟨fun i H => ∃ (xs : List V) (x : V), SqT K H a xs ∧ xs[i]? = some x, fun i H v H' => ∃ T x, v = .ref T ∧ H T = none ∧ H' = upd H T (.tup [.int (i : Nat), x]) ∧ ∀ xs, SqT K H a xs → xs[i]? = some x, fun i H => ∃ xs : List V, SqT K H a xs ∧ xs.length ≤ i⟩
theorem turn_enumT {P : Program} {w : World} {K : PySem.W.Frag} {elts : List Expr} {kk : Nat} {tpos : Pos} (a e it : Addr) (hae : e ≠ a) (hai : a ≠ it) :
    Turn P w K (.Tuple elts kk tpos) (IteT K a) [e, it] e (fun i h => (∃ old, IsEnum h e it ((i : Nat) : Int) old) ∧ h.IsTupleIter it a i ∧ e ≠ it) where
  mem := by simp
  obj := fun i h st b hb => by
    obtain ⟨⟨old, he⟩, ⟨o, ho, hc, hd⟩, _⟩ := st
    have e' : b = e ∨ b = it := by simpa using hb
    rcases e' with z | z
    · rw [z]; exact ⟨_, he, fun v q => nomatch q⟩
    · rw [z]; exact ⟨o, ho, fun v q => by rw [hd] at q; cases q⟩
  keep := fun i h h' st k => let ⟨⟨old, he⟩, hi, hne⟩ := st; ⟨⟨old, k e (by simp) _ he⟩, hi.at fun o q => k it (by simp) o q, hne⟩
  item := by
    intro X hP hw hK hc i pins s σ H E I hf st hg
    subst hP hw hK
    obtain ⟨⟨old, he⟩, hit, hne⟩ := st
    obtain ⟨xs, x, hq, hx⟩ := hg
    obtain ⟨its, rv, p, hz⟩ := I.tuple hq
    obtain ⟨u, hu, ru⟩ := rv.get hx
    have hel : e < s.heap.objs.size := Heap.lt_size he
    have hil : it < s.heap.objs.size := by obtain ⟨_, q, _⟩ := hit; exact Heap.lt_size q
    have hlt : i < its.toArray.size := by
      have z := (List.getElem?_eq_some_iff.mp hu).1
      simpa using z
    refine wpAny_pyNext_enum_itemD (Draws.tuple (A := X.A.in1) (I.ok.hd hc) it a hai its.toArray) he ⟨hit, p⟩ hlt hne (by simp [hne, hae]) fun x' h' tk hP' ho hit' hT hsz hk => ?_
    have ex : x' = u := by
      have q : its.toArray[i]? = some u := by simpa using hu
      rw [q] at hP'
      exact (Option.some.inj hP').symm
    subst ex
    refine ⟨_, rfl, wpAny_letOwnedTupleGo_enum (s := { s with heap := h', toks := tk + 1 }) ho fun h'' he' sb => ?_⟩
    have hT2 : h''.get? s.heap.objs.size = some { cls := .type "tuple", data := .seq #[.int i tk, x'] } := (sb.2 _ (Nat.ne_of_gt hel)).trans hT
    have new : ObjOk X.prog X.w (upd H s.heap.objs.size (.tup [.int (i : Nat), x])) h'' s.heap.objs.size (.tup [.int (i : Nat), x]) :=
      ⟨by show 2 ≤ sizeLine; decide, [.int i tk, x'], .cons ⟨_, rfl⟩ (.cons ru .nil), ⟨_, hT2, rfl, _, rfl⟩⟩
    have I1 : Inv X pins σ (upd H s.heap.objs.size (.tup [.int (i : Nat), x])) { s with heap := h'', toks := tk + 1 } :=
      I.turnedNew (ch := [e, it]) (fun b ob hb q => (sb.2 b (fun z => hb (by simp [z]))).trans (hk b ob (fun z => hb (by simp [z])) (fun z => hb (by simp [z])) q)) hf (Nat.le_refl _) new
    refine ⟨.ref s.heap.objs.size, _, I1, rfl, ⟨_, x, rfl, I.hok.fresh (Nat.le_refl _), rfl, fun ys hy => by rw [I.tuple_inj hy hq]; exact hx⟩, ⟨⟨x', ?_⟩, hit'.1.at fun o q => (sb.2 it (Ne.symm hne)).trans q, hne⟩, fun b hb => ?_⟩
    · have e1 : ((i + 1 : Nat) : Int) = (i : Int) + 1 := by omega
      rw [e1]; exact he'
    · have hb' : b < s.heap.objs.size := by
        have e' : b = e ∨ b = it := by simpa using hb
        rcases e' with z | z
        · rw [z]; exact hel
        · rw [z]; exact hil
      rw [upd_ne (Nat.ne_of_lt hb')]
      exact (hf b hb).1
  done := by
    intro X hP hw hK hc i pins s σ H E I hf st hg
    subst hP hw hK
    obtain ⟨⟨old, he⟩, hit, hne⟩ := st
    obtain ⟨xs, hq, hx⟩ := hg
    obtain ⟨its, rv, p, hz⟩ := I.tuple hq
    obtain ⟨f0, f1, f2, f3, f4, f5⟩ := hf it (by simp)
    have hl := rv.length
    have hT : s.TypeIs (.ref e) "enumerate" := ⟨_, he, rfl⟩
    have hN : its.toArray[i]? = none := by simp; omega
    unfold pyNext
    refine wpAny_bind (wpAny_attempt (wpAny_callSpecial?_slot (name := Str.ofString "__next__") hT F.slot_enumerate_next
      (wpAny_call_entry F.slot_enumerate_next hT F.entry_enumerate_next ?_ (F.args_enumerate_next_1 _))))
    show wpAny _ _ (field (.ref e) 2 >>= _) _ _ _
    refine wpAny_bind (wpAny_field he rfl (x := .ref it) rfl ?_)
    refine wpAny_bind (wpAny_nextOf_tuple_end (I.ok.hd hc) hit p hN fun h' x he' hx' => ?_)
    obtain ⟨o, ho, hcc⟩ := hx'
    refine wpAny_bind (wpAny_isInstance (T := "StopIteration") (b := true) ⟨o, ho, hcc⟩ isSubtype_stop ?_)
    exact wpAny_pure ⟨rfl, I.turned (t' := s.toks) (fun b o hb q => he' b o hb q) f0 f1 f3 f4 f5⟩
  self := fun A i s Q E st h => let ⟨⟨_, he⟩, _⟩ := st; wpAny_pyIter_enum he h
/-- enumerate of a list or a tuple -/
def iEnumA (K : PySem.W.Frag) (ta : TA) : TI := fun σ H R => ta σ H fun vs H1 => ∃ a xs, vs = [.ref a] ∧ ((SqL K H1 a xs ∧ R (Ite K a) H1) ∨ (SqT K H1 a xs ∧ R (IteT K a) H1))
theorem pi_enumA {X : Cx} {e : Expr} {ta : TA} {p pos tpos : Pos} {elts : List Expr} {kk : Nat} (hg : Gl X "enumerate") (hm : X.mg "enumerate" = none) (ha : PA X [e] ta) (hs : starEach [e] X.env = [(false, eval e X.env)] := by rfl) :
    PI X (.Tuple elts kk tpos) (.Call (.Name "enumerate" p) [e] [] pos) (iEnumA X.K ta) := by
  refine ⟨fun pins s σ H R I h => ?_⟩
  refine Call_ (ld_blt I hg hm boot_enumerate (PyProof.Rows.callWith_type1 (thn (ha.run pos pins s σ H _ I h) fun us s1 ⟨vs, H1, I1, r1, q1⟩ => ?_) hs rfl))
  obtain ⟨a, xs, ex, q1⟩ := q1
  subst ex
  cases r1 with
  | cons r rr =>
    cases rr
    cases r
    have fp : ∀ b, b ∈ [s1.heap.objs.size + 1, s1.heap.objs.size] → s1.heap.objs.size ≤ b := fun b hb => by
      have e' : b = s1.heap.objs.size + 1 ∨ b = s1.heap.objs.size := by simpa using hb
      rcases e' with z | z
      · rw [z]; exact Nat.le_add_right _ _
      · rw [z]; exact Nat.le_refl _
    rcases q1 with ⟨hq, q⟩ | ⟨hq, q⟩
    · obtain ⟨its, rv, p', hz⟩ := I1.list hq
      refine call_enumerate_list p'.isList fun h' he hit hsz hk => wpAny_pyIter_enum he ?_
      have I2 : Inv X pins σ H1 { s1 with heap := h' } := I1.kept (t' := s1.toks) hk
      exact ⟨s1.heap.objs.size + 1, [s1.heap.objs.size + 1, s1.heap.objs.size], _, _, H1, rfl, I2, turn_enum a (s1.heap.objs.size + 1) s1.heap.objs.size, ⟨⟨.none, he⟩, hit, Nat.succ_ne_self _⟩, fun b hb => I1.fpOk (fp b hb) (I1.hok.fresh (fp b hb)), q⟩
    · obtain ⟨its, rv, p', hz⟩ := I1.tuple hq
      have hlt : a < s1.heap.objs.size := by
        obtain ⟨o, ho, _⟩ := id p'
        exact Heap.lt_size ho
      refine enum_begins0 (begins_tuple a its.toArray) p' fun h' he hit hsz hk => wpAny_pyIter_enum he ?_
      have I2 : Inv X pins σ H1 { s1 with heap := h' } := I1.kept (t' := s1.toks) hk
      exact ⟨s1.heap.objs.size + 1, [s1.heap.objs.size + 1, s1.heap.objs.size], _, _, H1, rfl, I2, turn_enumT a (s1.heap.objs.size + 1) s1.heap.objs.size (Nat.ne_of_gt (Nat.lt_succ_of_lt hlt)) (Nat.ne_of_lt hlt), ⟨⟨.none, he⟩, ⟨_, hit, rfl, rfl⟩, Nat.succ_ne_self _⟩, fun b hb => I1.fpOk (fp b hb) (I1.hok.fresh (fp b hb)), q⟩
end L2
namespace L2
open PySem PySem.Spec PyProof.Rows
theorem for_iteT {K : PySem.W.Frag} {a : Addr} {xs : List V} {g : TG} {tb : TS} {D : Ends} {σ : St} {H : Hp} (Pv : Nat → St → Hp → Prop) (h0 : Pv 0 σ H) (hl : ∀ i σ H, i ≤ xs.length → Pv i σ H → SqT K H a xs)
    (hs : ∀ i x σ H T, xs[i]? = some x → Pv i σ H → H T = none → g (.ref T) σ (upd H T (.tup [.int (i : Nat), x])) fun σ2 H2 => tb { D with nx := Pv (i + 1), ct := Pv (i + 1), bk := D.nx } σ2 H2) (hd : ∀ σ H, Pv xs.length σ H → D.nx σ H) :
    ∃ W : Nat → Nat → St → Hp → Prop, (∃ m, W 0 m σ H) ∧ ∀ i m σ H, W i m σ H →
      ((IteT K a).stop i H ∧ D.nx σ H) ∨ ((IteT K a).go i H ∧ ∃ N : St → Hp → Prop, (∀ σ' H', N σ' H' → ∃ m', m' < m ∧ W (i + 1) m' σ' H') ∧ ∀ x H', (IteT K a).yld i H x H' → g x σ H' fun σ2 H2 => tb { D with nx := N, ct := N, bk := D.nx } σ2 H2) := by
  refine ⟨fun i m σ H => m = xs.length - i ∧ i ≤ xs.length ∧ Pv i σ H, ⟨xs.length, by simp, Nat.zero_le _, h0⟩, ?_⟩
  rintro i m σ H ⟨rfl, hi, p⟩
  have q := hl i σ H hi p
  by_cases hlt : i < xs.length
  · refine .inr ⟨⟨xs, xs[i], q, by simp [hlt]⟩, Pv (i + 1), fun σ' H' p' => ⟨xs.length - (i + 1), by omega, rfl, hlt, p'⟩, fun x H' y => ?_⟩
    obtain ⟨T, z, e, nT, eH, f⟩ := y
    subst e eH
    exact hs i z σ _ T (f xs q) p nT
  · have e : i = xs.length := by omega
    subst e
    exact .inl ⟨⟨xs, q, Nat.le_refl _⟩, hd σ H p⟩
end L2

namespace L2
open PySem PySem.Spec PyProof.Rows
/-! ### stable orders: the items of 0 .. n - 1, by a number each, then by themselves -/
def Lx (f : Nat → Int) (i j : Nat) : Prop := f i < f j ∨ (f i = f j ∧ i < j)
theorem Lx.irr {f : Nat → Int} {i : Nat} : ¬ Lx f i i := fun h => by unfold Lx at h; omega
theorem Lx.asymm {f : Nat → Int} {i j : Nat} (h : Lx f i j) : ¬ Lx f j i := fun h' => by unfold Lx at h h'; omega
theorem Lx.trans {f : Nat → Int} {i j k : Nat} (h : Lx f i j) (h' : Lx f j k) : Lx f i k := by unfold Lx at *; omega
theorem Lx.tri (f : Nat → Int) (i j : Nat) : Lx f i j ∨ i = j ∨ Lx f j i := by unfold Lx; omega
structure Stab (f : Nat → Int) (n : Nat) (os : List Nat) : Prop where
  perm : os.Perm (List.range n)
  sort : os.Pairwise (Lx f)
/-- two rows of the same items that are sorted strictly are one -/
theorem sorted_uniq {α : Type} {R : α → α → Prop} (as : ∀ a b, R a b → ¬ R b a) : ∀ {xs ys : List α}, xs.Perm ys → xs.Pairwise R → ys.Pairwise R → xs = ys
  | [], ys, p, _, _ => (List.Perm.nil_eq p)
  | x :: xs, [], p, _, _ => absurd p.length_eq (by simp)
  | x :: xs, y :: ys, p, hx, hy => by
    have e : x = y := by
      have m1 : x ∈ y :: ys := p.mem_iff.mp (List.mem_cons_self ..)
      have m2 : y ∈ x :: xs := p.mem_iff.mpr (List.mem_cons_self ..)
      rcases List.mem_cons.mp m1 with e | m1
      · exact e
      · rcases List.mem_cons.mp m2 with e | m2
        · exact e.symm
        · exact absurd ((List.pairwise_cons.mp hx).1 y m2) (as _ _ ((List.pairwise_cons.mp hy).1 x m1))
    subst e
    rw [sorted_uniq as p.cons_inv (List.pairwise_cons.mp hx).2 (List.pairwise_cons.mp hy).2]
theorem Stab.uniq {f : Nat → Int} {n : Nat} {as bs : List Nat} (a : Stab f n as) (b : Stab f n bs) : as = bs := sorted_uniq (fun _ _ => Lx.asymm) (a.perm.trans b.perm.symm) a.sort b.sort
theorem Stab.len {f : Nat → Int} {n : Nat} {os : List Nat} (a : Stab f n os) : os.length = n := by
  rw [a.perm.length_eq, List.length_range]
theorem Stab.nodup {f : Nat → Int} {n : Nat} {os : List Nat} (a : Stab f n os) : os.Nodup := a.perm.nodup_iff.mpr List.nodup_range
theorem Stab.lt {f : Nat → Int} {n : Nat} {os : List Nat} (a : Stab f n os) {i : Nat} (h : i ∈ os) : i < n := List.mem_range.mp (a.perm.mem_iff.mp h)
/-- the order hangs on how the numbers stand to one another alone -/
theorem Stab.like {f g : Nat → Int} {n : Nat} {os : List Nat} (a : Stab f n os) (h : ∀ i j, i < n → j < n → (f i < f j ↔ g i < g j)) : Stab g n os := by
  refine ⟨a.perm, ?_⟩
  refine List.Pairwise.imp_of_mem ?_ a.sort
  intro i j hi hj l
  have h1 := h i j (a.lt hi) (a.lt hj)
  have h2 := h j i (a.lt hj) (a.lt hi)
  unfold Lx at *
  omega
/-- what an item counts: its key, with reverse its negative -/
def keyf (ks : List Int) (rev : Bool) (i : Nat) : Int := if rev then -(ks.getD i 0) else ks.getD i 0
/-- the row of items as values -/
abbrev nV (os : List Nat) : List V := os.map fun (i : Nat) => V.int (i : Int)
/-- pairs of the keys' numbers and the items, sorted, give the order -/
theorem stab_of_pairs {f : Nat → Int} {n : Nat} {ps : List (Int × Int)} (p : ps.Perm ((List.range n).map fun (i : Nat) => (f i, (i : Int)))) (s : ps.Pairwise fun x y => ¬ (y.1 < x.1 ∨ (y.1 = x.1 ∧ y.2 < x.2))) :
    ∃ os, Stab f n os ∧ ps = os.map fun (i : Nat) => (f i, (i : Int)) := by
  have hm : ∀ q ∈ ps, q = (f q.2.toNat, (q.2.toNat : Int)) := fun q hq => by
    obtain ⟨i, _, e⟩ := List.mem_map.mp (p.mem_iff.mp hq)
    subst e
    simp
  have e1 : ps = (ps.map fun q => q.2.toNat).map fun (i : Nat) => (f i, (i : Int)) := by
    rw [List.map_map]
    calc ps = ps.map id := (List.map_id ps).symm
      _ = _ := List.map_congr_left fun q hq => hm q hq
  have pm : (ps.map fun q => q.2.toNat).Perm (List.range n) := by
    have q := p.map fun q => q.2.toNat
    rw [List.map_map] at q
    have e : (List.range n).map ((fun q : Int × Int => q.2.toNat) ∘ fun (i : Nat) => (f i, (i : Int))) = List.range n := by
      calc _ = (List.range n).map id := List.map_congr_left fun i _ => by simp
        _ = _ := List.map_id _
    rw [e] at q
    exact q
  refine ⟨ps.map fun q => q.2.toNat, ⟨pm, ?_⟩, e1⟩
  have nd : (ps.map fun q => q.2.toNat).Nodup := pm.nodup_iff.mpr List.nodup_range
  have s2 : (ps.map fun q => q.2.toNat).Pairwise fun i j => ¬ (f j < f i ∨ (f j = f i ∧ j < i)) := by
    rw [e1, List.pairwise_map] at s
    refine s.imp ?_
    intro i j h
    omega
  exact (List.pairwise_and_iff.mpr ⟨s2, nd⟩).imp fun {i j} h => by
    obtain ⟨h1, h2⟩ := h
    unfold Lx
    omega
end L2
namespace L2
open PySem PySem.Spec PyProof.Rows
theorem pe_callN0 {X : Cx} {CX : CXT} {k : Nat} {f : Addr} {fd : FuncData} {ps ks : List Str} {sp : Sp} {E : XK} {x : Str} {p pos : Pos} {kws : List Keyword} {tk : TA} {g : List Value → List Value → List Value} {gV : List V → List V → List V}
    (F : FnOk X.prog X.w X.K X.mg X.base CX k f fd ps sp) (hr : Room k X.A) (hg : Gl X x) (hm : X.mg x = some (.ref f)) (hk : PySem.W.keepIn X.K (.ref f) = true) (hb : KBn X.K fd ps 0 ks g gV) (hx : Passes CX X E)
    (hkw : PK X kws tk) (hall : (backToKw pos (keywordEach kws X.env)).all (·.1.isSome) = true := by rfl) (hks : (backToKw pos (keywordEach kws X.env)).filterMap (·.1) = ks := by rfl)
    (hdb : (x == ("__debug__" : Str)) = false := by decide)
    (hpl : ((backTo pos (starEach [] X.env)).any (·.1) || (backToKw pos (keywordEach kws X.env)).any (·.1.isNone)) = false := by rfl) :
    PE X (.Call (.Name x p) [] kws pos) (fun σ H Q => tk σ H fun zs H2 => zs.length = ks.length ∧ sp (gV [] zs) H2 Q E) := by
  refine ⟨fun pins s σ H Q I h => ?_⟩
  refine wpAny_Call_Name_kw (ld_glob I hg hm ?_ hdb)
  refine PySem.W.callWith_KW0 (h₀ := X.base) I.ok.mod.kin hk hall ?_ hpl
  refine thn (hkw.run pos pins s σ H _ I h) fun ws s2 ⟨zs, H2, I2, rz, l2, q2⟩ => ⟨I2.kIn, ?_⟩
  rw [hks]
  exact run_fnN F hr hb hx I2 .nil rz rfl l2 q2
theorem lc_iteL {K : PySem.W.Frag} {a : Addr} {xs : List V} {g : TG} {tt : TT} {te : TE} {vs : List Nat} {σ : L2.St} {H1 : Hp} {D : Addr} {Qd : Hp → Prop} (Pv : Nat → Hp → Prop) (h0 : Pv 0 (upd H1 D (.lst []))) (hl : ∀ i H, i ≤ xs.length → Pv i H → SqL K H a xs)
    (hs : ∀ i x H T, xs[i]? = some x → Pv i H → H T = none → g (.ref T) (wipe σ vs) (upd H T (.tup [.int (i : Nat), x])) fun σ2 H2 => wipe σ2 vs = wipe σ vs ∧ tt σ2 H2 fun b H3 =>
      if b = true then te σ2 H3 fun y H4 => ∃ acc, H4 D = some (.lst acc) ∧ acc.length < sizeLine ∧ Pv (i + 1) (upd H4 D (.lst (acc ++ [y]))) else Pv (i + 1) H3) (hd : ∀ H, Pv xs.length H → Qd H) :
    ∃ W : Nat → Nat → Hp → Prop, (∃ m, W 0 m (upd H1 D (.lst []))) ∧ ∀ i m H, W i m H →
      ((Ite K a).stop i H ∧ Qd H) ∨ ((Ite K a).go i H ∧ ∃ Nx : Hp → Prop, (∀ H', Nx H' → ∃ m', m' < m ∧ W (i + 1) m' H') ∧ ∀ x H', (Ite K a).yld i H x H' → g x (wipe σ vs) H' fun σ2 H2 => wipe σ2 vs = wipe σ vs ∧ tt σ2 H2 fun b H3 =>
        if b = true then te σ2 H3 fun y H4 => ∃ acc, H4 D = some (.lst acc) ∧ acc.length < sizeLine ∧ Nx (upd H4 D (.lst (acc ++ [y]))) else Nx H3) := by
  refine ⟨fun i m H => m = xs.length - i ∧ i ≤ xs.length ∧ Pv i H, ⟨xs.length, by simp, Nat.zero_le _, h0⟩, ?_⟩
  rintro i m H ⟨rfl, hi, p⟩
  have q := hl i H hi p
  by_cases hlt : i < xs.length
  · refine .inr ⟨⟨xs, xs[i], q, by simp [hlt]⟩, Pv (i + 1), fun H' p' => ⟨xs.length - (i + 1), by omega, rfl, hlt, p'⟩, fun x H' y => ?_⟩
    obtain ⟨T, z, e, nT, eH, f⟩ := y
    subst e eH
    exact hs i z _ T (f xs q) p nT
  · have e : i = xs.length := by omega
    subst e
    exact .inl ⟨⟨xs, q, Nat.le_refl _⟩, hd H p⟩
theorem lc_iteT {K : PySem.W.Frag} {a : Addr} {xs : List V} {g : TG} {tt : TT} {te : TE} {vs : List Nat} {σ : L2.St} {H1 : Hp} {D : Addr} {Qd : Hp → Prop} (Pv : Nat → Hp → Prop) (h0 : Pv 0 (upd H1 D (.lst []))) (hl : ∀ i H, i ≤ xs.length → Pv i H → SqT K H a xs)
    (hs : ∀ i x H T, xs[i]? = some x → Pv i H → H T = none → g (.ref T) (wipe σ vs) (upd H T (.tup [.int (i : Nat), x])) fun σ2 H2 => wipe σ2 vs = wipe σ vs ∧ tt σ2 H2 fun b H3 =>
      if b = true then te σ2 H3 fun y H4 => ∃ acc, H4 D = some (.lst acc) ∧ acc.length < sizeLine ∧ Pv (i + 1) (upd H4 D (.lst (acc ++ [y]))) else Pv (i + 1) H3) (hd : ∀ H, Pv xs.length H → Qd H) :
    ∃ W : Nat → Nat → Hp → Prop, (∃ m, W 0 m (upd H1 D (.lst []))) ∧ ∀ i m H, W i m H →
      ((IteT K a).stop i H ∧ Qd H) ∨ ((IteT K a).go i H ∧ ∃ Nx : Hp → Prop, (∀ H', Nx H' → ∃ m', m' < m ∧ W (i + 1) m' H') ∧ ∀ x H', (IteT K a).yld i H x H' → g x (wipe σ vs) H' fun σ2 H2 => wipe σ2 vs = wipe σ vs ∧ tt σ2 H2 fun b H3 =>
        if b = true then te σ2 H3 fun y H4 => ∃ acc, H4 D = some (.lst acc) ∧ acc.length < sizeLine ∧ Nx (upd H4 D (.lst (acc ++ [y]))) else Nx H3) := by
  refine ⟨fun i m H => m = xs.length - i ∧ i ≤ xs.length ∧ Pv i H, ⟨xs.length, by simp, Nat.zero_le _, h0⟩, ?_⟩
  rintro i m H ⟨rfl, hi, p⟩
  have q := hl i H hi p
  by_cases hlt : i < xs.length
  · refine .inr ⟨⟨xs, xs[i], q, by simp [hlt]⟩, Pv (i + 1), fun H' p' => ⟨xs.length - (i + 1), by omega, rfl, hlt, p'⟩, fun x H' y => ?_⟩
    obtain ⟨T, z, e, nT, eH, f⟩ := y
    subst e eH
    exact hs i z _ T (f xs q) p nT
  · have e : i = xs.length := by omega
    subst e
    exact .inl ⟨⟨xs, q, Nat.le_refl _⟩, hd H p⟩
/-- rows of ints compared -/
theorem eqvAll_ints : ∀ xs ys : List Int, PyData.eqvAll (xs.map PyData.int) (ys.map PyData.int) = decide (xs = ys)
  | [], [] => rfl
  | [], _ :: _ => rfl
  | _ :: _, [] => rfl
  | x :: xs, y :: ys => by
    show (PyData.eqv (.int x) (.int y) && PyData.eqvAll (xs.map PyData.int) (ys.map PyData.int)) = _
    rw [eqvAll_ints xs ys]
    show (x == y && decide (xs = ys)) = _
    by_cases h1 : x = y
    · subst h1
      by_cases h2 : xs = ys
      · subst h2
        simp
      · simp [h2]
    · simp [h1]
theorem eqv_lists (xs ys : List Int) : PyData.eqv (.list (xs.map PyData.int)) (.list (ys.map PyData.int)) = decide (xs = ys) := eqvAll_ints xs ys
theorem nV_map (os : List Nat) : nV os = (os.map fun (i : Nat) => (i : Int)).map V.int := by
  unfold nV
  rw [List.map_map]
  rfl
theorem cast_inj {xs ys : List Nat} : (xs.map fun (i : Nat) => (i : Int)) = (ys.map fun (i : Nat) => (i : Int)) ↔ xs = ys := by
  constructor
  · intro h
    have h2 := congrArg (List.map Int.toNat) h
    rw [List.map_map, List.map_map] at h2
    have e : ∀ l : List Nat, l.map (Int.toNat ∘ fun (i : Nat) => (i : Int)) = l := fun l => by
      calc _ = l.map id := List.map_congr_left fun i _ => by simp
        _ = l := List.map_id l
    rw [e, e] at h2
    exact h2
  · intro h
    rw [h]
end L2
namespace L2
open PySem PySem.Spec PyProof.Rows
theorem cut_take (xs : List V) (k : Nat) : cutV xs none (some (k : Int)) = xs.take k := by
  unfold cutV
  rw [HT.sIx_none, HT.sIx_nat, List.drop_zero, Nat.sub_zero]
  by_cases h : k ≤ xs.length
  · rw [Nat.min_eq_left h]
  · rw [Nat.min_eq_right (by omega), List.take_of_length_le (Nat.le_refl _), List.take_of_length_le (by omega)]
theorem cut_drop (xs : List V) (k : Nat) : cutV xs (some (k : Int)) none = xs.drop k := by
  unfold cutV
  rw [HT.sIx_none, HT.sIx_nat]
  by_cases h : k ≤ xs.length
  · rw [Nat.min_eq_left h]
    exact List.take_of_length_le (by rw [List.length_drop]; exact Nat.le_refl _)
  · rw [Nat.min_eq_right (by omega), List.drop_of_length_le (Nat.le_refl _), List.drop_of_length_le (by omega), List.take_nil]
/-- an item is put in where all ahead are ahead of it and all behind behind it -/
theorem put_stab {f : Nat → Int} {i pl : Nat} {os : List Nat} (s : Stab f i os) (h1 : ∀ x ∈ os.take pl, Lx f x i) (h2 : ∀ x ∈ os.drop pl, Lx f i x) : Stab f (i + 1) (os.take pl ++ [i] ++ os.drop pl) := by
  have e : os.take pl ++ os.drop pl = os := List.take_append_drop pl os
  constructor
  · have p1 : (os.take pl ++ [i] ++ os.drop pl).Perm ((os.take pl ++ os.drop pl) ++ [i]) := by
      rw [List.append_assoc, List.append_assoc]
      exact List.Perm.append_left _ List.perm_append_comm
    rw [e] at p1
    refine p1.trans ?_
    rw [List.range_succ]
    exact s.perm.append_right [i]
  · have so := s.sort
    rw [← e, List.pairwise_append] at so
    rw [List.append_assoc, List.pairwise_append]
    refine ⟨so.1, List.pairwise_cons.mpr ⟨h2, so.2.1⟩, fun x hx y hy => ?_⟩
    rcases List.mem_cons.mp hy with rfl | hy
    · exact h1 x hx
    · exact so.2.2 x hx y hy
end L2

namespace L2
open PySem PySem.Spec PyProof.Rows
/-! ### sources of draws: a list of three ints, the first one from 0 on -/
def Src (H : Hp) (p : Addr) : Prop := ∃ x y z : Int, 0 ≤ x ∧ H p = some (.lst [.int x, .int y, .int z])
theorem Src.put {H : Hp} {p : Addr} {x y z : Int} (h : 0 ≤ x) : Src (upd H p (.lst [.int x, .int y, .int z])) p := ⟨x, y, z, h, upd_same⟩
theorem Src.ne {H : Hp} {p q : Addr} (h : Src H p) (n : H q = none) : q ≠ p := fun e => by
  obtain ⟨x, y, z, _, hp⟩ := h
  rw [← e, n] at hp
  cases hp
theorem Src.at {H H' : Hp} {p : Addr} (h : Src H p) (e : H' p = H p) : Src H' p := by
  obtain ⟨x, y, z, x0, hp⟩ := h
  exact ⟨x, y, z, x0, e.trans hp⟩
theorem Src.upd {H : Hp} {p q : Addr} {o : HO} (h : Src H p) (n : q ≠ p) : Src (L2.upd H q o) p := h.at (upd_ne (Ne.symm n))
theorem Src.new {H : Hp} {p q : Addr} {o : HO} (h : Src H p) (n : H q = none) : Src (L2.upd H q o) p := h.upd (h.ne n)
theorem Src.same {H H' : Hp} {p : Addr} (h : Src H p) (e : Same H H') : Src H' p := by
  obtain ⟨x, y, z, x0, hp⟩ := h
  exact ⟨x, y, z, x0, e _ _ hp⟩
/-- what a draw leaves: all but the source stands, the source is one -/
def Dn (p : Addr) (H H' : Hp) : Prop := SB p H H' ∧ Src H' p
theorem Dn.put {p : Addr} {H : Hp} {x y z : Int} (h : 0 ≤ x) : Dn p H (L2.upd H p (.lst [.int x, .int y, .int z])) := ⟨SB.put, .put h⟩
theorem Dn.trans {p : Addr} {H H1 H2 : Hp} (a : Dn p H H1) (b : Dn p H1 H2) : Dn p H H2 := ⟨a.1.trans b.1, b.2⟩
theorem Dn.new {p q : Addr} {H H' : Hp} {o : HO} (a : Dn p H H') (n : H' q = none) : Dn p H (L2.upd H' q o) := ⟨a.1.trans (SB.new n), a.2.new n⟩
theorem Dn.same {p : Addr} {H H' H2 : Hp} (a : Dn p H H') (e : Same H' H2) : Dn p H H2 := ⟨a.1.trans (SB.of e), a.2.same e⟩
theorem Dn.refl {p : Addr} {H : Hp} (h : Src H p) : Dn p H H := ⟨SB.refl p H, h⟩
/-- an address that is new behind a draw was new before -/
theorem Dn.free {p q : Addr} {H H' : Hp} (a : Dn p H H') (n : H' q = none) : H q = none := a.1.free (a.2.ne n) n
theorem map_snoc (ms : List Int) (v : Int) : ms.map V.int ++ [V.int v] = (ms ++ [v]).map V.int := by simp
theorem rep_flat (b : Int) : ∀ n : Nat, (List.replicate n [V.int b]).flatten = (List.replicate n b).map V.int
  | 0 => rfl
  | n + 1 => by
    rw [List.replicate_succ, List.replicate_succ, List.flatten_cons, rep_flat b n]
    rfl
theorem lt64 {c : Int} {x : Int} (h0 : 0 ≤ x) (h1 : x < c) (hc : c ≤ 2 ^ 63) : -(2 ^ 64) < x ∧ x < 2 ^ 64 := by omega
theorem mb (x : Int) {c : Int} (h : 0 < c) : 0 ≤ x % c ∧ x % c < c := ⟨Int.emod_nonneg _ (by omega), Int.emod_lt_of_pos _ h⟩
theorem mbw (x : Int) {c : Int} (h : 0 < c) (hc : c ≤ 2 ^ 63) : -(2 ^ 64) < x % c ∧ x % c < 2 ^ 64 := lt64 (mb x h).1 (mb x h).2 hc
/-- a comprehension over range(n) each of whose items is an int, reckoned by draws -/
theorem lc_ints {te : TE} {σ : L2.St} {H1 : Hp} {D p : Addr} {n j : Nat} {vs : List Nat} {Qd : Hp → Prop} (hn : n ≤ 1000000) (hs : Src H1 p) (hD : H1 D = none)
    (hw : ∀ v, wipe ((wipe σ vs).set j v) vs = wipe σ vs)
    (he : ∀ (k : Nat) (H3 : Hp) (R : VK), k < n → Dn p H1 H3 → (∀ (v : Int) (H4 : Hp), Dn p H3 H4 → R (.int v) H4) → te ((wipe σ vs).set j (some (.int (0 + (k : Nat))))) H3 R)
    (hd : ∀ (ms : List Int) (H' : Hp), ms.length = n → Dn p H1 H' → H' D = some (.lst (ms.map V.int)) → Qd H') :
    ∃ W : Nat → Nat → Hp → Prop, (∃ m, W 0 m (L2.upd H1 D (.lst []))) ∧ ∀ i m H, W i m H →
      ((Itr 0 n).stop i H ∧ Qd H) ∨ ((Itr 0 n).go i H ∧ ∃ Nx : Hp → Prop, (∀ H', Nx H' → ∃ m', m' < m ∧ W (i + 1) m' H') ∧ ∀ x H', (Itr 0 n).yld i H x H' → gName j x (wipe σ vs) H' fun σ2 H2 => wipe σ2 vs = wipe σ vs ∧ tYes σ2 H2 fun b H3 =>
        if b = true then te σ2 H3 fun y H4 => ∃ acc, H4 D = some (.lst acc) ∧ acc.length < sizeLine ∧ Nx (L2.upd H4 D (.lst (acc ++ [y]))) else Nx H3) := by
  have nD : D ≠ p := hs.ne hD
  refine lc_range (lo := 0) (n := n) (fun i H => ∃ ms : List Int, ms.length = i ∧ Dn p H1 H ∧ H D = some (.lst (ms.map V.int))) ⟨[], rfl, (Dn.refl hs).new hD, upd_same⟩ ?_ ?_
  · rintro i H hi ⟨ms, hl, dr, hh⟩
    refine ⟨hw _, ?_⟩
    refine he i H _ hi dr fun v H4 d4 => ?_
    have h4 := d4.1 _ _ nD hh
    refine ⟨_, h4, ?_, ms ++ [v], by simp [hl], ?_, ?_⟩
    · rw [List.length_map, hl]
      exact Nat.lt_of_le_of_lt (Nat.le_trans (Nat.le_of_lt hi) hn) (by decide)
    · have dd := dr.trans d4
      refine ⟨fun b o nb e => ?_, dd.2.upd nD⟩
      rw [upd_ne (ne_of_none e hD)]
      exact dd.1 b o nb e
    · rw [map_snoc]
      exact upd_same
  · rintro H ⟨ms, hl, dr, hh⟩
    exact hd ms H hl dr hh
end L2
namespace L2
open PySem PySem.Spec PyProof.Rows
theorem canLay_ints : ∀ ns : List Int, PyData.canLayAll0 (ns.map PyData.int) = true
  | [] => rfl
  | n :: r => by
    show (PyData.canLay0 (.int n) && PyData.canLayAll0 (r.map PyData.int)) = true
    rw [canLay_ints r]
    rfl
theorem depth_ints : ∀ ns : List Int, PyData.depthAll (ns.map PyData.int) = 0
  | [] => rfl
  | n :: r => by
    show max (PyData.depth (.int n)) (PyData.depthAll (r.map PyData.int)) = 0
    rw [depth_ints r]
    rfl
theorem shaped_ints (ns : List Int) : SeqAt.shaped (.list (ns.map PyData.int)) = true := by
  unfold SeqAt.shaped
  rw [Bool.and_eq_true]
  refine ⟨canLay_ints ns, decide_eq_true ?_⟩
  show PyData.depthAll (ns.map PyData.int) + 1 ≤ 64
  rw [depth_ints]
  decide
theorem eqv_ints (ns : List Int) : PyData.eqv (.list (ns.map PyData.int)) (.list (ns.map PyData.int)) = true := SeqAt.eqv_refl _ (SeqAt.canLay_of_shaped (shaped_ints ns))
theorem dpAll_ints {K : PySem.W.Frag} {H : Hp} : ∀ ns : List Int, DpAll K H (ns.map V.int) (ns.map PyData.int)
  | [] => .nil
  | n :: r => .cons (.int n) (dpAll_ints r)
theorem dp_ints {K : PySem.W.Frag} {H : Hp} {p : Addr} {ns : List Int} (h : SqL K H p (ns.map V.int)) : Dp K H (.ref p) (.list (ns.map PyData.int)) := .lst h (dpAll_ints ns)
theorem cut_mem {xs : List V} {lo hi : Option Int} {x : V} (h : x ∈ cutV xs lo hi) : x ∈ xs := List.mem_of_mem_drop (List.mem_of_mem_take h)
end L2

namespace K02
open PySem PySem.Spec PyProof.Rows L2
def topS (i : Nat) : Stmt := PySem.Challenge.pw_askedorder_k02_stable_orders.main.body.getD i (.Pass ⟨0, 0, 0, 0⟩)
abbrev s_is_integer : Stmt := topS 7
abbrev N_is_integer : List Str := ["value"]
abbrev P_is_integer : List Str := ["value"]
theorem sc_is_integer : FnScope N_is_integer P_is_integer (defScope s_is_integer) := ⟨rfl, rfl, rfl, by decide +kernel, rfl, by decide +kernel, by decide +kernel⟩
abbrev s_is_within : Stmt := topS 8
abbrev N_is_within : List Str := ["value", "least", "most"]
abbrev P_is_within : List Str := ["value", "least", "most"]
theorem sc_is_within : FnScope N_is_within P_is_within (defScope s_is_within) := ⟨rfl, rfl, rfl, by decide +kernel, rfl, by decide +kernel, by decide +kernel⟩
abbrev s_is_item : Stmt := topS 9
abbrev N_is_item : List Str := ["value", "many"]
abbrev P_is_item : List Str := ["value", "many"]
theorem sc_is_item : FnScope N_is_item P_is_item (defScope s_is_item) := ⟨rfl, rfl, rfl, by decide +kernel, rfl, by decide +kernel, by decide +kernel⟩
abbrev s_check_keys : Stmt := topS 10
abbrev N_check_keys : List Str := ["keys", "fewest", "most", "index", "key"]
abbrev P_check_keys : List Str := ["keys", "fewest", "most"]
theorem sc_check_keys : FnScope N_check_keys P_check_keys (defScope s_check_keys) := ⟨rfl, rfl, rfl, by decide +kernel, rfl, by decide +kernel, by decide +kernel⟩
abbrev s_check_order : Stmt := topS 11
abbrev N_check_order : List Str := ["order", "many", "seen", "index", "item"]
abbrev P_check_order : List Str := ["order", "many"]
theorem sc_check_order : FnScope N_check_order P_check_order (defScope s_check_order) := ⟨rfl, rfl, rfl, by decide +kernel, rfl, by decide +kernel, by decide +kernel⟩
abbrev s_check_bool : Stmt := topS 12
abbrev N_check_bool : List Str := ["name", "value"]
abbrev P_check_bool : List Str := ["name", "value"]
theorem sc_check_bool : FnScope N_check_bool P_check_bool (defScope s_check_bool) := ⟨rfl, rfl, rfl, by decide +kernel, rfl, by decide +kernel, by decide +kernel⟩
abbrev s_stable_order : Stmt := topS 14
abbrev N_stable_order : List Str := ["keys", "reverse"]
abbrev P_stable_order : List Str := ["keys", "reverse"]
theorem sc_stable_order : FnScope N_stable_order P_stable_order (defScope s_stable_order) := ⟨rfl, rfl, rfl, by decide +kernel, rfl, by decide +kernel, by decide +kernel⟩
abbrev s_is_order : Stmt := topS 15
abbrev N_is_order : List Str := ["keys", "order", "reverse"]
abbrev P_is_order : List Str := ["keys", "order", "reverse"]
theorem sc_is_order : FnScope N_is_order P_is_order (defScope s_is_order) := ⟨rfl, rfl, rfl, by decide +kernel, rfl, by decide +kernel, by decide +kernel⟩
abbrev s_stable : Stmt := topS 16
abbrev N_stable : List Str := ["keys", "reverse", "sign", "pairs", "item", "key", "_"]
abbrev P_stable : List Str := ["keys", "reverse"]
theorem sc_stable : FnScope N_stable P_stable (defScope s_stable) := ⟨rfl, rfl, rfl, by decide +kernel, rfl, by decide +kernel, by decide +kernel⟩
abbrev s_mixed : Stmt := topS 18
abbrev N_mixed : List Str := ["cell", "draw", "figure"]
abbrev P_mixed : List Str := ["cell", "draw"]
theorem sc_mixed : FnScope N_mixed P_mixed (defScope s_mixed) := ⟨rfl, rfl, rfl, by decide +kernel, rfl, by decide +kernel, by decide +kernel⟩
abbrev s_source : Stmt := topS 19
abbrev N_source : List Str := ["cell"]
abbrev P_source : List Str := ["cell"]
theorem sc_source : FnScope N_source P_source (defScope s_source) := ⟨rfl, rfl, rfl, by decide +kernel, rfl, by decide +kernel, by decide +kernel⟩
abbrev s_take : Stmt := topS 20
abbrev N_take : List Str := ["source", "bound", "drawn"]
abbrev P_take : List Str := ["source", "bound"]
theorem sc_take : FnScope N_take P_take (defScope s_take) := ⟨rfl, rfl, rfl, by decide +kernel, rfl, by decide +kernel, by decide +kernel⟩
abbrev s_part : Stmt := topS 22
abbrev N_part : List Str := ["source", "size", "sort", "base", "step", "k"]
abbrev P_part : List Str := ["source", "size"]
theorem sc_part : FnScope N_part P_part (defScope s_part) := ⟨rfl, rfl, rfl, by decide +kernel, rfl, by decide +kernel, by decide +kernel⟩
abbrev s_keys : Stmt := topS 23
abbrev N_keys : List Str := ["source", "bound", "many", "found", "left", "size"]
abbrev P_keys : List Str := ["source", "bound"]
theorem sc_keys : FnScope N_keys P_keys (defScope s_keys) := ⟨rfl, rfl, rfl, by decide +kernel, rfl, by decide +kernel, by decide +kernel⟩
abbrev s_put : Stmt := topS 24
abbrev N_put : List Str := ["marks", "is_turned", "found", "item", "place"]
abbrev P_put : List Str := ["marks", "is_turned"]
theorem sc_put : FnScope N_put P_put (defScope s_put) := ⟨rfl, rfl, rfl, by decide +kernel, rfl, by decide +kernel, by decide +kernel⟩
abbrev s_is_behind : Stmt := topS 25
abbrev N_is_behind : List Str := ["one", "other", "is_turned"]
abbrev P_is_behind : List Str := ["one", "other", "is_turned"]
theorem sc_is_behind : FnScope N_is_behind P_is_behind (defScope s_is_behind) := ⟨rfl, rfl, rfl, by decide +kernel, rfl, by decide +kernel, by decide +kernel⟩
abbrev s_orders : Stmt := topS 26
abbrev N_orders : List Str := ["source", "due", "found", "many", "turn", "some", "one", "other", "left"]
abbrev P_orders : List Str := ["source", "due"]
theorem sc_orders : FnScope N_orders P_orders (defScope s_orders) := ⟨rfl, rfl, rfl, by decide +kernel, rfl, by decide +kernel, by decide +kernel⟩
abbrev s_wide : Stmt := topS 27
abbrev N_wide : List Str := ["source", "many", "found"]
abbrev P_wide : List Str := ["source"]
theorem sc_wide : FnScope N_wide P_wide (defScope s_wide) := ⟨rfl, rfl, rfl, by decide +kernel, rfl, by decide +kernel, by decide +kernel⟩
abbrev s_wide_right : Stmt := topS 28
abbrev N_wide_right : List Str := ["source", "marks", "is_turned", "held", "pairs", "item", "mark", "due", "at"]
abbrev P_wide_right : List Str := ["source"]
theorem sc_wide_right : FnScope N_wide_right P_wide_right (defScope s_wide_right) := ⟨rfl, rfl, rfl, by decide +kernel, rfl, by decide +kernel, by decide +kernel⟩
abbrev s_law : Stmt := topS 29
abbrev N_law : List Str := ["script", "cell", "source", "marks", "held", "is_turned", "due", "heard", "some", "stood"]
abbrev P_law : List Str := ["script"]
theorem sc_law : FnScope N_law P_law (defScope s_law) := ⟨rfl, rfl, rfl, by decide +kernel, rfl, by decide +kernel, by decide +kernel⟩
def kg_is_order_0_order_reverse_keys {α : Type} : List α → List α → List α
  | [], [a, b, c] => [c, a, b]
  | _, _ => []
theorem kg_vals_is_order_0_order_reverse_keys : ∀ {vs zs : List V} {us ws : List Value}, Vals vs us → Vals zs ws → Vals (kg_is_order_0_order_reverse_keys vs zs) (kg_is_order_0_order_reverse_keys us ws)
  | _, _, _, _, .nil, .cons r_a (.cons r_b (.cons r_c .nil)) => .cons r_c (.cons r_a (.cons r_b .nil))
  | _, _, _, _, .cons _ _, _ => .nil
  | _, _, _, _, .nil, .nil => .nil
  | _, _, _, _, .nil, .cons _ .nil => .nil
  | _, _, _, _, .nil, .cons _ (.cons _ .nil) => .nil
  | _, _, _, _, .nil, .cons _ (.cons _ (.cons _ (.cons _ _))) => .nil
def kg_is_order_2_reverse {α : Type} : List α → List α → List α
  | [a, b], [c] => [a, b, c]
  | _, _ => []
theorem kg_vals_is_order_2_reverse : ∀ {vs zs : List V} {us ws : List Value}, Vals vs us → Vals zs ws → Vals (kg_is_order_2_reverse vs zs) (kg_is_order_2_reverse us ws)
  | _, _, _, _, .cons r_a (.cons r_b .nil), .cons r_c .nil => .cons r_a (.cons r_b (.cons r_c .nil))
  | _, _, _, _, .nil, _ => .nil
  | _, _, _, _, .cons _ .nil, _ => .nil
  | _, _, _, _, .cons _ (.cons _ (.cons _ _)), _ => .nil
  | _, _, _, _, .cons _ (.cons _ .nil), .nil => .nil
  | _, _, _, _, .cons _ (.cons _ .nil), .cons _ (.cons _ _) => .nil
def kg_stable_order_0_reverse_keys {α : Type} : List α → List α → List α
  | [], [a, b] => [b, a]
  | _, _ => []
theorem kg_vals_stable_order_0_reverse_keys : ∀ {vs zs : List V} {us ws : List Value}, Vals vs us → Vals zs ws → Vals (kg_stable_order_0_reverse_keys vs zs) (kg_stable_order_0_reverse_keys us ws)
  | _, _, _, _, .nil, .cons r_a (.cons r_b .nil) => .cons r_b (.cons r_a .nil)
  | _, _, _, _, .cons _ _, _ => .nil
  | _, _, _, _, .nil, .nil => .nil
  | _, _, _, _, .nil, .cons _ .nil => .nil
  | _, _, _, _, .nil, .cons _ (.cons _ (.cons _ _)) => .nil
def kg_stable_order_1_reverse {α : Type} : List α → List α → List α
  | [a], [b] => [a, b]
  | _, _ => []
theorem kg_vals_stable_order_1_reverse : ∀ {vs zs : List V} {us ws : List Value}, Vals vs us → Vals zs ws → Vals (kg_stable_order_1_reverse vs zs) (kg_stable_order_1_reverse us ws)
  | _, _, _, _, .cons r_a .nil, .cons r_b .nil => .cons r_a (.cons r_b .nil)
  | _, _, _, _, .nil, _ => .nil
  | _, _, _, _, .cons _ (.cons _ _), _ => .nil
  | _, _, _, _, .cons _ .nil, .nil => .nil
  | _, _, _, _, .cons _ .nil, .cons _ (.cons _ _) => .nil
structure Ad where
  (is_integer : Addr) (is_within : Addr) (is_item : Addr) (check_keys : Addr) (check_order : Addr) (check_bool : Addr) (stable_order : Addr) (is_order : Addr) (stable : Addr) (mixed : Addr) (source : Addr) (take : Addr) (part : Addr) (keys : Addr) (put : Addr) (is_behind : Addr) (orders : Addr) (wide : Addr) (wide_right : Addr) (law : Addr)
structure Fd where
  (is_integer : FuncData) (is_within : FuncData) (is_item : FuncData) (check_keys : FuncData) (check_order : FuncData) (check_bool : FuncData) (stable_order : FuncData) (is_order : FuncData) (stable : FuncData) (mixed : FuncData) (source : FuncData) (take : FuncData) (part : FuncData) (keys : FuncData) (put : FuncData) (is_behind : FuncData) (orders : FuncData) (wide : FuncData) (wide_right : FuncData) (law : FuncData)
/-- what the top has written -/
structure Txt (K : PySem.W.Frag) (mg : Str → Option Value) (a : Ad) (d : Fd) : Prop where
  g_is_integer : mg "is_integer" = some (.ref a.is_integer)
  k_is_integer : PySem.W.keepIn K (.ref a.is_integer) = true
  f_is_integer : Fun K "is_integer" "is_integer" s_is_integer a.is_integer d.is_integer
  b_is_integer : Binds K d.is_integer P_is_integer []
  g_is_within : mg "is_within" = some (.ref a.is_within)
  k_is_within : PySem.W.keepIn K (.ref a.is_within) = true
  f_is_within : Fun K "is_within" "is_within" s_is_within a.is_within d.is_within
  b_is_within : Binds K d.is_within P_is_within []
  g_is_item : mg "is_item" = some (.ref a.is_item)
  k_is_item : PySem.W.keepIn K (.ref a.is_item) = true
  f_is_item : Fun K "is_item" "is_item" s_is_item a.is_item d.is_item
  b_is_item : Binds K d.is_item P_is_item []
  g_check_keys : mg "check_keys" = some (.ref a.check_keys)
  k_check_keys : PySem.W.keepIn K (.ref a.check_keys) = true
  f_check_keys : FunV K "check_keys" "check_keys" s_check_keys a.check_keys d.check_keys
  b_check_keys_2 : ∃ ds, Vals [.int 0, .int 2000] ds ∧ Binds K d.check_keys P_check_keys ds
  b_check_keys : Binds K d.check_keys P_check_keys []
  g_check_order : mg "check_order" = some (.ref a.check_order)
  k_check_order : PySem.W.keepIn K (.ref a.check_order) = true
  f_check_order : Fun K "check_order" "check_order" s_check_order a.check_order d.check_order
  b_check_order : Binds K d.check_order P_check_order []
  g_check_bool : mg "check_bool" = some (.ref a.check_bool)
  k_check_bool : PySem.W.keepIn K (.ref a.check_bool) = true
  f_check_bool : Fun K "check_bool" "check_bool" s_check_bool a.check_bool d.check_bool
  b_check_bool : Binds K d.check_bool P_check_bool []
  g_stable_order : mg "stable_order" = some (.ref a.stable_order)
  k_stable_order : PySem.W.keepIn K (.ref a.stable_order) = true
  f_stable_order : Fun K "stable_order" "stable_order" s_stable_order a.stable_order d.stable_order
  b_stable_order : Binds K d.stable_order P_stable_order [.bool false]
  kn_stable_order_0_reverse_keys : KBn K d.stable_order P_stable_order 0 ["reverse", "keys"] (fun us ws => kg_stable_order_0_reverse_keys us ws) (fun us ws => kg_stable_order_0_reverse_keys us ws)
  kn_stable_order_1_reverse : KBn K d.stable_order P_stable_order 1 ["reverse"] (fun us ws => kg_stable_order_1_reverse us ws) (fun us ws => kg_stable_order_1_reverse us ws)
  g_is_order : mg "is_order" = some (.ref a.is_order)
  k_is_order : PySem.W.keepIn K (.ref a.is_order) = true
  f_is_order : Fun K "is_order" "is_order" s_is_order a.is_order d.is_order
  b_is_order : Binds K d.is_order P_is_order [.bool false]
  kn_is_order_0_order_reverse_keys : KBn K d.is_order P_is_order 0 ["order", "reverse", "keys"] (fun us ws => kg_is_order_0_order_reverse_keys us ws) (fun us ws => kg_is_order_0_order_reverse_keys us ws)
  kn_is_order_2_reverse : KBn K d.is_order P_is_order 2 ["reverse"] (fun us ws => kg_is_order_2_reverse us ws) (fun us ws => kg_is_order_2_reverse us ws)
  g_stable : mg "_stable" = some (.ref a.stable)
  k_stable : PySem.W.keepIn K (.ref a.stable) = true
  f_stable : Fun K "_stable" "_stable" s_stable a.stable d.stable
  b_stable : Binds K d.stable P_stable []
  g_mixed : mg "_law_mixed" = some (.ref a.mixed)
  k_mixed : PySem.W.keepIn K (.ref a.mixed) = true
  f_mixed : Fun K "_law_mixed" "_law_mixed" s_mixed a.mixed d.mixed
  b_mixed : Binds K d.mixed P_mixed []
  g_source : mg "_law_source" = some (.ref a.source)
  k_source : PySem.W.keepIn K (.ref a.source) = true
  f_source : Fun K "_law_source" "_law_source" s_source a.source d.source
  b_source : Binds K d.source P_source []
  g_take : mg "_law_take" = some (.ref a.take)
  k_take : PySem.W.keepIn K (.ref a.take) = true
  f_take : Fun K "_law_take" "_law_take" s_take a.take d.take
  b_take : Binds K d.take P_take []
  g_part : mg "_law_part" = some (.ref a.part)
  k_part : PySem.W.keepIn K (.ref a.part) = true
  f_part : Fun K "_law_part" "_law_part" s_part a.part d.part
  b_part : Binds K d.part P_part []
  g_keys : mg "_law_keys" = some (.ref a.keys)
  k_keys : PySem.W.keepIn K (.ref a.keys) = true
  f_keys : Fun K "_law_keys" "_law_keys" s_keys a.keys d.keys
  b_keys : Binds K d.keys P_keys []
  g_put : mg "_law_put" = some (.ref a.put)
  k_put : PySem.W.keepIn K (.ref a.put) = true
  f_put : Fun K "_law_put" "_law_put" s_put a.put d.put
  b_put : Binds K d.put P_put []
  g_is_behind : mg "_law_is_behind" = some (.ref a.is_behind)
  k_is_behind : PySem.W.keepIn K (.ref a.is_behind) = true
  f_is_behind : Fun K "_law_is_behind" "_law_is_behind" s_is_behind a.is_behind d.is_behind
  b_is_behind : Binds K d.is_behind P_is_behind []
  g_orders : mg "_law_orders" = some (.ref a.orders)
  k_orders : PySem.W.keepIn K (.ref a.orders) = true
  f_orders : Fun K "_law_orders" "_law_orders" s_orders a.orders d.orders
  b_orders : Binds K d.orders P_orders []
  g_wide : mg "_law_wide" = some (.ref a.wide)
  k_wide : PySem.W.keepIn K (.ref a.wide) = true
  f_wide : Fun K "_law_wide" "_law_wide" s_wide a.wide d.wide
  b_wide : Binds K d.wide P_wide []
  g_wide_right : mg "_law_wide_right" = some (.ref a.wide_right)
  k_wide_right : PySem.W.keepIn K (.ref a.wide_right) = true
  f_wide_right : Fun K "_law_wide_right" "_law_wide_right" s_wide_right a.wide_right d.wide_right
  b_wide_right : Binds K d.wide_right P_wide_right []
  g_law : mg "law" = some (.ref a.law)
  k_law : PySem.W.keepIn K (.ref a.law) = true
  f_law : Fun K "law" "law" s_law a.law d.law
  b_law : Binds K d.law P_law []
  z_abs : mg "abs" = none
  z_bool : mg "bool" = none
  z_enumerate : mg "enumerate" = none
  z_int : mg "int" = none
  z_isinstance : mg "isinstance" = none
  z_len : mg "len" = none
  z_list : mg "list" = none
  z_range : mg "range" = none
  z_repr : mg "repr" = none
  z_sorted : mg "sorted" = none
  z_tuple : mg "tuple" = none
/-! keywords -/
theorem kwb_stable_order {K : PySem.W.Frag} {f D : Addr} {oc : Value} {od an : Option Addr} {osl : Array (Option Value)} {doc pm cdv ct : Value} (l : K.lookup f = some ⟨oc, od, .func (PySem.W.fnOf "stable_order" "stable_order" (defArgs s_stable_order) (defBody s_stable_order) (defScope s_stable_order) .none (.ref D) doc pm an cdv ct), osl⟩)
    (c : PySem.W.codeIn K cdv "stable_order" = true) (k : PySem.W.keepIn K (.ref f) = true) (n : PySem.W.nsIn K D "reverse" = some (some (.bool false))) : Binds K (PySem.W.fnOf "stable_order" "stable_order" (defArgs s_stable_order) (defBody s_stable_order) (defScope s_stable_order) .none (.ref D) doc pm an cdv ct) P_stable_order [.bool false] := by
  have F : FunD K "stable_order" "stable_order" (defArgs s_stable_order) (defBody s_stable_order) (defScope s_stable_order) [] [("reverse", .bl false)] f _ := ⟨⟨_, _, _, _, _, _, _, _, _, _, rfl, l, c, .inl ⟨rfl, rfl⟩, .inr ⟨D, rfl, fun q hq => by
    rw [List.mem_singleton.mp hq]
    exact ⟨_, n, rfl⟩⟩⟩, k⟩
  obtain ⟨ds, r, b⟩ := F.binds0 (ps := P_stable_order) 1 (by simp) rfl fun D doc pm an cdv ct us ks h1 h2 => match us, ks, h1, h2 with
    | [_], [_], _, _ => ⟨_, _, _, _, _, _, rfl, rfl, rfl⟩
  cases r with
  | cons h t =>
    cases t
    cases h
    exact b
theorem kwb_is_order {K : PySem.W.Frag} {f D : Addr} {oc : Value} {od an : Option Addr} {osl : Array (Option Value)} {doc pm cdv ct : Value} (l : K.lookup f = some ⟨oc, od, .func (PySem.W.fnOf "is_order" "is_order" (defArgs s_is_order) (defBody s_is_order) (defScope s_is_order) .none (.ref D) doc pm an cdv ct), osl⟩)
    (c : PySem.W.codeIn K cdv "is_order" = true) (k : PySem.W.keepIn K (.ref f) = true) (n : PySem.W.nsIn K D "reverse" = some (some (.bool false))) : Binds K (PySem.W.fnOf "is_order" "is_order" (defArgs s_is_order) (defBody s_is_order) (defScope s_is_order) .none (.ref D) doc pm an cdv ct) P_is_order [.bool false] := by
  have F : FunD K "is_order" "is_order" (defArgs s_is_order) (defBody s_is_order) (defScope s_is_order) [] [("reverse", .bl false)] f _ := ⟨⟨_, _, _, _, _, _, _, _, _, _, rfl, l, c, .inl ⟨rfl, rfl⟩, .inr ⟨D, rfl, fun q hq => by
    rw [List.mem_singleton.mp hq]
    exact ⟨_, n, rfl⟩⟩⟩, k⟩
  obtain ⟨ds, r, b⟩ := F.binds0 (ps := P_is_order) 2 (by simp) rfl fun D doc pm an cdv ct us ks h1 h2 => match us, ks, h1, h2 with
    | [_, _], [_], _, _ => ⟨_, _, _, _, _, _, rfl, rfl, rfl⟩
  cases r with
  | cons h t =>
    cases t
    cases h
    exact b
theorem kbn_stable_order_0_reverse_keys {K : PySem.W.Frag} {f : Addr} {fd : FuncData} (F : Fun K "stable_order" "stable_order" s_stable_order f fd) : KBn K fd P_stable_order 0 ["reverse", "keys"] (fun us ws => kg_stable_order_0_reverse_keys us ws) (fun us ws => kg_stable_order_0_reverse_keys us ws) := by
  obtain ⟨oc, od, kV, doc, pm, an, cdv, ct, osl, rfl, lk, hcd⟩ := F.ex
  refine ⟨fun s us ws _ h1 h2 => ?_, fun {vs us zs ws} r1 r2 => ?_⟩
  · match us, ws, h1, h2 with
    | [], [_, _], _, _ => exact .of_eq rfl
  · exact kg_vals_stable_order_0_reverse_keys r1 r2
theorem kbn_stable_order_1_reverse {K : PySem.W.Frag} {f : Addr} {fd : FuncData} (F : Fun K "stable_order" "stable_order" s_stable_order f fd) : KBn K fd P_stable_order 1 ["reverse"] (fun us ws => kg_stable_order_1_reverse us ws) (fun us ws => kg_stable_order_1_reverse us ws) := by
  obtain ⟨oc, od, kV, doc, pm, an, cdv, ct, osl, rfl, lk, hcd⟩ := F.ex
  refine ⟨fun s us ws _ h1 h2 => ?_, fun {vs us zs ws} r1 r2 => ?_⟩
  · match us, ws, h1, h2 with
    | [_], [_], _, _ => exact .of_eq rfl
  · exact kg_vals_stable_order_1_reverse r1 r2
theorem kbn_is_order_0_order_reverse_keys {K : PySem.W.Frag} {f : Addr} {fd : FuncData} (F : Fun K "is_order" "is_order" s_is_order f fd) : KBn K fd P_is_order 0 ["order", "reverse", "keys"] (fun us ws => kg_is_order_0_order_reverse_keys us ws) (fun us ws => kg_is_order_0_order_reverse_keys us ws) := by
  obtain ⟨oc, od, kV, doc, pm, an, cdv, ct, osl, rfl, lk, hcd⟩ := F.ex
  refine ⟨fun s us ws _ h1 h2 => ?_, fun {vs us zs ws} r1 r2 => ?_⟩
  · match us, ws, h1, h2 with
    | [], [_, _, _], _, _ => exact .of_eq rfl
  · exact kg_vals_is_order_0_order_reverse_keys r1 r2
theorem kbn_is_order_2_reverse {K : PySem.W.Frag} {f : Addr} {fd : FuncData} (F : Fun K "is_order" "is_order" s_is_order f fd) : KBn K fd P_is_order 2 ["reverse"] (fun us ws => kg_is_order_2_reverse us ws) (fun us ws => kg_is_order_2_reverse us ws) := by
  obtain ⟨oc, od, kV, doc, pm, an, cdv, ct, osl, rfl, lk, hcd⟩ := F.ex
  refine ⟨fun s us ws _ h1 h2 => ?_, fun {vs us zs ws} r1 r2 => ?_⟩
  · match us, ws, h1, h2 with
    | [_, _], [_], _, _ => exact .of_eq rfl
  · exact kg_vals_is_order_2_reverse r1 r2
end K02

namespace K02
open PySem PySem.Spec PyProof.Rows L2
def spIsInt : Sp := fun vs H Q _ => ∃ i, vs = [.int i] ∧ Q (.bl true) H
section
variable {P : Program} {w : World} {K : PySem.W.Frag} {mg : Str → Option Value} {base : Heap} {a : Ad} {d : Fd}
theorem ok_is_integer (T : Txt K mg a d) : FnOk P w K mg base CX0 1 a.is_integer d.is_integer P_is_integer spIsInt := by
  refine T.f_is_integer.ok sc_is_integer (fun vs H Q E h => ?_) (fun cdv A outer s H vs Q E hr h => ?_)
  · obtain ⟨i, rfl, _⟩ := h
    rfl
  · obtain ⟨i, rfl, q⟩ := h
    refine ⟨_, (pss_one (ps_ret (pe_and (pe_callB call_isi (by rfl) T.z_isinstance (by decide +kernel) (pa_cons (pv 0) (pa_cons (pe_bltn (v := .ty "int") (u := .type "int") (by rfl) T.z_int (by decide +kernel) rfl) pa_nil))) (pe_one (pe_not (pe_callB call_isi (by rfl) T.z_isinstance (by decide +kernel) (pa_cons (pv 0) (pa_cons (pe_bltn (v := .ty "bool") (u := .type "bool") (by rfl) T.z_bool (by decide +kernel) rfl) pa_nil)))))))), ?_⟩
    refine ⟨_, rfl, .int i, .ty "int", .type "int", .type "int", true, rfl, .ty _, .base (.int i), kit_ty (by decide +kernel), true, rfl, iteT ?_⟩
    exact ⟨_, rfl, .int i, .ty "bool", .type "int", .type "bool", false, rfl, .ty _, .base (.int i), kit_ty (by decide +kernel), false, rfl, q⟩
end
def spWithin : Sp := fun vs H Q _ => ∃ v lo hi, vs = [.int v, .int lo, .int hi] ∧ lo ≤ v ∧ v ≤ hi ∧ Q (.bl true) H
section
variable {P : Program} {w : World} {K : PySem.W.Frag} {mg : Str → Option Value} {base : Heap} {a : Ad} {d : Fd}
theorem ok_is_within (T : Txt K mg a d) : FnOk P w K mg base CX0 2 a.is_within d.is_within P_is_within spWithin := by
  have G_is_integer : FnOk P w K mg base CX0 1 a.is_integer d.is_integer P_is_integer spIsInt := ok_is_integer T
  refine T.f_is_within.ok sc_is_within (fun vs H Q E h => ?_) (fun cdv A outer s H vs Q E hr h => ?_)
  · obtain ⟨v, lo, hi, rfl, _⟩ := h
    rfl
  · obtain ⟨v, lo, hi, rfl, h1, h2, q⟩ := h
    refine ⟨_, (pss_one (ps_ret (pe_and (pe_call G_is_integer (hr.mono (by decide)) (by rfl) T.g_is_integer T.k_is_integer T.b_is_integer .nil pass0 (pa_cons (pv 0) pa_nil)) (pe_and (pe_cmpR op_ge (pv 0) (pv 1) (nomark _)) (pe_one (pe_or (pe_cmpR op_isN (pv 2) pe_non (nomark _)) (pe_one (pe_cmpR op_le (pv 0) (pv 2) (nomark _))))))))), ?_⟩
    refine ⟨_, rfl, v, rfl, true, rfl, iteT ?_⟩
    refine ⟨_, rfl, _, rfl, _, _, rfl, rfl, true, congrArg V.bl (decide_eq_true h1), iteT ?_⟩
    refine ⟨_, rfl, rfl, false, rfl, iteF ?_⟩
    refine ⟨_, rfl, _, rfl, _, _, rfl, rfl, ?_⟩
    show Q (V.bl (decide (v ≤ hi))) H
    rw [decide_eq_true h2]
    exact q
end


def spIsItem : Sp := fun vs H Q _ => ∃ i n, vs = [.int i, .int n] ∧ 0 ≤ i ∧ i < n ∧ Q (.bl true) H
section
variable {P : Program} {w : World} {K : PySem.W.Frag} {mg : Str → Option Value} {base : Heap} {a : Ad} {d : Fd}
theorem ok_is_item (T : Txt K mg a d) : FnOk P w K mg base CX0 3 a.is_item d.is_item P_is_item spIsItem := by
  have G_is_within : FnOk P w K mg base CX0 2 a.is_within d.is_within P_is_within spWithin := ok_is_within T
  refine T.f_is_item.ok sc_is_item (fun vs H Q E h => ?_) (fun cdv A outer s H vs Q E hr h => ?_)
  · obtain ⟨i, n, rfl, _⟩ := h
    rfl
  · obtain ⟨i, n, rfl, h0, h1, q⟩ := h
    refine ⟨_, (pss_one (ps_ret (pe_call G_is_within (hr.mono (by decide)) (by rfl) T.g_is_within T.k_is_within T.b_is_within .nil pass0 (pa_cons (pv 0) (pa_cons pe_int (pa_cons (pe_op op_sub (pv 1) pe_int) pa_nil)))))), ?_⟩
    exact ⟨_, rfl, _, rfl, _, _, rfl, rfl, i, 0, n - 1, rfl, h0, by omega, q⟩
end


/-- keys: a list or a tuple of ints -/
def KeysAt (H : Hp) (p : Addr) (ns : List Int) : Prop := H p = some (.lst (ns.map V.int)) ∨ H p = some (.tup (ns.map V.int))
theorem KeysAt.same {H H' : Hp} {p : Addr} {ns : List Int} (e : Same H H') (h : KeysAt H p ns) : KeysAt H' p ns := h.imp (e _ _) (e _ _)
def spCheckKeysN : Sp := fun vs H Q _ => ∃ p ns lo hi, vs = [.ref p, .int lo, .int hi] ∧ KeysAt H p ns ∧ lo ≤ (ns.length : Int) ∧ (ns.length : Int) ≤ hi ∧ ∀ H', Same H H' → Q .non H'
theorem keys_item {ns : List Int} {i : Nat} {x : V} (h : (ns.map V.int)[i]? = some x) : ∃ z, ns[i]? = some z ∧ x = .int z := by
  rw [List.getElem?_map] at h
  cases e : ns[i]? with
  | none => rw [e] at h; cases h
  | some z => rw [e] at h; exact ⟨z, rfl, (Option.some.inj h).symm⟩
section
variable {P : Program} {w : World} {K : PySem.W.Frag} {mg : Str → Option Value} {base : Heap} {a : Ad} {d : Fd}
theorem ok_check_keys (T : Txt K mg a d) : FnOk P w K mg base CX0 2 a.check_keys d.check_keys P_check_keys spCheckKeysN := by
  have G_is_integer : FnOk P w K mg base CX0 1 a.is_integer d.is_integer P_is_integer spIsInt := ok_is_integer T
  refine T.f_check_keys.ok sc_check_keys (fun vs H Q E h => ?_) (fun cdv A outer s H vs Q E hr h => ?_)
  · obtain ⟨p, ns, lo, hi, rfl, _⟩ := h
    rfl
  · obtain ⟨p, ns, lo, hi, rfl, hK, hl1, hl2, q⟩ := h
    refine ⟨_, (pss_cons (ps_if (PW.pt (pw_or (pt_not (pt_val (pe_callB call_isiT (by rfl) T.z_isinstance (by decide +kernel) (pa_cons (pv 0) (pa_cons (pe_tup (pa_cons (pe_bltn (v := .ty "list") (u := .type "list") (by rfl) T.z_list (by decide +kernel) rfl) (pa_cons (pe_bltn (v := .ty "tuple") (u := .type "tuple") (by rfl) T.z_tuple (by decide +kernel) rfl) pa_nil))) pa_nil))))) (pw_or1 (pt_not (pt_chain op_le op_le (pv 1) (pe_callB call_len_seq (by rfl) T.z_len PySem.boot_len (pa_cons (pv 0) pa_nil)) (pv 2)))))) (pss_one ps_never) pss_nil)
    (pss_one (ps_for PassesOwn.never rfl (pi_enumA (by rfl) T.z_enumerate (pa_cons (pv 0) pa_nil)) (pg_tup rfl (pgs_cons (pg_name (i := 3) sc_check_keys.nd rfl (Or.inl rfl)) (pgs_cons (pg_name (i := 4) sc_check_keys.nd rfl (Or.inl rfl)) pgs_nil)))
      (pss_one (ps_if (pt_not (pt_val (pe_call G_is_integer (hr.mono (by decide)) (by rfl) T.g_is_integer T.k_is_integer T.b_is_integer .nil pass0 (pa_cons (pv 4) pa_nil)))) (pss_one ps_never) pss_nil))))), ?_⟩
    refine ⟨_, rfl, by show 2 ≤ sizeLine; decide, fun tp htp => ?_⟩
    have s1 : Same H (upd H tp (.tup [.ty "list", .ty "tuple"])) := same_upd htp
    have hK1 := hK.same s1
    have hT : upd H tp (.tup [.ty "list", .ty "tuple"]) tp = some (.tup [.ty "list", .ty "tuple"]) := upd_same
    generalize upd H tp (.tup [.ty "list", .ty "tuple"]) = H1 at s1 hK1 hT ⊢
    have cs : Paired ClsV [.ty "list", .ty "tuple"] [.type "list", .type "tuple"] := .cons (.ty _) (.cons (.ty _) .nil)
    have hS : SqL K H1 p (ns.map V.int) ∨ SqT K H1 p (ns.map V.int) := hK1.imp L2.sq_of L2.st_of
    obtain ⟨t, hty, hkit⟩ : ∃ t, TyX K H1 (.ref p) t ∧ PySem.W.kitAny K t [.type "list", .type "tuple"] = some true := by
      rcases hK1 with hl | ht
      · exact ⟨_, .base (.lst hl), kitAny_cons (b := true) (kit_ty (by decide +kernel)) (fun z => nomatch z) (fun _ => rfl)⟩
      · exact ⟨_, .base (.tup ht), kitAny_cons (b := false) (kit_ty (by decide +kernel)) (fun _ => kitAny_cons (b := true) (kit_ty (by decide +kernel)) (fun z => nomatch z) (fun _ => rfl)) (fun z => nomatch z)⟩
    refine ⟨.ref p, tp, _, t, _, true, rfl, hT, cs, hty, hkit, true, rfl, iteF ?_⟩
    have el : (ns.map V.int).length = ns.length := List.length_map _
    refine ⟨_, rfl, _, rfl, p, _, rfl, hS, _, _, rfl, rfl, true, congrArg V.bl (decide_eq_true (by rw [el]; exact hl1)), iteT ⟨_, rfl, _, _, rfl, rfl, true, congrArg V.bl (decide_eq_true (by rw [el]; exact hl2)), iteF ?_⟩⟩
    · refine ⟨_, rfl, p, ns.map V.int, rfl, hS.imp (fun hs => ⟨hs, ?_⟩) (fun hs => ⟨hs, ?_⟩)⟩
      · refine for_iteL (K := K) (a := p) (xs := ns.map V.int) (fun i σ H' => (∃ u v, σ = [some (.ref p), some (.int lo), some (.int hi), u, v]) ∧ Same H1 H') ⟨⟨_, _, rfl⟩, Same.refl _⟩ (fun i σ H' _ h => h.2.seq hs) ?_ ?_
        · rintro i y σ H2 Tp hy ⟨⟨u, v, rfl⟩, sm⟩ hn
          obtain ⟨z, _, rfl⟩ := keys_item hy
          refine ⟨Tp, _, rfl, L2.st_of upd_same, rfl, _, _, rfl, _, _, rfl, rfl, ?_⟩
          refine ⟨_, rfl, z, rfl, true, rfl, iteF ?_⟩
          exact ⟨⟨_, _, rfl⟩, sm.trans (same_upd hn)⟩
        · rintro σ H' ⟨_, sm⟩
          exact q H' (s1.trans sm)
      · refine for_iteT (K := K) (a := p) (xs := ns.map V.int) (fun i σ H' => (∃ u v, σ = [some (.ref p), some (.int lo), some (.int hi), u, v]) ∧ Same H1 H') ⟨⟨_, _, rfl⟩, Same.refl _⟩ (fun i σ H' _ h => Same.tupS h.2 hs) ?_ ?_
        · rintro i y σ H2 Tp hy ⟨⟨u, v, rfl⟩, sm⟩ hn
          obtain ⟨z, _, rfl⟩ := keys_item hy
          refine ⟨Tp, _, rfl, L2.st_of upd_same, rfl, _, _, rfl, _, _, rfl, rfl, ?_⟩
          refine ⟨_, rfl, z, rfl, true, rfl, iteF ?_⟩
          exact ⟨⟨_, _, rfl⟩, sm.trans (same_upd hn)⟩
        · rintro σ H' ⟨_, sm⟩
          exact q H' (s1.trans sm)
end

def OrdAt (H : Hp) (q : Addr) (bs : List Nat) : Prop := H q = some (.lst (nV bs)) ∨ H q = some (.tup (nV bs))
theorem OrdAt.same {H H' : Hp} {q : Addr} {bs : List Nat} (e : Same H H') (h : OrdAt H q bs) : OrdAt H' q bs := h.imp (e _ _) (e _ _)
def spCheckBool : Sp := fun vs H Q _ => ∃ (x : V) (b : Bool), vs = [x, .bl b] ∧ Q .non H
def spCheckOrder : Sp := fun vs H Q _ => ∃ (q : Addr) (bs : List Nat) (n : Nat), vs = [.ref q, .int (n : Int)] ∧ OrdAt H q bs ∧ bs.Perm (List.range n) ∧ n ≤ 2000 ∧ ∀ H', Same H H' → Q .non H'
def spStable : Sp := fun vs H Q _ => ∃ (p : Addr) (ks : List Int) (rev : Bool), vs = [.ref p, .bl rev] ∧ KeysAt H p ks ∧ ks.length ≤ 2000 ∧ ∀ (r : Addr) (os : List Nat) (H' : Hp), Stab (keyf ks rev) ks.length os → H r = none → Same H H' → H' r = some (.lst (nV os)) → Q (.ref r) H'
def spIsOrder : Sp := fun vs H Q _ => ∃ (p q : Addr) (ks : List Int) (bs : List Nat) (rev : Bool), vs = [.ref p, .ref q, .bl rev] ∧ KeysAt H p ks ∧ ks.length ≤ 2000 ∧ OrdAt H q bs ∧ bs.Perm (List.range ks.length) ∧ ∀ (os : List Nat) (H' : Hp), Stab (keyf ks rev) ks.length os → Same H H' → Q (.bl (decide (bs = os))) H'
theorem rep_flatV (x : V) : ∀ n : Nat, (List.replicate n [x]).flatten = List.replicate n x
  | 0 => rfl
  | n + 1 => by
    rw [List.replicate_succ, List.replicate_succ, List.flatten_cons, rep_flatV x n]
    rfl
/-- which items have been seen -/
def seenAt (n : Nat) (l : List Nat) : List V := (List.range n).map fun k => V.bl (decide (k ∈ l))
theorem seen_nil (n : Nat) : List.replicate n (V.bl false) = seenAt n [] := by
  refine List.ext_getElem? fun i => ?_
  unfold seenAt
  rw [List.getElem?_replicate, List.getElem?_map]
  by_cases h : i < n
  · rw [if_pos h, List.getElem?_range h]
    rfl
  · rw [if_neg h, List.getElem?_eq_none (by rw [List.length_range]; omega)]
    rfl
theorem seen_at {n b : Nat} {l : List Nat} (h : b < n) : (seenAt n l)[b]? = some (.bl (decide (b ∈ l))) := by
  unfold seenAt
  rw [List.getElem?_map, List.getElem?_range h]
  rfl
theorem seen_len (n : Nat) (l : List Nat) : (seenAt n l).length = n := by
  unfold seenAt
  rw [List.length_map, List.length_range]
theorem seen_set {n b : Nat} {l : List Nat} (h : b < n) : (seenAt n l).set b (.bl true) = seenAt n (l ++ [b]) := by
  refine List.ext_getElem? fun i => ?_
  rw [List.getElem?_set, seen_len]
  by_cases e : b = i
  · subst e
    rw [if_pos rfl, if_pos h, seen_at h]
    simp
  · rw [if_neg e]
    by_cases hi : i < n
    · rw [seen_at hi, seen_at hi]
      have ne : ¬ i = b := fun z => e z.symm
      simp [ne]
    · rw [List.getElem?_eq_none (by rw [seen_len]; omega), List.getElem?_eq_none (by rw [seen_len]; omega)]
theorem take_more {α : Type} {l : List α} {i : Nat} {x : α} (h : l[i]? = some x) : l.take (i + 1) = l.take i ++ [x] := by
  rw [List.take_add_one, h]
  rfl
theorem not_before {l : List Nat} {i b : Nat} (nd : l.Nodup) (h : l[i]? = some b) : b ∉ l.take i := by
  intro hm
  have e : l = l.take i ++ l.drop i := (List.take_append_drop i l).symm
  rw [e] at nd
  have hb : b ∈ l.drop i := by
    have q : (l.drop i)[0]? = some b := by
      rw [List.getElem?_drop]
      exact h
    exact List.mem_of_getElem? q
  exact (List.nodup_append.mp nd).2.2 b hm b hb rfl
theorem nV_item {bs : List Nat} {i : Nat} {x : V} (h : (nV bs)[i]? = some x) : ∃ b, bs[i]? = some b ∧ x = .int (b : Int) := by
  rw [List.getElem?_map] at h
  cases e : bs[i]? with
  | none => rw [e] at h; cases h
  | some z => rw [e] at h; exact ⟨z, rfl, (Option.some.inj h).symm⟩
/-- what two ints a value is a pair of -/
def pairOf (H : Hp) (x : V) : Int × Int := match x with
  | .ref t => match H t with
    | some (.tup [.int i, .int j]) => (i, j)
    | _ => (0, 0)
  | _ => (0, 0)
theorem pairOf_at {H : Hp} {t : Addr} {i j : Int} (h : H t = some (.tup [.int i, .int j])) : pairOf H (.ref t) = (i, j) := by
  unfold pairOf
  simp only [h]
section
variable {P : Program} {w : World} {K : PySem.W.Frag} {mg : Str → Option Value} {base : Heap} {a : Ad} {d : Fd}
theorem ok_check_bool (T : Txt K mg a d) : FnOk P w K mg base CX0 1 a.check_bool d.check_bool P_check_bool spCheckBool := by
  refine T.f_check_bool.ok sc_check_bool (fun vs H Q E h => ?_) (fun cdv A outer s H vs Q E hr h => ?_)
  · obtain ⟨x, b, rfl, _⟩ := h
    rfl
  · obtain ⟨x, b, rfl, q⟩ := h
    refine ⟨_, (pss_one (ps_if (pt_not (pt_val (pe_callB call_isi (by rfl) T.z_isinstance (by decide +kernel) (pa_cons (pv 1) (pa_cons (pe_bltn (v := .ty "bool") (u := .type "bool") (by rfl) T.z_bool (by decide +kernel) rfl) pa_nil))))) (pss_one ps_never) pss_nil)), ?_⟩
    exact ⟨_, rfl, .bl b, .ty "bool", .type "bool", .type "bool", true, rfl, .ty _, .base (.bl b), kit_ty (by decide +kernel), true, rfl, iteF q⟩
theorem ok_check_order (T : Txt K mg a d) : FnOk P w K mg base CX0 4 a.check_order d.check_order P_check_order spCheckOrder := by
  have G_is_item : FnOk P w K mg base CX0 3 a.is_item d.is_item P_is_item spIsItem := ok_is_item T
  refine T.f_check_order.ok sc_check_order (fun vs H Q E h => ?_) (fun cdv A outer s H vs Q E hr h => ?_)
  · obtain ⟨q, bs, n, rfl, _⟩ := h
    rfl
  · obtain ⟨p, bs, n, rfl, hK, pm, hlen, q⟩ := h
    refine ⟨_, (pss_cons (ps_if (PW.pt (pw_or (pt_not (pt_val (pe_callB call_isiT (by rfl) T.z_isinstance (by decide +kernel) (pa_cons (pv 0) (pa_cons (pe_tup (pa_cons (pe_bltn (v := .ty "list") (u := .type "list") (by rfl) T.z_list (by decide +kernel) rfl) (pa_cons (pe_bltn (v := .ty "tuple") (u := .type "tuple") (by rfl) T.z_tuple (by decide +kernel) rfl) pa_nil))) pa_nil))))) (pw_or1 (pt_cmpR op_ne (pe_callB call_len_seq (by rfl) T.z_len PySem.boot_len (pa_cons (pv 0) pa_nil)) (pv 1) (nomark _))))) (pss_one ps_never) pss_nil)
    (pss_cons (ps_set (i := 2) sc_check_order.nd rfl (Or.inl rfl) (pe_op op_rep (pe_lst (pa_cons pe_bl pa_nil)) (pv 1)))
    (pss_one (ps_for PassesOwn.never rfl (pi_enumA (by rfl) T.z_enumerate (pa_cons (pv 0) pa_nil)) (pg_tup rfl (pgs_cons (pg_name (i := 3) sc_check_order.nd rfl (Or.inl rfl)) (pgs_cons (pg_name (i := 4) sc_check_order.nd rfl (Or.inl rfl)) pgs_nil)))
      (pss_cons (ps_if (PW.pt (pw_or (pt_not (pt_val (pe_call G_is_item (hr.mono (by decide)) (by rfl) T.g_is_item T.k_is_item T.b_is_item .nil pass0 (pa_cons (pv 4) (pa_cons (pv 1) pa_nil))))) (pw_or1 (pt_val (pe_ix ix_list (pv 2) (pv 4) (fun _ _ => rfl)))))) (pss_one ps_never) pss_nil)
        (pss_one (ps_asg pe_bl (pg_sub (pv 2) (pv 4) set_list)))))))), ?_⟩
    refine ⟨_, rfl, by show 2 ≤ sizeLine; decide, fun tp htp => ?_⟩
    have s1 : Same H (upd H tp (.tup [.ty "list", .ty "tuple"])) := same_upd htp
    have hK1 := hK.same s1
    have hT : upd H tp (.tup [.ty "list", .ty "tuple"]) tp = some (.tup [.ty "list", .ty "tuple"]) := upd_same
    generalize upd H tp (.tup [.ty "list", .ty "tuple"]) = H1 at s1 hK1 hT ⊢
    have cs : Paired ClsV [.ty "list", .ty "tuple"] [.type "list", .type "tuple"] := .cons (.ty _) (.cons (.ty _) .nil)
    have hS : SqL K H1 p (nV bs) ∨ SqT K H1 p (nV bs) := hK1.imp L2.sq_of L2.st_of
    obtain ⟨t, hty, hkit⟩ : ∃ t, TyX K H1 (.ref p) t ∧ PySem.W.kitAny K t [.type "list", .type "tuple"] = some true := by
      rcases hK1 with hl | ht
      · exact ⟨_, .base (.lst hl), kitAny_cons (b := true) (kit_ty (by decide +kernel)) (fun z => nomatch z) (fun _ => rfl)⟩
      · exact ⟨_, .base (.tup ht), kitAny_cons (b := false) (kit_ty (by decide +kernel)) (fun _ => kitAny_cons (b := true) (kit_ty (by decide +kernel)) (fun z => nomatch z) (fun _ => rfl)) (fun z => nomatch z)⟩
    have lb : bs.length = n := by rw [pm.length_eq, List.length_range]
    have nd : bs.Nodup := pm.nodup_iff.mpr List.nodup_range
    refine ⟨.ref p, tp, _, t, _, true, rfl, hT, cs, hty, hkit, true, rfl, iteF ?_⟩
    refine ⟨_, rfl, p, _, rfl, hS, _, rfl, rfl, false, ?_, iteF ?_⟩
    · have e : (nV bs).length = n := (List.length_map _).trans lb
      rw [e]
      exact congrArg V.bl (by simp)
    refine ⟨by show 1 ≤ sizeLine; decide, fun l hl => ⟨_, rfl, l, n, _, rfl, rfl, upd_same, by omega, by omega, ?_, fun sn hsn => ?_⟩⟩
    · show 1 * (n : Int).toNat ≤ sizeLine
      exact Nat.le_trans (by omega) (by decide : 2000 ≤ sizeLine)
    have s2 : Same H1 (upd H1 l (.lst [.bl false])) := same_upd hl
    generalize upd H1 l (.lst [.bl false]) = H2 at s2 hsn ⊢
    have hS2 : SqL K H2 p (nV bs) ∨ SqT K H2 p (nV bs) := hS.imp s2.seq (Same.tupS s2)
    have hs0 : upd H2 sn (.lst (List.replicate (n : Int).toNat [V.bl false]).flatten) sn = some (.lst (seenAt n [])) := by
      rw [upd_same, rep_flatV, Int.toNat_natCast, seen_nil]
    have s3 : Same H2 (upd H2 sn (.lst (List.replicate (n : Int).toNat [V.bl false]).flatten)) := same_upd hsn
    have step : ∀ (i b : Nat) (H3 : Hp) (T : Addr), bs[i]? = some b → Same H2 H3 → H3 sn = some (.lst (seenAt n (bs.take i))) → H3 T = none →
        b < n ∧ atI (seenAt n (bs.take i)) (b : Int) = some (.bl false) ∧ ixN (seenAt n (bs.take i)).length (b : Int) = some b ∧ (seenAt n (bs.take i)).set b (.bl true) = seenAt n (bs.take (i + 1)) ∧ T ≠ sn := by
      intro i b H3 T hb sm hs hn
      have lt : b < n := List.mem_range.mp (pm.mem_iff.mp (List.mem_of_getElem? hb))
      refine ⟨lt, atI_nat ?_, ?_, ?_, ?_⟩
      · rw [seen_at lt]
        simp [not_before nd hb]
      · rw [seen_len]
        unfold ixN
        rw [if_pos (by omega), if_pos (by omega), Int.toNat_natCast]
      · rw [seen_set lt, take_more hb]
      · intro e
        rw [e, hs] at hn
        cases hn
    refine ⟨_, rfl, p, nV bs, rfl, ?_⟩
    rcases hS2 with hs | hs
    · refine .inl ⟨s3.seq hs, for_iteL (K := K) (a := p) (xs := nV bs) (fun i σ H' => (∃ u v, σ = [some (.ref p), some (.int n), some (.ref sn), u, v]) ∧ Same H2 H' ∧ H' sn = some (.lst (seenAt n (bs.take i)))) ⟨⟨_, _, rfl⟩, s3, hs0⟩ (fun i σ H' _ h => h.2.1.seq hs) ?_ ?_⟩
      · rintro i y σ H3 Tp hy ⟨⟨u, v, rfl⟩, sm, hs3⟩ hn
        obtain ⟨b, hb, rfl⟩ := nV_item hy
        obtain ⟨lt, g1, g2, g3, ne⟩ := step i b H3 Tp hb sm hs3 hn
        have hs4 : upd H3 Tp (.tup [.int (i : Nat), .int (b : Int)]) sn = some (.lst (seenAt n (bs.take i))) := (same_upd hn) _ _ hs3
        refine ⟨Tp, _, rfl, L2.st_of upd_same, rfl, _, _, rfl, _, _, rfl, rfl, ?_⟩
        refine ⟨_, rfl, _, rfl, b, n, rfl, by omega, by omega, true, rfl, iteF ?_⟩
        refine ⟨_, rfl, _, rfl, sn, _, _, _, rfl, rfl, L2.sq_of hs4, g1, false, rfl, iteF ?_⟩
        refine ⟨_, rfl, _, rfl, sn, _, _, b, rfl, rfl, hs4, g2, ⟨_, _, rfl⟩, fun c o e => ?_, ?_⟩
        · rw [upd_ne (ne_of_none e hsn)]
          exact (same_upd hn) _ _ (sm _ _ e)
        · rw [upd_same, g3]
      · rintro σ H' ⟨_, sm, _⟩
        exact q H' ((s1.trans s2).trans sm)
    · refine .inr ⟨Same.tupS s3 hs, for_iteT (K := K) (a := p) (xs := nV bs) (fun i σ H' => (∃ u v, σ = [some (.ref p), some (.int n), some (.ref sn), u, v]) ∧ Same H2 H' ∧ H' sn = some (.lst (seenAt n (bs.take i)))) ⟨⟨_, _, rfl⟩, s3, hs0⟩ (fun i σ H' _ h => Same.tupS h.2.1 hs) ?_ ?_⟩
      · rintro i y σ H3 Tp hy ⟨⟨u, v, rfl⟩, sm, hs3⟩ hn
        obtain ⟨b, hb, rfl⟩ := nV_item hy
        obtain ⟨lt, g1, g2, g3, ne⟩ := step i b H3 Tp hb sm hs3 hn
        have hs4 : upd H3 Tp (.tup [.int (i : Nat), .int (b : Int)]) sn = some (.lst (seenAt n (bs.take i))) := (same_upd hn) _ _ hs3
        refine ⟨Tp, _, rfl, L2.st_of upd_same, rfl, _, _, rfl, _, _, rfl, rfl, ?_⟩
        refine ⟨_, rfl, _, rfl, b, n, rfl, by omega, by omega, true, rfl, iteF ?_⟩
        refine ⟨_, rfl, _, rfl, sn, _, _, _, rfl, rfl, L2.sq_of hs4, g1, false, rfl, iteF ?_⟩
        refine ⟨_, rfl, _, rfl, sn, _, _, b, rfl, rfl, hs4, g2, ⟨_, _, rfl⟩, fun c o e => ?_, ?_⟩
        · rw [upd_ne (ne_of_none e hsn)]
          exact (same_upd hn) _ _ (sm _ _ e)
        · rw [upd_same, g3]
      · rintro σ H' ⟨_, sm, _⟩
        exact q H' ((s1.trans s2).trans sm)
end

end K02

namespace K02
open PySem PySem.Spec PyProof.Rows L2
section
variable {P : Program} {w : World} {K : PySem.W.Frag} {mg : Str → Option Value} {base : Heap} {a : Ad} {d : Fd}
theorem ok_stable (T : Txt K mg a d) : FnOk P w K mg base CX0 1 a.stable d.stable P_stable spStable := by
  refine T.f_stable.ok sc_stable (fun vs H Q E h => ?_) (fun cdv A outer s H vs Q E hr h => ?_)
  · obtain ⟨p, ks, rev, rfl, _⟩ := h
    rfl
  · obtain ⟨p, ks, rev, rfl, hK, hlen, q⟩ := h
    refine ⟨_, (pss_cons (ps_set (i := 2) sc_stable.nd rfl (Or.inr rfl) (pe_ifExp (pt_val (pv 1)) (pe_un un_neg pe_int) pe_int))
    (pss_cons (ps_set (i := 3) sc_stable.nd rfl (Or.inl rfl) (pe_callB cr_sortedPO (by rfl) T.z_sorted (by decide +kernel) (pa_cons (pe_lc (own := [("item", 4), ("key", 5)]) (g := gTup K 2 (gCons (gName 4) (gCons (gName 5) gNil))) (tt := tYes) rfl sc_stable.nd (pi_enumA (by rfl) T.z_enumerate (pa_cons (pv 0) pa_nil)) (blkOk_by (N := N_stable) (sc := defScope s_stable) (by decide +kernel)) (fun _ _ _ _ _ => pg_tup rfl (pgs_cons (pg_name (i := 4) sc_stable.nd rfl (Or.inl rfl)) (pgs_cons (pg_name (i := 5) sc_stable.nd rfl (Or.inl rfl)) pgs_nil))) (fun _ _ _ _ _ => pts_nil) (fun _ _ _ _ _ => (pe_tup (pa_cons (pe_op op_mul (pv 2) (pv 5)) (pa_cons (pv 4) pa_nil))))) pa_nil)))
    (pss_one (ps_ret (pe_lc (own := [("_", 6), ("item", 4)]) (g := gTup K 2 (gCons (gName 6) (gCons (gName 4) gNil))) (tt := tYes) rfl sc_stable.nd (pi_list (pv 3)) (blkOk_by (N := N_stable) (sc := defScope s_stable) (by decide +kernel)) (fun _ _ _ _ _ => pg_tup rfl (pgs_cons (pg_name (i := 6) sc_stable.nd rfl (Or.inl rfl)) (pgs_cons (pg_name (i := 4) sc_stable.nd rfl (Or.inl rfl)) pgs_nil))) (fun _ _ _ _ _ => pts_nil) (fun _ _ _ _ _ => (pv 4))))))), ?_⟩
    have hS : SqL K H p (ks.map V.int) ∨ SqT K H p (ks.map V.int) := hK.imp L2.sq_of L2.st_of
    cases rev with
    | true =>
      refine ⟨_, rfl, true, rfl, iteT ?_⟩
      refine ⟨_, rfl, ?_⟩
      have hsg : ∀ j, keyf ks true j = -1 * ks.getD j 0 := fun j => by unfold keyf; rw [if_pos rfl]; omega
      refine ⟨_, rfl, p, ks.map V.int, rfl, ?_⟩
      rcases hS with hs | hs
      · refine .inl ⟨hs, fun D0 fD => ?_⟩
        refine lc_iteL (K := K) (a := p) (xs := ks.map V.int) (fun i H' => ∃ ts : List Addr, ts.length = i ∧ H' D0 = some (.lst (ts.map V.ref)) ∧ (∀ j t, ts[j]? = some t → ∃ z, ks[j]? = some z ∧ H' t = some (.tup [.int ((-1) * z), .int (j : Nat)])) ∧ Same H H') ⟨[], rfl, upd_same, fun j t h => (by cases h), same_upd fD⟩ (fun i H' _ ⟨_, _, _, _, h⟩ => h.seq hs) ?_ ?_
        · rintro i x H3 T1 hx ⟨ts, hl, hD, hh, sm⟩ hT1
          obtain ⟨z, hz, rfl⟩ := keys_item hx
          refine ⟨T1, _, rfl, L2.st_of upd_same, rfl, _, _, rfl, _, _, rfl, rfl, rfl, ?_⟩
          refine ⟨_, rfl, _, rfl, _, _, rfl, rfl, .inl (by first | exact ⟨by decide, by decide⟩ | omega), _, rfl, by show 2 ≤ sizeLine; decide, fun t ht => ?_⟩
          have sA : Same H3 (upd H3 T1 (.tup [.int (i : Nat), .int z])) := same_upd hT1
          have sB := sA.trans (same_upd (o := .tup [.int ((-1) * z), .int (i : Nat)]) ht)
          refine ⟨_, sB _ _ hD, ?_, ts ++ [t], by simp [hl], ?_, ?_, ?_⟩
          · rw [List.length_map, hl]
            have q1 := (List.getElem?_eq_some_iff.mp hz).1
            exact Nat.lt_of_lt_of_le q1 (Nat.le_trans hlen (by decide : 2000 ≤ sizeLine))
          · rw [upd_same, List.map_append]
            rfl
          · intro j u hu
            have nD : u ≠ D0 := fun e => by
              subst e
              by_cases hj : j < ts.length
              · rw [List.getElem?_append_left hj] at hu
                obtain ⟨z2, _, e2⟩ := hh j _ hu
                rw [hD] at e2
                cases e2
              · rw [List.getElem?_append_right (by omega)] at hu
                have e3 : u = t := (List.mem_singleton.mp (List.mem_of_getElem? hu))
                rw [← e3, sA _ _ hD] at ht
                cases ht
            rw [upd_ne nD]
            by_cases hj : j < ts.length
            · rw [List.getElem?_append_left hj] at hu
              obtain ⟨z2, e1, e2⟩ := hh j _ hu
              exact ⟨z2, e1, sB _ _ e2⟩
            · rw [List.getElem?_append_right (by omega)] at hu
              have q1 := (List.getElem?_eq_some_iff.mp hu).1
              have ej : j = i := by
                rw [List.length_singleton] at q1
                omega
              subst ej
              have e3 : u = t := (List.mem_singleton.mp (List.mem_of_getElem? hu))
              rw [e3]
              exact ⟨z, hz, upd_same⟩
          · intro b o e
            rw [upd_ne (ne_of_none e fD)]
            exact sB _ _ (sm _ _ e)
        · rintro H5 ⟨ts, hl, hD, hh, sm⟩
          obtain ⟨hD5, hts, sm5, lts⟩ : H5 D0 = some (.lst (ts.map V.ref)) ∧ (∀ j t, ts[j]? = some t → ∃ z, ks[j]? = some z ∧ H5 t = some (.tup [.int ((-1) * z), .int (j : Nat)])) ∧ Same H H5 ∧ ts.length = ks.length := ⟨hD, hh, sm, by rw [hl, List.length_map]⟩
          have hpr : ∀ x ∈ ts.map V.ref, ∃ t, x = V.ref t ∧ H5 t = some (.tup [.int (pairOf H5 x).1, .int (pairOf H5 x).2]) := fun x hx => by
            obtain ⟨t, ht, rfl⟩ := List.mem_map.mp hx
            obtain ⟨j, hj⟩ := List.getElem?_of_mem ht
            obtain ⟨z, _, e⟩ := hts j t hj
            exact ⟨t, rfl, by rw [pairOf_at e]; exact e⟩
          refine ⟨D0, ts.map V.ref, pairOf H5, rfl, L2.sq_of hD5, hpr, fun ys r srt stb hr0 => ?_⟩
          have sm6 : Same H5 (upd H5 r (.lst ys)) := same_upd hr0
          have ep : ((ts.map V.ref).map (pairOf H5)) = (List.range ks.length).map fun (i : Nat) => (keyf ks true i, (i : Int)) := by
            refine List.ext_getElem? fun j => ?_
            rw [List.getElem?_map, List.getElem?_map, List.getElem?_map]
            by_cases hj : j < ts.length
            · rw [List.getElem?_eq_getElem hj, List.getElem?_range (by omega)]
              obtain ⟨z, hz, e⟩ := hts j _ (List.getElem?_eq_getElem hj)
              show some (pairOf H5 (.ref ts[j])) = some (keyf ks true j, (j : Int))
              rw [pairOf_at e]
              have e2 : ks.getD j 0 = z := by rw [List.getD_eq_getElem?_getD, hz]; rfl
              rw [hsg, e2]
            · rw [List.getElem?_eq_none (by omega), List.getElem?_eq_none (by rw [List.length_range]; omega)]
              rfl
          obtain ⟨os, so, eo⟩ := stab_of_pairs (f := keyf ks true) (n := ks.length) (ps := ys.map (pairOf H5)) (by rw [← ep]; exact stb.perm.map _) (by
            rw [List.pairwise_map]
            exact srt.imp fun {x y} h => SrtO.lexB_no.mp h)
          have hy : ∀ x ∈ ys, ∃ t, x = V.ref t ∧ H5 t = some (.tup [.int (pairOf H5 x).1, .int (pairOf H5 x).2]) := fun x hx => hpr x (stb.perm.mem_iff.mp hx)
          have ly : ys.length ≤ 2000 := by
            rw [stb.perm.length_eq, List.length_map]
            omega
          -- [item for _, item in pairs]
          refine ⟨_, rfl, r, rfl, ⟨_, L2.sq_of upd_same⟩, fun D2 hD2 => ?_⟩
          refine lc_list (K := K) (a := r) (xs := ys) (fun i H' => Same (upd H5 r (.lst ys)) H' ∧ H' D2 = some (.lst ((ys.take i).map fun x => V.int (pairOf H5 x).2))) ⟨same_upd hD2, upd_same⟩ (fun i H' _ h => L2.sq_of (h.1 _ _ upd_same)) ?_ ?_
          · rintro i x H6 hx ⟨s6, h6⟩
            obtain ⟨t, rfl, ht⟩ := hy x (List.mem_of_getElem? hx)
            refine ⟨t, _, rfl, L2.st_of (s6 _ _ (sm6 _ _ ht)), rfl, _, _, rfl, _, _, rfl, rfl, rfl, ?_⟩
            refine ⟨_, rfl, _, h6, ?_, ?_, ?_⟩
            · rw [List.length_map, List.length_take]
              exact Nat.lt_of_le_of_lt (Nat.le_trans (Nat.min_le_right _ _) ly) (by decide)
            · intro b o e
              rw [upd_ne (ne_of_none e hD2)]
              exact s6 _ _ e
            · rw [upd_same, take_more hx, List.map_append]
              rfl
          · rintro H6 ⟨s6, h6⟩
            have e6 : (ys.take ys.length).map (fun x => V.int (pairOf H5 x).2) = nV os := by
              rw [List.take_length]
              have e7 : (ys.map (pairOf H5)).map (fun q => V.int q.2) = nV os := by
                rw [eo, List.map_map]
                rfl
              rw [List.map_map] at e7
              exact e7
            rw [e6] at h6
            exact q D2 os H6 so (sm5.free (sm6.free hD2)) ((sm5.trans sm6).trans s6) h6

      · refine .inr ⟨hs, fun D0 fD => ?_⟩
        refine lc_iteT (K := K) (a := p) (xs := ks.map V.int) (fun i H' => ∃ ts : List Addr, ts.length = i ∧ H' D0 = some (.lst (ts.map V.ref)) ∧ (∀ j t, ts[j]? = some t → ∃ z, ks[j]? = some z ∧ H' t = some (.tup [.int ((-1) * z), .int (j : Nat)])) ∧ Same H H') ⟨[], rfl, upd_same, fun j t h => (by cases h), same_upd fD⟩ (fun i H' _ ⟨_, _, _, _, h⟩ => Same.tupS h hs) ?_ ?_
        · rintro i x H3 T1 hx ⟨ts, hl, hD, hh, sm⟩ hT1
          obtain ⟨z, hz, rfl⟩ := keys_item hx
          refine ⟨T1, _, rfl, L2.st_of upd_same, rfl, _, _, rfl, _, _, rfl, rfl, rfl, ?_⟩
          refine ⟨_, rfl, _, rfl, _, _, rfl, rfl, .inl (by first | exact ⟨by decide, by decide⟩ | omega), _, rfl, by show 2 ≤ sizeLine; decide, fun t ht => ?_⟩
          have sA : Same H3 (upd H3 T1 (.tup [.int (i : Nat), .int z])) := same_upd hT1
          have sB := sA.trans (same_upd (o := .tup [.int ((-1) * z), .int (i : Nat)]) ht)
          refine ⟨_, sB _ _ hD, ?_, ts ++ [t], by simp [hl], ?_, ?_, ?_⟩
          · rw [List.length_map, hl]
            have q1 := (List.getElem?_eq_some_iff.mp hz).1
            exact Nat.lt_of_lt_of_le q1 (Nat.le_trans hlen (by decide : 2000 ≤ sizeLine))
          · rw [upd_same, List.map_append]
            rfl
          · intro j u hu
            have nD : u ≠ D0 := fun e => by
              subst e
              by_cases hj : j < ts.length
              · rw [List.getElem?_append_left hj] at hu
                obtain ⟨z2, _, e2⟩ := hh j _ hu
                rw [hD] at e2
                cases e2
              · rw [List.getElem?_append_right (by omega)] at hu
                have e3 : u = t := (List.mem_singleton.mp (List.mem_of_getElem? hu))
                rw [← e3, sA _ _ hD] at ht
                cases ht
            rw [upd_ne nD]
            by_cases hj : j < ts.length
            · rw [List.getElem?_append_left hj] at hu
              obtain ⟨z2, e1, e2⟩ := hh j _ hu
              exact ⟨z2, e1, sB _ _ e2⟩
            · rw [List.getElem?_append_right (by omega)] at hu
              have q1 := (List.getElem?_eq_some_iff.mp hu).1
              have ej : j = i := by
                rw [List.length_singleton] at q1
                omega
              subst ej
              have e3 : u = t := (List.mem_singleton.mp (List.mem_of_getElem? hu))
              rw [e3]
              exact ⟨z, hz, upd_same⟩
          · intro b o e
            rw [upd_ne (ne_of_none e fD)]
            exact sB _ _ (sm _ _ e)
        · rintro H5 ⟨ts, hl, hD, hh, sm⟩
          obtain ⟨hD5, hts, sm5, lts⟩ : H5 D0 = some (.lst (ts.map V.ref)) ∧ (∀ j t, ts[j]? = some t → ∃ z, ks[j]? = some z ∧ H5 t = some (.tup [.int ((-1) * z), .int (j : Nat)])) ∧ Same H H5 ∧ ts.length = ks.length := ⟨hD, hh, sm, by rw [hl, List.length_map]⟩
          have hpr : ∀ x ∈ ts.map V.ref, ∃ t, x = V.ref t ∧ H5 t = some (.tup [.int (pairOf H5 x).1, .int (pairOf H5 x).2]) := fun x hx => by
            obtain ⟨t, ht, rfl⟩ := List.mem_map.mp hx
            obtain ⟨j, hj⟩ := List.getElem?_of_mem ht
            obtain ⟨z, _, e⟩ := hts j t hj
            exact ⟨t, rfl, by rw [pairOf_at e]; exact e⟩
          refine ⟨D0, ts.map V.ref, pairOf H5, rfl, L2.sq_of hD5, hpr, fun ys r srt stb hr0 => ?_⟩
          have sm6 : Same H5 (upd H5 r (.lst ys)) := same_upd hr0
          have ep : ((ts.map V.ref).map (pairOf H5)) = (List.range ks.length).map fun (i : Nat) => (keyf ks true i, (i : Int)) := by
            refine List.ext_getElem? fun j => ?_
            rw [List.getElem?_map, List.getElem?_map, List.getElem?_map]
            by_cases hj : j < ts.length
            · rw [List.getElem?_eq_getElem hj, List.getElem?_range (by omega)]
              obtain ⟨z, hz, e⟩ := hts j _ (List.getElem?_eq_getElem hj)
              show some (pairOf H5 (.ref ts[j])) = some (keyf ks true j, (j : Int))
              rw [pairOf_at e]
              have e2 : ks.getD j 0 = z := by rw [List.getD_eq_getElem?_getD, hz]; rfl
              rw [hsg, e2]
            · rw [List.getElem?_eq_none (by omega), List.getElem?_eq_none (by rw [List.length_range]; omega)]
              rfl
          obtain ⟨os, so, eo⟩ := stab_of_pairs (f := keyf ks true) (n := ks.length) (ps := ys.map (pairOf H5)) (by rw [← ep]; exact stb.perm.map _) (by
            rw [List.pairwise_map]
            exact srt.imp fun {x y} h => SrtO.lexB_no.mp h)
          have hy : ∀ x ∈ ys, ∃ t, x = V.ref t ∧ H5 t = some (.tup [.int (pairOf H5 x).1, .int (pairOf H5 x).2]) := fun x hx => hpr x (stb.perm.mem_iff.mp hx)
          have ly : ys.length ≤ 2000 := by
            rw [stb.perm.length_eq, List.length_map]
            omega
          -- [item for _, item in pairs]
          refine ⟨_, rfl, r, rfl, ⟨_, L2.sq_of upd_same⟩, fun D2 hD2 => ?_⟩
          refine lc_list (K := K) (a := r) (xs := ys) (fun i H' => Same (upd H5 r (.lst ys)) H' ∧ H' D2 = some (.lst ((ys.take i).map fun x => V.int (pairOf H5 x).2))) ⟨same_upd hD2, upd_same⟩ (fun i H' _ h => L2.sq_of (h.1 _ _ upd_same)) ?_ ?_
          · rintro i x H6 hx ⟨s6, h6⟩
            obtain ⟨t, rfl, ht⟩ := hy x (List.mem_of_getElem? hx)
            refine ⟨t, _, rfl, L2.st_of (s6 _ _ (sm6 _ _ ht)), rfl, _, _, rfl, _, _, rfl, rfl, rfl, ?_⟩
            refine ⟨_, rfl, _, h6, ?_, ?_, ?_⟩
            · rw [List.length_map, List.length_take]
              exact Nat.lt_of_le_of_lt (Nat.le_trans (Nat.min_le_right _ _) ly) (by decide)
            · intro b o e
              rw [upd_ne (ne_of_none e hD2)]
              exact s6 _ _ e
            · rw [upd_same, take_more hx, List.map_append]
              rfl
          · rintro H6 ⟨s6, h6⟩
            have e6 : (ys.take ys.length).map (fun x => V.int (pairOf H5 x).2) = nV os := by
              rw [List.take_length]
              have e7 : (ys.map (pairOf H5)).map (fun q => V.int q.2) = nV os := by
                rw [eo, List.map_map]
                rfl
              rw [List.map_map] at e7
              exact e7
            rw [e6] at h6
            exact q D2 os H6 so (sm5.free (sm6.free hD2)) ((sm5.trans sm6).trans s6) h6

    | false =>
      refine ⟨_, rfl, false, rfl, iteF ?_⟩
      have hsg : ∀ j, keyf ks false j = 1 * ks.getD j 0 := fun j => by unfold keyf; rw [if_neg Bool.false_ne_true]; omega
      refine ⟨_, rfl, p, ks.map V.int, rfl, ?_⟩
      rcases hS with hs | hs
      · refine .inl ⟨hs, fun D0 fD => ?_⟩
        refine lc_iteL (K := K) (a := p) (xs := ks.map V.int) (fun i H' => ∃ ts : List Addr, ts.length = i ∧ H' D0 = some (.lst (ts.map V.ref)) ∧ (∀ j t, ts[j]? = some t → ∃ z, ks[j]? = some z ∧ H' t = some (.tup [.int (1 * z), .int (j : Nat)])) ∧ Same H H') ⟨[], rfl, upd_same, fun j t h => (by cases h), same_upd fD⟩ (fun i H' _ ⟨_, _, _, _, h⟩ => h.seq hs) ?_ ?_
        · rintro i x H3 T1 hx ⟨ts, hl, hD, hh, sm⟩ hT1
          obtain ⟨z, hz, rfl⟩ := keys_item hx
          refine ⟨T1, _, rfl, L2.st_of upd_same, rfl, _, _, rfl, _, _, rfl, rfl, rfl, ?_⟩
          refine ⟨_, rfl, _, rfl, _, _, rfl, rfl, .inl (by first | exact ⟨by decide, by decide⟩ | omega), _, rfl, by show 2 ≤ sizeLine; decide, fun t ht => ?_⟩
          have sA : Same H3 (upd H3 T1 (.tup [.int (i : Nat), .int z])) := same_upd hT1
          have sB := sA.trans (same_upd (o := .tup [.int (1 * z), .int (i : Nat)]) ht)
          refine ⟨_, sB _ _ hD, ?_, ts ++ [t], by simp [hl], ?_, ?_, ?_⟩
          · rw [List.length_map, hl]
            have q1 := (List.getElem?_eq_some_iff.mp hz).1
            exact Nat.lt_of_lt_of_le q1 (Nat.le_trans hlen (by decide : 2000 ≤ sizeLine))
          · rw [upd_same, List.map_append]
            rfl
          · intro j u hu
            have nD : u ≠ D0 := fun e => by
              subst e
              by_cases hj : j < ts.length
              · rw [List.getElem?_append_left hj] at hu
                obtain ⟨z2, _, e2⟩ := hh j _ hu
                rw [hD] at e2
                cases e2
              · rw [List.getElem?_append_right (by omega)] at hu
                have e3 : u = t := (List.mem_singleton.mp (List.mem_of_getElem? hu))
                rw [← e3, sA _ _ hD] at ht
                cases ht
            rw [upd_ne nD]
            by_cases hj : j < ts.length
            · rw [List.getElem?_append_left hj] at hu
              obtain ⟨z2, e1, e2⟩ := hh j _ hu
              exact ⟨z2, e1, sB _ _ e2⟩
            · rw [List.getElem?_append_right (by omega)] at hu
              have q1 := (List.getElem?_eq_some_iff.mp hu).1
              have ej : j = i := by
                rw [List.length_singleton] at q1
                omega
              subst ej
              have e3 : u = t := (List.mem_singleton.mp (List.mem_of_getElem? hu))
              rw [e3]
              exact ⟨z, hz, upd_same⟩
          · intro b o e
            rw [upd_ne (ne_of_none e fD)]
            exact sB _ _ (sm _ _ e)
        · rintro H5 ⟨ts, hl, hD, hh, sm⟩
          obtain ⟨hD5, hts, sm5, lts⟩ : H5 D0 = some (.lst (ts.map V.ref)) ∧ (∀ j t, ts[j]? = some t → ∃ z, ks[j]? = some z ∧ H5 t = some (.tup [.int (1 * z), .int (j : Nat)])) ∧ Same H H5 ∧ ts.length = ks.length := ⟨hD, hh, sm, by rw [hl, List.length_map]⟩
          have hpr : ∀ x ∈ ts.map V.ref, ∃ t, x = V.ref t ∧ H5 t = some (.tup [.int (pairOf H5 x).1, .int (pairOf H5 x).2]) := fun x hx => by
            obtain ⟨t, ht, rfl⟩ := List.mem_map.mp hx
            obtain ⟨j, hj⟩ := List.getElem?_of_mem ht
            obtain ⟨z, _, e⟩ := hts j t hj
            exact ⟨t, rfl, by rw [pairOf_at e]; exact e⟩
          refine ⟨D0, ts.map V.ref, pairOf H5, rfl, L2.sq_of hD5, hpr, fun ys r srt stb hr0 => ?_⟩
          have sm6 : Same H5 (upd H5 r (.lst ys)) := same_upd hr0
          have ep : ((ts.map V.ref).map (pairOf H5)) = (List.range ks.length).map fun (i : Nat) => (keyf ks false i, (i : Int)) := by
            refine List.ext_getElem? fun j => ?_
            rw [List.getElem?_map, List.getElem?_map, List.getElem?_map]
            by_cases hj : j < ts.length
            · rw [List.getElem?_eq_getElem hj, List.getElem?_range (by omega)]
              obtain ⟨z, hz, e⟩ := hts j _ (List.getElem?_eq_getElem hj)
              show some (pairOf H5 (.ref ts[j])) = some (keyf ks false j, (j : Int))
              rw [pairOf_at e]
              have e2 : ks.getD j 0 = z := by rw [List.getD_eq_getElem?_getD, hz]; rfl
              rw [hsg, e2]
            · rw [List.getElem?_eq_none (by omega), List.getElem?_eq_none (by rw [List.length_range]; omega)]
              rfl
          obtain ⟨os, so, eo⟩ := stab_of_pairs (f := keyf ks false) (n := ks.length) (ps := ys.map (pairOf H5)) (by rw [← ep]; exact stb.perm.map _) (by
            rw [List.pairwise_map]
            exact srt.imp fun {x y} h => SrtO.lexB_no.mp h)
          have hy : ∀ x ∈ ys, ∃ t, x = V.ref t ∧ H5 t = some (.tup [.int (pairOf H5 x).1, .int (pairOf H5 x).2]) := fun x hx => hpr x (stb.perm.mem_iff.mp hx)
          have ly : ys.length ≤ 2000 := by
            rw [stb.perm.length_eq, List.length_map]
            omega
          -- [item for _, item in pairs]
          refine ⟨_, rfl, r, rfl, ⟨_, L2.sq_of upd_same⟩, fun D2 hD2 => ?_⟩
          refine lc_list (K := K) (a := r) (xs := ys) (fun i H' => Same (upd H5 r (.lst ys)) H' ∧ H' D2 = some (.lst ((ys.take i).map fun x => V.int (pairOf H5 x).2))) ⟨same_upd hD2, upd_same⟩ (fun i H' _ h => L2.sq_of (h.1 _ _ upd_same)) ?_ ?_
          · rintro i x H6 hx ⟨s6, h6⟩
            obtain ⟨t, rfl, ht⟩ := hy x (List.mem_of_getElem? hx)
            refine ⟨t, _, rfl, L2.st_of (s6 _ _ (sm6 _ _ ht)), rfl, _, _, rfl, _, _, rfl, rfl, rfl, ?_⟩
            refine ⟨_, rfl, _, h6, ?_, ?_, ?_⟩
            · rw [List.length_map, List.length_take]
              exact Nat.lt_of_le_of_lt (Nat.le_trans (Nat.min_le_right _ _) ly) (by decide)
            · intro b o e
              rw [upd_ne (ne_of_none e hD2)]
              exact s6 _ _ e
            · rw [upd_same, take_more hx, List.map_append]
              rfl
          · rintro H6 ⟨s6, h6⟩
            have e6 : (ys.take ys.length).map (fun x => V.int (pairOf H5 x).2) = nV os := by
              rw [List.take_length]
              have e7 : (ys.map (pairOf H5)).map (fun q => V.int q.2) = nV os := by
                rw [eo, List.map_map]
                rfl
              rw [List.map_map] at e7
              exact e7
            rw [e6] at h6
            exact q D2 os H6 so (sm5.free (sm6.free hD2)) ((sm5.trans sm6).trans s6) h6

      · refine .inr ⟨hs, fun D0 fD => ?_⟩
        refine lc_iteT (K := K) (a := p) (xs := ks.map V.int) (fun i H' => ∃ ts : List Addr, ts.length = i ∧ H' D0 = some (.lst (ts.map V.ref)) ∧ (∀ j t, ts[j]? = some t → ∃ z, ks[j]? = some z ∧ H' t = some (.tup [.int (1 * z), .int (j : Nat)])) ∧ Same H H') ⟨[], rfl, upd_same, fun j t h => (by cases h), same_upd fD⟩ (fun i H' _ ⟨_, _, _, _, h⟩ => Same.tupS h hs) ?_ ?_
        · rintro i x H3 T1 hx ⟨ts, hl, hD, hh, sm⟩ hT1
          obtain ⟨z, hz, rfl⟩ := keys_item hx
          refine ⟨T1, _, rfl, L2.st_of upd_same, rfl, _, _, rfl, _, _, rfl, rfl, rfl, ?_⟩
          refine ⟨_, rfl, _, rfl, _, _, rfl, rfl, .inl (by first | exact ⟨by decide, by decide⟩ | omega), _, rfl, by show 2 ≤ sizeLine; decide, fun t ht => ?_⟩
          have sA : Same H3 (upd H3 T1 (.tup [.int (i : Nat), .int z])) := same_upd hT1
          have sB := sA.trans (same_upd (o := .tup [.int (1 * z), .int (i : Nat)]) ht)
          refine ⟨_, sB _ _ hD, ?_, ts ++ [t], by simp [hl], ?_, ?_, ?_⟩
          · rw [List.length_map, hl]
            have q1 := (List.getElem?_eq_some_iff.mp hz).1
            exact Nat.lt_of_lt_of_le q1 (Nat.le_trans hlen (by decide : 2000 ≤ sizeLine))
          · rw [upd_same, List.map_append]
            rfl
          · intro j u hu
            have nD : u ≠ D0 := fun e => by
              subst e
              by_cases hj : j < ts.length
              · rw [List.getElem?_append_left hj] at hu
                obtain ⟨z2, _, e2⟩ := hh j _ hu
                rw [hD] at e2
                cases e2
              · rw [List.getElem?_append_right (by omega)] at hu
                have e3 : u = t := (List.mem_singleton.mp (List.mem_of_getElem? hu))
                rw [← e3, sA _ _ hD] at ht
                cases ht
            rw [upd_ne nD]
            by_cases hj : j < ts.length
            · rw [List.getElem?_append_left hj] at hu
              obtain ⟨z2, e1, e2⟩ := hh j _ hu
              exact ⟨z2, e1, sB _ _ e2⟩
            · rw [List.getElem?_append_right (by omega)] at hu
              have q1 := (List.getElem?_eq_some_iff.mp hu).1
              have ej : j = i := by
                rw [List.length_singleton] at q1
                omega
              subst ej
              have e3 : u = t := (List.mem_singleton.mp (List.mem_of_getElem? hu))
              rw [e3]
              exact ⟨z, hz, upd_same⟩
          · intro b o e
            rw [upd_ne (ne_of_none e fD)]
            exact sB _ _ (sm _ _ e)
        · rintro H5 ⟨ts, hl, hD, hh, sm⟩
          obtain ⟨hD5, hts, sm5, lts⟩ : H5 D0 = some (.lst (ts.map V.ref)) ∧ (∀ j t, ts[j]? = some t → ∃ z, ks[j]? = some z ∧ H5 t = some (.tup [.int (1 * z), .int (j : Nat)])) ∧ Same H H5 ∧ ts.length = ks.length := ⟨hD, hh, sm, by rw [hl, List.length_map]⟩
          have hpr : ∀ x ∈ ts.map V.ref, ∃ t, x = V.ref t ∧ H5 t = some (.tup [.int (pairOf H5 x).1, .int (pairOf H5 x).2]) := fun x hx => by
            obtain ⟨t, ht, rfl⟩ := List.mem_map.mp hx
            obtain ⟨j, hj⟩ := List.getElem?_of_mem ht
            obtain ⟨z, _, e⟩ := hts j t hj
            exact ⟨t, rfl, by rw [pairOf_at e]; exact e⟩
          refine ⟨D0, ts.map V.ref, pairOf H5, rfl, L2.sq_of hD5, hpr, fun ys r srt stb hr0 => ?_⟩
          have sm6 : Same H5 (upd H5 r (.lst ys)) := same_upd hr0
          have ep : ((ts.map V.ref).map (pairOf H5)) = (List.range ks.length).map fun (i : Nat) => (keyf ks false i, (i : Int)) := by
            refine List.ext_getElem? fun j => ?_
            rw [List.getElem?_map, List.getElem?_map, List.getElem?_map]
            by_cases hj : j < ts.length
            · rw [List.getElem?_eq_getElem hj, List.getElem?_range (by omega)]
              obtain ⟨z, hz, e⟩ := hts j _ (List.getElem?_eq_getElem hj)
              show some (pairOf H5 (.ref ts[j])) = some (keyf ks false j, (j : Int))
              rw [pairOf_at e]
              have e2 : ks.getD j 0 = z := by rw [List.getD_eq_getElem?_getD, hz]; rfl
              rw [hsg, e2]
            · rw [List.getElem?_eq_none (by omega), List.getElem?_eq_none (by rw [List.length_range]; omega)]
              rfl
          obtain ⟨os, so, eo⟩ := stab_of_pairs (f := keyf ks false) (n := ks.length) (ps := ys.map (pairOf H5)) (by rw [← ep]; exact stb.perm.map _) (by
            rw [List.pairwise_map]
            exact srt.imp fun {x y} h => SrtO.lexB_no.mp h)
          have hy : ∀ x ∈ ys, ∃ t, x = V.ref t ∧ H5 t = some (.tup [.int (pairOf H5 x).1, .int (pairOf H5 x).2]) := fun x hx => hpr x (stb.perm.mem_iff.mp hx)
          have ly : ys.length ≤ 2000 := by
            rw [stb.perm.length_eq, List.length_map]
            omega
          -- [item for _, item in pairs]
          refine ⟨_, rfl, r, rfl, ⟨_, L2.sq_of upd_same⟩, fun D2 hD2 => ?_⟩
          refine lc_list (K := K) (a := r) (xs := ys) (fun i H' => Same (upd H5 r (.lst ys)) H' ∧ H' D2 = some (.lst ((ys.take i).map fun x => V.int (pairOf H5 x).2))) ⟨same_upd hD2, upd_same⟩ (fun i H' _ h => L2.sq_of (h.1 _ _ upd_same)) ?_ ?_
          · rintro i x H6 hx ⟨s6, h6⟩
            obtain ⟨t, rfl, ht⟩ := hy x (List.mem_of_getElem? hx)
            refine ⟨t, _, rfl, L2.st_of (s6 _ _ (sm6 _ _ ht)), rfl, _, _, rfl, _, _, rfl, rfl, rfl, ?_⟩
            refine ⟨_, rfl, _, h6, ?_, ?_, ?_⟩
            · rw [List.length_map, List.length_take]
              exact Nat.lt_of_le_of_lt (Nat.le_trans (Nat.min_le_right _ _) ly) (by decide)
            · intro b o e
              rw [upd_ne (ne_of_none e hD2)]
              exact s6 _ _ e
            · rw [upd_same, take_more hx, List.map_append]
              rfl
          · rintro H6 ⟨s6, h6⟩
            have e6 : (ys.take ys.length).map (fun x => V.int (pairOf H5 x).2) = nV os := by
              rw [List.take_length]
              have e7 : (ys.map (pairOf H5)).map (fun q => V.int q.2) = nV os := by
                rw [eo, List.map_map]
                rfl
              rw [List.map_map] at e7
              exact e7
            rw [e6] at h6
            exact q D2 os H6 so (sm5.free (sm6.free hD2)) ((sm5.trans sm6).trans s6) h6

def spStableOrder : Sp := spStable
theorem ok_stable_order (T : Txt K mg a d) : FnOk P w K mg base CX0 3 a.stable_order d.stable_order P_stable_order spStable := by
  have G_check_keys : FnOk P w K mg base CX0 2 a.check_keys d.check_keys P_check_keys spCheckKeysN := ok_check_keys T
  have G_check_bool : FnOk P w K mg base CX0 1 a.check_bool d.check_bool P_check_bool spCheckBool := ok_check_bool T
  have G_stable : FnOk P w K mg base CX0 1 a.stable d.stable P_stable spStable := ok_stable T
  refine T.f_stable_order.ok sc_stable_order (fun vs H Q E h => ?_) (fun cdv A outer s H vs Q E hr h => ?_)
  · obtain ⟨p, ks, rev, rfl, _⟩ := h
    rfl
  · obtain ⟨p, ks, rev, rfl, hK, hlen, q⟩ := h
    refine ⟨_, (pss_cons (ps_expr (pe_call (dvs := [.int 0, .int 2000]) G_check_keys (hr.mono (by decide)) (by rfl) T.g_check_keys T.k_check_keys T.b_check_keys_2.choose_spec.2 T.b_check_keys_2.choose_spec.1 pass0 (pa_cons (pv 0) pa_nil)))
    (pss_cons (ps_expr (pe_call G_check_bool (hr.mono (by decide)) (by rfl) T.g_check_bool T.k_check_bool T.b_check_bool .nil pass0 (pa_cons pe_str (pa_cons (pv 1) pa_nil))))
    (pss_one (ps_ret (pe_call G_stable (hr.mono (by decide)) (by rfl) T.g_stable T.k_stable T.b_stable .nil pass0 (pa_cons (pv 0) (pa_cons (pv 1) pa_nil))))))), ?_⟩
    refine ⟨_, rfl, p, ks, 0, 2000, rfl, hK, by omega, by omega, fun H1 s1 => ?_⟩
    refine ⟨_, rfl, _, rev, rfl, ?_⟩
    exact ⟨_, rfl, _, rfl, p, ks, rev, rfl, hK.same s1, hlen, fun r os H2 so hr2 s2 h2 => q r os H2 so (s1.free hr2) (s1.trans s2) h2⟩
theorem ok_is_order (T : Txt K mg a d) : FnOk P w K mg base CX0 5 a.is_order d.is_order P_is_order spIsOrder := by
  have G_check_keys : FnOk P w K mg base CX0 2 a.check_keys d.check_keys P_check_keys spCheckKeysN := ok_check_keys T
  have G_check_bool : FnOk P w K mg base CX0 1 a.check_bool d.check_bool P_check_bool spCheckBool := ok_check_bool T
  have G_check_order : FnOk P w K mg base CX0 4 a.check_order d.check_order P_check_order spCheckOrder := ok_check_order T
  have G_stable : FnOk P w K mg base CX0 1 a.stable d.stable P_stable spStable := ok_stable T
  refine T.f_is_order.ok sc_is_order (fun vs H Q E h => ?_) (fun cdv A outer s H vs Q E hr h => ?_)
  · obtain ⟨p, r, ks, bs, rev, rfl, _⟩ := h
    rfl
  · obtain ⟨p, r, ks, bs, rev, rfl, hK, hlen, hO, pm, q⟩ := h
    refine ⟨_, (pss_cons (ps_expr (pe_call (dvs := [.int 0, .int 2000]) G_check_keys (hr.mono (by decide)) (by rfl) T.g_check_keys T.k_check_keys T.b_check_keys_2.choose_spec.2 T.b_check_keys_2.choose_spec.1 pass0 (pa_cons (pv 0) pa_nil)))
    (pss_cons (ps_expr (pe_call G_check_order (hr.mono (by decide)) (by rfl) T.g_check_order T.k_check_order T.b_check_order .nil pass0 (pa_cons (pv 1) (pa_cons (pe_callB call_len_seq (by rfl) T.z_len PySem.boot_len (pa_cons (pv 0) pa_nil)) pa_nil))))
    (pss_cons (ps_expr (pe_call G_check_bool (hr.mono (by decide)) (by rfl) T.g_check_bool T.k_check_bool T.b_check_bool .nil pass0 (pa_cons pe_str (pa_cons (pv 2) pa_nil))))
    (pss_one (ps_ret (pe_cmpR (op_eqD hr.units) (pe_callTy call_list_of (by rfl) T.z_list (by decide +kernel) (pa_cons (pv 1) pa_nil)) (pe_call G_stable (hr.mono (by decide)) (by rfl) T.g_stable T.k_stable T.b_stable .nil pass0 (pa_cons (pv 0) (pa_cons (pv 2) pa_nil))) (nomark _))))))), ?_⟩
    refine ⟨_, rfl, p, ks, 0, 2000, rfl, hK, by omega, by omega, fun H1 s1 => ?_⟩
    have hS1 : SqL K H1 p (ks.map V.int) ∨ SqT K H1 p (ks.map V.int) := (hK.same s1).imp L2.sq_of L2.st_of
    refine ⟨_, rfl, _, rfl, p, _, rfl, hS1, r, bs, ks.length, by rw [List.length_map]; rfl, hO.same s1, pm, hlen, fun H2 s2 => ?_⟩
    refine ⟨_, rfl, _, rev, rfl, ?_⟩
    have s12 := s1.trans s2
    refine ⟨_, rfl, r, nV bs, rfl, (hO.same s12).imp L2.sq_of L2.st_of, fun l hl => ?_⟩
    have s3 : Same H2 (upd H2 l (.lst (nV bs))) := same_upd hl
    have s123 := s12.trans s3
    refine ⟨_, rfl, _, rfl, p, ks, rev, rfl, hK.same s123, hlen, fun t os H4 so ht s4 h4 => ?_⟩
    have hl4 : SqL K H4 l ((bs.map fun (i : Nat) => (i : Int)).map V.int) := by
      rw [← nV_map]
      exact L2.sq_of (s4 _ _ upd_same)
    have ht4 : SqL K H4 t ((os.map fun (i : Nat) => (i : Int)).map V.int) := by
      rw [← nV_map]
      exact L2.sq_of h4
    refine ⟨_, _, dp_ints hl4, dp_ints ht4, shaped_ints _, shaped_ints _, ?_⟩
    have e : PyData.eqv (.list ((bs.map fun (i : Nat) => (i : Int)).map PyData.int)) (.list ((os.map fun (i : Nat) => (i : Int)).map PyData.int)) = decide (bs = os) := by
      rw [eqv_lists]
      exact decide_eq_decide.mpr cast_inj
    rw [e]
    exact q os H4 so (s123.trans s4)
end

end K02

namespace K02
open PySem PySem.Spec PyProof.Rows L2
def spMixed : Sp := fun vs H Q _ => ∃ c e, vs = [.int c, .int e] ∧ ∀ v : Int, Q (.int v) H
def spSource : Sp := fun vs H Q _ => ∃ c, vs = [.int c] ∧ ∀ p x y z, 0 ≤ x → H p = none → Q (.ref p) (upd H p (.lst [.int x, .int y, .int z]))
def spTake : Sp := fun vs H Q _ => ∃ p b, vs = [.ref p, .int b] ∧ Src H p ∧ 0 < b ∧ b.natAbs < 2 ^ 64 ∧ ∀ v x y z : Int, 0 ≤ v → v < b → 0 ≤ x → Q (.int v) (upd H p (.lst [.int x, .int y, .int z]))
section
variable {P : Program} {w : World} {K : PySem.W.Frag} {mg : Str → Option Value} {base : Heap} {a : Ad} {d : Fd}
theorem ok_mixed (T : Txt K mg a d) : FnOk P w K mg base CX0 1 a.mixed d.mixed P_mixed spMixed := by
  refine T.f_mixed.ok sc_mixed (fun vs H Q E h => ?_) (fun cdv A outer s H vs Q E hr h => ?_)
  · obtain ⟨c, e, rfl, _⟩ := h
    rfl
  · obtain ⟨c, e, rfl, q⟩ := h
    refine ⟨_, (pss_cons (ps_set (i := 2) sc_mixed.nd rfl (Or.inl rfl) (pe_op op_mod (pe_callTy call_int1 (by rfl) T.z_int (by decide +kernel) (pa_cons (pe_op op_mul (pe_op op_add (pe_op op_mod (pe_callTy call_int1 (by rfl) T.z_int (by decide +kernel) (pa_cons (pv 0) pa_nil)) pe_int) pe_int) (pe_op op_add (pe_op op_mul (pv 1) pe_int) pe_int)) pa_nil)) pe_int))
    (pss_cons (ps_set (i := 2) sc_mixed.nd rfl (Or.inl rfl) (pe_op op_mod (pe_callTy call_int1 (by rfl) T.z_int (by decide +kernel) (pa_cons (pe_op op_mul (pe_op op_add (pv 2) (pe_op op_mul (pe_op op_mod (pe_callTy call_int1 (by rfl) T.z_int (by decide +kernel) (pa_cons (pe_op op_fdivW (pv 0) pe_int) pa_nil)) pe_int) (pe_op op_add (pv 1) pe_int))) pe_int) pa_nil)) pe_int))
    (pss_cons (ps_set (i := 2) sc_mixed.nd rfl (Or.inl rfl) (pe_op op_mod (pe_callTy call_int1 (by rfl) T.z_int (by decide +kernel) (pa_cons (pe_op op_mul (pv 2) (pe_op op_add (pe_op op_add (pe_op op_fdivW (pv 2) pe_int) pe_int) (pv 1))) pa_nil)) pe_int))
    (pss_one (ps_ret (pe_op op_mod (pe_callTy call_int1 (by rfl) T.z_int (by decide +kernel) (pa_cons (pe_op op_mul (pv 2) (pe_op op_add (pe_op op_fdivW (pv 2) pe_int) pe_int)) pa_nil)) pe_int)))))), ?_⟩
    have k1 := mb c (c := 2147483646) (by decide)
    refine ⟨_, rfl, .inl ⟨_, rfl, _, _, rfl, rfl, (by show (0 : Int) < 2147483646; decide), _, _, rfl, rfl, _, rfl, _, _, rfl, rfl, .inr ⟨by decide, by decide⟩, _, _, rfl, rfl, _, _, rfl, rfl, .inl (lt64 (c := 2147483647) (by omega) (by omega) (by decide)), .inl ⟨_, rfl, _, _, rfl, rfl, (by show (0 : Int) < 2147483647; decide), ?_⟩⟩⟩
    have k2 := mb (c / 2147483646) (c := 1000003) (by decide)
    refine ⟨_, rfl, _, rfl, _, _, rfl, rfl, ⟨by decide, by decide⟩, .inl ⟨_, rfl, _, _, rfl, rfl, (by show (0 : Int) < 1000003; decide), _, rfl, _, _, rfl, rfl, _, _, rfl, rfl, .inl (lt64 (c := 1000003) (by omega) (by omega) (by decide)), _, _, rfl, rfl, _, _, rfl, rfl, .inr ⟨by decide, by decide⟩, .inl ⟨_, rfl, _, _, rfl, rfl, (by show (0 : Int) < 2147483629; decide), ?_⟩⟩⟩
    refine ⟨_, rfl, _, rfl, _, _, rfl, rfl, ⟨by decide, by decide⟩, _, _, rfl, rfl, _, rfl, _, _, rfl, rfl, _, _, rfl, rfl, .inl (mbw _ (c := 2147483629) (by decide) (by decide)), .inl ⟨_, rfl, _, _, rfl, rfl, (by show (0 : Int) < 2147483587; decide), ?_⟩⟩
    refine ⟨_, rfl, _, rfl, _, _, rfl, rfl, ⟨by decide, by decide⟩, _, _, rfl, rfl, _, _, rfl, rfl, .inl (mbw _ (c := 2147483587) (by decide) (by decide)), .inl ⟨_, rfl, _, _, rfl, rfl, (by show (0 : Int) < 2147483563; decide), q _⟩⟩
theorem ok_source (T : Txt K mg a d) : FnOk P w K mg base CX0 1 a.source d.source P_source spSource := by
  refine T.f_source.ok sc_source (fun vs H Q E h => ?_) (fun cdv A outer s H vs Q E hr h => ?_)
  · obtain ⟨c, rfl, _⟩ := h
    rfl
  · obtain ⟨c, rfl, q⟩ := h
    refine ⟨_, (pss_cons (ps_if (pt_cmpR op_ge (pe_callB call_abs (by rfl) T.z_abs (by decide +kernel) (pa_cons (pv 0) pa_nil)) (pe_op op_powW pe_int pe_int) (nomark _)) (pss_one (ps_ret (pe_lst (pa_cons (pe_callB call_abs (by rfl) T.z_abs (by decide +kernel) (pa_cons (pv 0) pa_nil)) (pa_cons (pe_callB call_abs (by rfl) T.z_abs (by decide +kernel) (pa_cons (pv 0) pa_nil)) (pa_cons pe_int pa_nil)))))) pss_nil)
    (pss_one (ps_ret (pe_lst (pa_cons pe_int (pa_cons (pe_callB call_abs (by rfl) T.z_abs (by decide +kernel) (pa_cons (pv 0) pa_nil)) (pa_cons pe_int pa_nil))))))), ?_⟩
    have nn : 0 ≤ (if c < 0 then -c else c) := by split <;> omega
    refine ⟨_, rfl, _, rfl, _, _, rfl, rfl, ⟨by decide, by decide⟩, _, _, rfl, rfl, _, rfl, ite2 (fun _ => ?_) (fun _ => ?_)⟩
    · exact ⟨_, rfl, _, rfl, _, rfl, _, rfl, by show 3 ≤ sizeLine; decide, fun p hp => q p _ _ _ nn hp⟩
    · exact ⟨_, rfl, _, rfl, by show 3 ≤ sizeLine; decide, fun p hp => q p _ _ _ (Int.le_refl 0) hp⟩
theorem ok_take (T : Txt K mg a d) : FnOk P w K mg base CX0 2 a.take d.take P_take spTake := by
  have G_mixed : FnOk P w K mg base CX0 1 a.mixed d.mixed P_mixed spMixed := ok_mixed T
  refine T.f_take.ok sc_take (fun vs H Q E h => ?_) (fun cdv A outer s H vs Q E hr h => ?_)
  · obtain ⟨p, b, rfl, _⟩ := h
    rfl
  · obtain ⟨p, b, rfl, ⟨x, y, z, x0, hp⟩, b0, b64, q⟩ := h
    refine ⟨_, (pss_cons (ps_if (pt_cmpR op_gt (pe_ix ix_list (pv 0) pe_int (fun _ _ => rfl)) pe_int (nomark _)) (pss_cons (ps_set (i := 2) sc_take.nd rfl (Or.inl rfl) (pe_op op_mod (pe_callTy call_int1 (by rfl) T.z_int (by decide +kernel) (pa_cons (pe_ix ix_list (pv 0) pe_int (fun _ _ => rfl)) pa_nil)) (pv 1)))
      (pss_cons (ps_asg (pe_op op_fdivW (pe_ix ix_list (pv 0) pe_int (fun _ _ => rfl)) (pv 1)) (pg_sub (pv 0) pe_int set_list))
      (pss_one (ps_ret (pv 2))))) pss_nil)
    (pss_cons (ps_asg (pe_op op_add (pe_ix ix_list (pv 0) pe_int (fun _ _ => rfl)) pe_int) (pg_sub (pv 0) pe_int set_list))
    (pss_one (ps_ret (pe_op op_mod (pe_callTy call_int1 (by rfl) T.z_int (by decide +kernel) (pa_cons (pe_call G_mixed (hr.mono (by decide)) (by rfl) T.g_mixed T.k_mixed T.b_mixed .nil pass0 (pa_cons (pe_ix ix_list (pv 0) pe_int (fun _ _ => rfl)) (pa_cons (pe_ix ix_list (pv 0) pe_int (fun _ _ => rfl)) pa_nil))) pa_nil)) (pv 1)))))), ?_⟩
    have hS := L2.sq_of (K := K) hp
    have g0 : atI [V.int x, V.int y, V.int z] 0 = some (.int x) := atI_nat (j := 0) rfl
    have g1 : atI [V.int x, V.int y, V.int z] 1 = some (.int y) := atI_nat (j := 1) rfl
    have g2 : atI [V.int x, V.int y, V.int z] 2 = some (.int z) := atI_nat (j := 2) rfl
    refine ⟨_, rfl, p, _, _, _, rfl, rfl, hS, g0, _, _, rfl, rfl, _, rfl, ite2 (fun _ => ?_) (fun _ => ?_)⟩
    · refine ⟨_, rfl, p, _, _, _, rfl, rfl, hS, g0, .inl ⟨_, rfl, _, rfl, _, _, rfl, rfl, b0, ?_⟩⟩
      refine ⟨_, rfl, p, _, _, _, rfl, rfl, hS, g0, _, rfl, _, _, rfl, rfl, wide_div b0 b64 (by decide) (by decide), ?_⟩
      refine ⟨_, rfl, p, _, _, 0, rfl, rfl, hp, rfl, ?_⟩
      exact ⟨_, rfl, q _ _ _ _ (mb x b0).1 (mb x b0).2 (Int.ediv_nonneg x0 (by omega))⟩
    · refine ⟨_, rfl, p, _, _, _, rfl, rfl, hS, g2, _, _, rfl, rfl, ?_⟩
      refine ⟨_, rfl, p, _, _, 2, rfl, rfl, hp, rfl, ?_⟩
      have hp' : upd H p (.lst ([V.int x, V.int y, V.int z].set 2 (.int (z + 1)))) p = some (.lst [V.int x, V.int y, V.int (z + 1)]) := upd_same
      have hS' := L2.sq_of (K := K) hp'
      have g1' : atI [V.int x, V.int y, V.int (z + 1)] 1 = some (.int y) := atI_nat (j := 1) rfl
      have g2' : atI [V.int x, V.int y, V.int (z + 1)] 2 = some (.int (z + 1)) := atI_nat (j := 2) rfl
      refine ⟨_, rfl, p, _, _, _, rfl, rfl, hS', g1', _, rfl, p, _, _, _, rfl, rfl, hS', g2', y, z + 1, rfl, fun v => ?_⟩
      exact .inl ⟨_, rfl, _, rfl, _, _, rfl, rfl, b0, q _ _ _ _ (mb v b0).1 (mb v b0).2 x0⟩
end

def spPart : Sp := fun vs H Q _ => ∃ p n, vs = [.ref p, .int n] ∧ Src H p ∧ 0 ≤ n ∧ n ≤ 100000 ∧ ∀ (r : Addr) (ms : List Int) (H' : Hp), ms.length = n.toNat → H r = none → Dn p H H' → H' r = some (.lst (ms.map V.int)) → Q (.ref r) H'
def spKeys : Sp := fun vs H Q _ => ∃ p n, vs = [.ref p, .int n] ∧ Src H p ∧ 0 ≤ n ∧ n ≤ 90000 ∧ ∀ (r : Addr) (ms : List Int) (H' : Hp), (ms.length : Int) ≤ n → H r = none → Dn p H H' → H' r = some (.lst (ms.map V.int)) → Q (.ref r) H'
theorem four_at {v : Int} (h0 : 0 ≤ v) (h1 : v < 4) : ∃ c : Int, atI [V.int 3, V.int 9, V.int 40, V.int 130] v = some (.int c) ∧ 0 < c ∧ c ≤ 130 := by
  have h : v = 0 ∨ v = 1 ∨ v = 2 ∨ v = 3 := by omega
  rcases h with rfl | rfl | rfl | rfl
  · exact ⟨3, rfl, by decide, by decide⟩
  · exact ⟨9, rfl, by decide, by decide⟩
  · exact ⟨40, rfl, by decide, by decide⟩
  · exact ⟨130, rfl, by decide, by decide⟩
section
variable {P : Program} {w : World} {K : PySem.W.Frag} {mg : Str → Option Value} {base : Heap} {a : Ad} {d : Fd}
theorem ok_part (T : Txt K mg a d) : FnOk P w K mg base CX0 3 a.part d.part P_part spPart := by
  have G_take : FnOk P w K mg base CX0 2 a.take d.take P_take spTake := ok_take T
  refine T.f_part.ok sc_part (fun vs H Q E h => ?_) (fun cdv A outer s H vs Q E hr h => ?_)
  · obtain ⟨p, n, rfl, _⟩ := h
    rfl
  · obtain ⟨p, n, rfl, hs, n0, n1, q⟩ := h
    refine ⟨_, (pss_cons (ps_asg (pe_tup (pa_cons (pe_call G_take (hr.mono (by decide)) (by rfl) T.g_take T.k_take T.b_take .nil pass0 (pa_cons (pv 0) (pa_cons pe_int pa_nil))) (pa_cons (pe_op op_sub (pe_call G_take (hr.mono (by decide)) (by rfl) T.g_take T.k_take T.b_take .nil pass0 (pa_cons (pv 0) (pa_cons pe_int pa_nil))) pe_int) (pa_cons (pe_op op_add pe_int (pe_call G_take (hr.mono (by decide)) (by rfl) T.g_take T.k_take T.b_take .nil pass0 (pa_cons (pv 0) (pa_cons pe_int pa_nil)))) pa_nil)))) (pg_tup rfl (pgs_cons (pg_name (i := 2) sc_part.nd rfl (Or.inl rfl)) (pgs_cons (pg_name (i := 3) sc_part.nd rfl (Or.inr rfl)) (pgs_cons (pg_name (i := 4) sc_part.nd rfl (Or.inr rfl)) pgs_nil)))))
    (pss_cons (ps_if (pt_cmpR op_eq (pv 2) pe_int (nomark _)) (pss_one (ps_ret (pe_lc (own := [("k", 5)]) (g := gName 5) (tt := tYes) rfl sc_part.nd (pi_range1 (by rfl) T.z_range (pa_cons (pv 1) pa_nil)) (blkOk_by (N := N_part) (sc := defScope s_part) (by decide +kernel)) (fun _ _ _ _ _ => pg_name (i := 5) sc_part.nd rfl (Or.inl rfl)) (fun _ _ _ _ _ => pts_nil) (fun _ _ _ _ _ => (pe_op op_add (pv 3) (pe_op op_mul (pv 4) (pv 5))))))) pss_nil)
    (pss_cons (ps_if (pt_cmpR op_eq (pv 2) pe_int (nomark _)) (pss_one (ps_ret (pe_lc (own := [("k", 5)]) (g := gName 5) (tt := tYes) rfl sc_part.nd (pi_range1 (by rfl) T.z_range (pa_cons (pv 1) pa_nil)) (blkOk_by (N := N_part) (sc := defScope s_part) (by decide +kernel)) (fun _ _ _ _ _ => pg_name (i := 5) sc_part.nd rfl (Or.inl rfl)) (fun _ _ _ _ _ => pts_nil) (fun _ _ _ _ _ => (pe_op op_sub (pv 3) (pe_op op_mul (pv 4) (pv 5))))))) pss_nil)
    (pss_cons (ps_if (pt_cmpR op_eq (pv 2) pe_int (nomark _)) (pss_one (ps_ret (pe_op op_rep (pe_lst (pa_cons (pv 3) pa_nil)) (pv 1)))) pss_nil)
    (pss_cons (ps_if (pt_cmpR op_eq (pv 2) pe_int (nomark _)) (pss_one (ps_ret (pe_lc (own := [("k", 5)]) (g := gName 5) (tt := tYes) rfl sc_part.nd (pi_range1 (by rfl) T.z_range (pa_cons (pv 1) pa_nil)) (blkOk_by (N := N_part) (sc := defScope s_part) (by decide +kernel)) (fun _ _ _ _ _ => pg_name (i := 5) sc_part.nd rfl (Or.inl rfl)) (fun _ _ _ _ _ => pts_nil) (fun _ _ _ _ _ => (pe_op op_add (pv 3) (pe_op op_fdivW (pv 5) (pe_op op_add pe_int (pv 4)))))))) pss_nil)
    (pss_cons (ps_if (pt_cmpR op_eq (pv 2) pe_int (nomark _)) (pss_one (ps_ret (pe_lc (own := [("k", 5)]) (g := gName 5) (tt := tYes) rfl sc_part.nd (pi_range1 (by rfl) T.z_range (pa_cons (pv 1) pa_nil)) (blkOk_by (N := N_part) (sc := defScope s_part) (by decide +kernel)) (fun _ _ _ _ _ => pg_name (i := 5) sc_part.nd rfl (Or.inl rfl)) (fun _ _ _ _ _ => pts_nil) (fun _ _ _ _ _ => (pe_op op_sub (pv 3) (pe_op op_fdivW (pv 5) (pe_op op_add pe_int (pv 4)))))))) pss_nil)
    (pss_cons (ps_if (pt_cmpR op_eq (pv 2) pe_int (nomark _)) (pss_one (ps_ret (pe_lc (own := [("k", 5)]) (g := gName 5) (tt := tYes) rfl sc_part.nd (pi_range1 (by rfl) T.z_range (pa_cons (pv 1) pa_nil)) (blkOk_by (N := N_part) (sc := defScope s_part) (by decide +kernel)) (fun _ _ _ _ _ => pg_name (i := 5) sc_part.nd rfl (Or.inl rfl)) (fun _ _ _ _ _ => pts_nil) (fun _ _ _ _ _ => (pe_op op_add (pv 3) (pe_call G_take (hr.mono (by decide)) (by rfl) T.g_take T.k_take T.b_take .nil pass0 (pa_cons (pv 0) (pa_cons (pe_op op_add pe_int (pv 4)) pa_nil)))))))) pss_nil)
    (pss_one (ps_ret (pe_lc (own := [("k", 5)]) (g := gName 5) (tt := tYes) rfl sc_part.nd (pi_range1 (by rfl) T.z_range (pa_cons (pv 1) pa_nil)) (blkOk_by (N := N_part) (sc := defScope s_part) (by decide +kernel)) (fun _ _ _ _ _ => pg_name (i := 5) sc_part.nd rfl (Or.inl rfl)) (fun _ _ _ _ _ => pts_nil) (fun _ _ _ _ _ => (pe_op op_sub (pe_call G_take (hr.mono (by decide)) (by rfl) T.g_take T.k_take T.b_take .nil pass0 (pa_cons (pv 0) (pa_cons pe_int pa_nil))) pe_int)))))))))))), ?_⟩
    refine ⟨_, rfl, p, 7, rfl, hs, by decide, by decide, fun v1 x1 y1 z1 a1 b1 c1 => ?_⟩
    refine ⟨_, rfl, p, 60, rfl, .put c1, by decide, by decide, fun v2 x2 y2 z2 a2 b2 c2 => ?_⟩
    refine ⟨_, _, rfl, rfl, _, rfl, p, 3, rfl, .put c2, by decide, by decide, fun v3 x3 y3 z3 a3 b3 c3 => ?_⟩
    rw [upd_upd, upd_upd]
    refine ⟨_, _, rfl, rfl, by show 3 ≤ sizeLine; decide, fun t ht => ?_⟩
    have d1 : Dn p H (upd (upd H p (.lst [.int x3, .int y3, .int z3])) t (.tup [.int v1, .int (v2 - 30), .int (1 + v3)])) := (Dn.put c3).new ht
    refine ⟨t, _, rfl, L2.st_of upd_same, rfl, _, _, rfl, _, _, rfl, _, _, rfl, rfl, ?_⟩
    generalize upd (upd H p (.lst [.int x3, .int y3, .int z3])) t (.tup [.int v1, .int (v2 - 30), .int (1 + v3)]) = H1 at d1 ⊢
    have nb : n.toNat ≤ 1000000 := by omega
    have fin : ∀ (D : Addr), H1 D = none → ∀ (ms : List Int) (H' : Hp), ms.length = n.toNat → Dn p H1 H' → H' D = some (.lst (ms.map V.int)) → Q (.ref D) H' := fun D hD ms H' hl dr hh =>
      q D ms H' hl (d1.free hD) (d1.trans dr) hh
    have st : (1 + v3).natAbs < 2 ^ 64 := by omega
    refine ⟨_, rfl, rfl, _, rfl, ite2 (fun _ => ?_) (fun _ => ?_)⟩
    · refine ⟨_, rfl, n, rfl, by omega, by omega, fun D hD => lc_ints nb d1.2 hD (fun _ => rfl) (fun k H3 R hk dr h => ?_) (fin D hD)⟩
      exact ⟨_, rfl, _, rfl, _, rfl, _, _, rfl, rfl, .inl ⟨by omega, by omega⟩, _, _, rfl, rfl, h _ _ (.refl dr.2)⟩
    refine ⟨_, rfl, rfl, _, rfl, ite2 (fun _ => ?_) (fun _ => ?_)⟩
    · refine ⟨_, rfl, n, rfl, by omega, by omega, fun D hD => lc_ints nb d1.2 hD (fun _ => rfl) (fun k H3 R hk dr h => ?_) (fin D hD)⟩
      exact ⟨_, rfl, _, rfl, _, rfl, _, _, rfl, rfl, .inl ⟨by omega, by omega⟩, _, _, rfl, rfl, h _ _ (.refl dr.2)⟩
    refine ⟨_, rfl, rfl, _, rfl, ite2 (fun _ => ?_) (fun _ => ?_)⟩
    · refine ⟨_, rfl, by show 1 ≤ sizeLine; decide, fun l hl => ⟨_, rfl, l, n, _, rfl, rfl, upd_same, by omega, by omega, ?_, fun r hn => ?_⟩⟩
      · show 1 * n.toNat ≤ sizeLine
        exact Nat.le_trans (by omega) (by decide : 100000 ≤ sizeLine)
      · have dl : Dn p H1 (upd H1 l (.lst [.int (v2 - 30)])) := (Dn.refl d1.2).new hl
        refine fin r (dl.free hn) (List.replicate n.toNat (v2 - 30)) _ (by simp) (dl.new hn) ?_
        rw [upd_same]
        exact congrArg (fun z => some (HO.lst z)) (rep_flat _ _)
    refine ⟨_, rfl, rfl, _, rfl, ite2 (fun _ => ?_) (fun _ => ?_)⟩
    · refine ⟨_, rfl, n, rfl, by omega, by omega, fun D hD => lc_ints nb d1.2 hD (fun _ => rfl) (fun k H3 R hk dr h => ?_) (fin D hD)⟩
      exact ⟨_, rfl, _, rfl, _, rfl, _, _, rfl, rfl, _, _, rfl, rfl, wide_div (by omega) (b := 64) (by omega) (by decide) (by decide), _, _, rfl, rfl, h _ _ (.refl dr.2)⟩
    refine ⟨_, rfl, rfl, _, rfl, ite2 (fun _ => ?_) (fun _ => ?_)⟩
    · refine ⟨_, rfl, n, rfl, by omega, by omega, fun D hD => lc_ints nb d1.2 hD (fun _ => rfl) (fun k H3 R hk dr h => ?_) (fin D hD)⟩
      exact ⟨_, rfl, _, rfl, _, rfl, _, _, rfl, rfl, _, _, rfl, rfl, wide_div (by omega) (b := 64) (by omega) (by decide) (by decide), _, _, rfl, rfl, h _ _ (.refl dr.2)⟩
    refine ⟨_, rfl, rfl, _, rfl, ite2 (fun _ => ?_) (fun _ => ?_)⟩
    · refine ⟨_, rfl, n, rfl, by omega, by omega, fun D hD => lc_ints nb d1.2 hD (fun _ => rfl) (fun k H3 R hk dr h => ?_) (fin D hD)⟩
      exact ⟨_, rfl, _, rfl, _, rfl, _, _, rfl, rfl, p, _, rfl, dr.2, by omega, by omega, fun v x y z v0 v1 x0 => ⟨_, _, rfl, rfl, h _ _ (.put x0)⟩⟩
    · refine ⟨_, rfl, n, rfl, by omega, by omega, fun D hD => lc_ints nb d1.2 hD (fun _ => rfl) (fun k H3 R hk dr h => ?_) (fin D hD)⟩
      exact ⟨_, rfl, p, 200, rfl, dr.2, by decide, by decide, fun v x y z v0 v1 x0 => ⟨_, _, rfl, rfl, h _ _ (.put x0)⟩⟩
theorem ok_keys (T : Txt K mg a d) : FnOk P w K mg base CX0 4 a.keys d.keys P_keys spKeys := by
  have G_take : FnOk P w K mg base CX0 2 a.take d.take P_take spTake := ok_take T
  have G_part : FnOk P w K mg base CX0 3 a.part d.part P_part spPart := ok_part T
  refine T.f_keys.ok sc_keys (fun vs H Q E h => ?_) (fun cdv A outer s H vs Q E hr h => ?_)
  · obtain ⟨p, n, rfl, _⟩ := h
    rfl
  · obtain ⟨p, n, rfl, hs, n0, n1, q⟩ := h
    refine ⟨_, (pss_cons (ps_par (i := 2) (j := 3) rfl sc_keys.nd rfl rfl (by decide) rfl rfl (pa_cons (pe_call G_take (hr.mono (by decide)) (by rfl) T.g_take T.k_take T.b_take .nil pass0 (pa_cons (pv 0) (pa_cons (pe_op op_add (pv 1) pe_int) pa_nil))) (pa_cons (pe_lst pa_nil) pa_nil)) (by rfl))
    (pss_cons (ps_while PassesOwn.never (pt_cmpR op_lt (pe_callB call_len_seq (by rfl) T.z_len PySem.boot_len (pa_cons (pv 3) pa_nil)) (pv 2) (nomark _))
      (pss_cons (ps_set (i := 4) sc_keys.nd rfl (Or.inl rfl) (pe_op op_sub (pv 2) (pe_callB call_len_seq (by rfl) T.z_len PySem.boot_len (pa_cons (pv 3) pa_nil))))
        (pss_cons (ps_set (i := 5) sc_keys.nd rfl (Or.inl rfl) (pe_op op_add pe_int (pe_call G_take (hr.mono (by decide)) (by rfl) T.g_take T.k_take T.b_take .nil pass0 (pa_cons (pv 0) (pa_cons (pe_ix ix_list (pe_lst (pa_cons pe_int (pa_cons pe_int (pa_cons pe_int (pa_cons pe_int pa_nil))))) (pe_call G_take (hr.mono (by decide)) (by rfl) T.g_take T.k_take T.b_take .nil pass0 (pa_cons (pv 0) (pa_cons pe_int pa_nil))) (fun _ _ => rfl)) pa_nil)))))
        (pss_one (ps_set (i := 3) sc_keys.nd rfl (Or.inl rfl) (pe_op op_catS (pv 3) (pe_call G_part (hr.mono (by decide)) (by rfl) T.g_part T.k_part T.b_part .nil pass0 (pa_cons (pv 0) (pa_cons (pe_ifExp (pt_cmpR op_lt (pv 5) (pv 4) (nomark _)) (pv 5) (pv 4)) pa_nil)))))))))
    (pss_one (ps_ret (pv 3))))), ?_⟩
    refine ⟨_, rfl, _, rfl, _, _, rfl, rfl, p, n + 1, rfl, hs, by omega, by omega, fun many x y z m0 m1 x0 => ?_⟩
    have d1 : Dn p H (upd H p (.lst [.int x, .int y, .int z])) := .put x0
    refine ⟨Nat.zero_le _, fun l0 hl0 => ⟨_, _, rfl, ?_⟩⟩
    refine ⟨fun m σ H' => ∃ (l : Addr) (ms : List Int) (u v : Option V), σ = [some (.ref p), some (.int n), some (.int many), some (.ref l), u, v] ∧ (ms.length : Int) ≤ many ∧ m = (many - ms.length).toNat ∧ Dn p H H' ∧ H l = none ∧ H' l = some (.lst (ms.map V.int)),
      ⟨_, l0, [], none, none, rfl, m0, rfl, d1.new hl0, d1.free hl0, upd_same⟩, ?_⟩
    rintro m σ H2 ⟨l, ms, u, v, rfl, hle, rfl, d2, nl, hl⟩
    have hS := L2.sq_of (K := K) hl
    refine ⟨_, rfl, l, _, rfl, .inl hS, _, rfl, _, _, rfl, rfl, _, rfl, ite2 (fun c => ?_) (fun c => ?_)⟩
    · have c1 : ((ms.map V.int).length : Int) < many := of_decide_eq_true c
      rw [List.length_map] at c1
      refine ⟨_, fun _ _ h => h, ?_⟩
      refine ⟨_, rfl, _, rfl, l, _, rfl, .inl hS, _, _, rfl, rfl, ?_⟩
      refine ⟨_, rfl, by show 4 ≤ sizeLine; decide, fun r hr0 => ?_⟩
      have d3 := (Dn.refl d2.2).new (o := .lst [.int 3, .int 9, .int 40, .int 130]) hr0
      refine ⟨_, rfl, p, 4, rfl, d3.2, by decide, by decide, fun v4 x4 y4 z4 a4 b4 c4 => ?_⟩
      obtain ⟨k, gk, k0, k1⟩ := four_at a4 b4
      have d4 : Dn p H2 _ := d3.trans (.put (x := x4) (y := y4) (z := z4) c4)
      have hr2 : upd (upd H2 r (.lst [.int 3, .int 9, .int 40, .int 130])) p (.lst [.int x4, .int y4, .int z4]) r = some (.lst [.int 3, .int 9, .int 40, .int 130]) := by
        rw [upd_ne (d2.2.ne hr0)]
        exact upd_same
      refine ⟨r, _, _, _, rfl, rfl, L2.sq_of hr2, gk, p, k, rfl, d4.2, k0, by omega, fun v5 x5 y5 z5 a5 b5 c5 => ?_⟩
      have d5 := d4.trans (.put (x := x5) (y := y5) (z := z5) c5)
      refine ⟨_, _, rfl, rfl, ?_⟩
      refine ⟨_, rfl, _, rfl, _, rfl, _, rfl, _, _, rfl, rfl, _, rfl, ite2 (fun e => ⟨_, rfl, ?_⟩) (fun e => ⟨_, rfl, ?_⟩)⟩
      all_goals
        rw [decide_eq_true_eq] at e
        have eM : (ms.map V.int).length = ms.length := List.length_map _
        refine ⟨p, _, rfl, d5.2, by omega, by omega, fun r2 ms2 H6 hl2 hr2 d6 hh2 => ?_⟩
        have d7 := d5.trans d6
        have eL : (ms ++ ms2).length = ms.length + ms2.length := List.length_append
        have hl7 : H6 l = some (.lst (ms.map V.int)) := d7.1 _ _ (hs.ne nl) hl
        refine ⟨l, r2, _, _, rfl, rfl, L2.sq_of hl7, L2.sq_of hh2, ?_, fun r3 hr3 => ?_⟩
        · rw [List.length_map, List.length_map, hl2]
          exact Nat.le_trans (by omega) (by decide : 1000000 ≤ sizeLine)
        · have d8 := d2.trans (d7.new (o := .lst (ms.map V.int ++ ms2.map V.int)) hr3)
          refine ⟨_, by omega, r3, ms ++ ms2, _, _, rfl, ?_, rfl, d8, d2.trans d7 |>.free hr3, ?_⟩
          · omega
          · rw [List.map_append]
            exact upd_same
    · rw [decide_eq_true_eq, List.length_map] at c
      exact ⟨_, rfl, q l ms H2 (by omega) nl d2 hl⟩
end

def spBehind : Sp := fun vs H Q _ => ∃ (x y : Int) (t : Bool), vs = [.int x, .int y, .bl t] ∧ Q (.bl (if t then decide (x < y) else decide (y < x))) H
def spPut : Sp := fun vs H Q _ => ∃ (p : Addr) (ks : List Int) (rev : Bool), vs = [.ref p, .bl rev] ∧ H p = some (.lst (ks.map V.int)) ∧ ks.length ≤ 2000 ∧ ∀ (r : Addr) (os : List Nat) (H' : Hp), Stab (keyf ks rev) ks.length os → H r = none → Same H H' → H' r = some (.lst (nV os)) → Q (.ref r) H'
theorem keyf_behind {ks : List Int} {rev : Bool} {o i : Nat} {x y : Int} (hx : ks[o]? = some x) (hy : ks[i]? = some y) : (if rev then decide (x < y) else decide (y < x)) = decide (keyf ks rev i < keyf ks rev o) := by
  have e1 : ks.getD o 0 = x := by rw [List.getD_eq_getElem?_getD, hx]; rfl
  have e2 : ks.getD i 0 = y := by rw [List.getD_eq_getElem?_getD, hy]; rfl
  unfold keyf
  rw [e1, e2]
  cases rev with
  | true =>
    show decide (x < y) = decide (-y < -x)
    exact decide_eq_decide.mpr (by omega)
  | false => rfl
section
variable {P : Program} {w : World} {K : PySem.W.Frag} {mg : Str → Option Value} {base : Heap} {a : Ad} {d : Fd}
theorem ok_is_behind (T : Txt K mg a d) : FnOk P w K mg base CX0 1 a.is_behind d.is_behind P_is_behind spBehind := by
  refine T.f_is_behind.ok sc_is_behind (fun vs H Q E h => ?_) (fun cdv A outer s H vs Q E hr h => ?_)
  · obtain ⟨x, y, t, rfl, _⟩ := h
    rfl
  · obtain ⟨x, y, t, rfl, q⟩ := h
    refine ⟨_, (pss_one (ps_ret (pe_ifExp (pt_val (pv 2)) (pe_cmpR op_lt (pv 0) (pv 1) (nomark _)) (pe_cmpR op_gt (pv 0) (pv 1) (nomark _))))), ?_⟩
    cases t with
    | true => exact ⟨_, rfl, true, rfl, iteT ⟨_, rfl, _, rfl, x, y, rfl, rfl, q⟩⟩
    | false => exact ⟨_, rfl, false, rfl, iteF ⟨_, rfl, _, rfl, x, y, rfl, rfl, q⟩⟩
theorem ok_put (T : Txt K mg a d) : FnOk P w K mg base CX0 2 a.put d.put P_put spPut := by
  have G_is_behind : FnOk P w K mg base CX0 1 a.is_behind d.is_behind P_is_behind spBehind := ok_is_behind T
  refine T.f_put.ok sc_put (fun vs H Q E h => ?_) (fun cdv A outer s H vs Q E hr h => ?_)
  · obtain ⟨p, ks, rev, rfl, _⟩ := h
    rfl
  · obtain ⟨p, ks, rev, rfl, hp, hlen, q⟩ := h
    refine ⟨_, (pss_cons (ps_set (i := 2) sc_put.nd rfl (Or.inl rfl) (pe_lst pa_nil))
    (pss_cons (ps_for PassesOwn.never rfl (pi_range1 (by rfl) T.z_range (pa_cons (pe_callB call_len_seq (by rfl) T.z_len PySem.boot_len (pa_cons (pv 0) pa_nil)) pa_nil)) (pg_name (i := 3) sc_put.nd rfl (Or.inl rfl))
      (pss_cons (ps_set (i := 4) sc_put.nd rfl (Or.inl rfl) (pe_callB call_len_seq (by rfl) T.z_len PySem.boot_len (pa_cons (pv 2) pa_nil)))
        (pss_cons (ps_while PassesOwn.never (PW.pt (pw_and (pt_cmpR op_gt (pv 4) pe_int (nomark _)) (pw_and1 (pt_val (pe_call G_is_behind (hr.mono (by decide)) (by rfl) T.g_is_behind T.k_is_behind T.b_is_behind .nil pass0 (pa_cons (pe_ix ix_list (pv 0) (pe_ix ix_list (pv 2) (pe_op op_sub (pv 4) pe_int) (fun _ _ => rfl)) (fun _ _ => rfl)) (pa_cons (pe_ix ix_list (pv 0) (pv 3) (fun _ _ => rfl)) (pa_cons (pv 1) pa_nil))))))))
          (pss_one (ps_set (i := 4) sc_put.nd rfl (Or.inl rfl) (pe_op op_sub (pv 4) pe_int))))
        (pss_one (ps_set (i := 2) sc_put.nd rfl (Or.inl rfl) (pe_op op_catS (pe_op op_catS (pe_slice sl_list (pv 2) po_none (po_some (pv 4))) (pe_lst (pa_cons (pv 3) pa_nil))) (pe_slice sl_list (pv 2) (po_some (pv 4)) po_none)))))))
    (pss_one (ps_ret (pv 2))))), ?_⟩
    refine ⟨Nat.zero_le _, fun f0 hf0 => ?_⟩
    have s0 : Same H (upd H f0 (.lst [])) := same_upd hf0
    refine ⟨_, rfl, p, _, rfl, .inl (L2.sq_of (s0 _ _ hp)), _, rfl, by rw [List.length_map]; omega, by rw [List.length_map]; omega, ?_⟩
    have en : (((ks.map V.int).length : Nat) : Int).toNat = ks.length := by rw [List.length_map, Int.toNat_natCast]
    rw [en]
    refine for_range (lo := 0) (n := ks.length) (fun i σ H' => ∃ (f : Addr) (os : List Nat) (u v : Option V), σ = [some (.ref p), some (.bl rev), some (.ref f), u, v] ∧ Stab (keyf ks rev) i os ∧ H' f = some (.lst (nV os)) ∧ H f = none ∧ Same H H')
      ⟨f0, [], none, none, rfl, ⟨.refl _, .nil⟩, upd_same, hf0, s0⟩ ?_ ?_
    · rintro i σ H2 hi ⟨f, os, u, v, rfl, so, hf, nf, sm⟩
      have lo := so.len
      have lV : (nV os).length = i := (List.length_map _).trans lo
      have hp2 := sm _ _ hp
      refine ⟨_, rfl, f, _, rfl, .inl (L2.sq_of hf), ?_⟩
      refine ⟨fun m σ H' => ∃ pl : Nat, σ = [some (.ref p), some (.bl rev), some (.ref f), some (.int (0 + (i : Nat))), some (.int (pl : Int))] ∧ m = pl ∧ pl ≤ i ∧ H' = H2 ∧ ∀ x ∈ os.drop pl, Lx (keyf ks rev) i x,
        ⟨i, i, by rw [lV]; rfl, rfl, Nat.le_refl _, rfl, fun x hx => by rw [List.drop_of_length_le (by omega)] at hx; cases hx⟩, ?_⟩
      rintro m σ H3 ⟨pl, rfl, rfl, hpl, rfl, hb⟩
      have cont : ∀ (N : L2.St → Hp → Prop), (∀ x ∈ os.take m, Lx (keyf ks rev) x i) → (∀ (f' : Addr) (os' : List Nat) (H' : Hp) , Stab (keyf ks rev) (i + 1) os' → H' f' = some (.lst (nV os')) → H f' = none → Same H H' → N [some (.ref p), some (.bl rev), some (.ref f'), some (.int (0 + (i : Nat))), some (.int (m : Int))] H') →
          ∀ a1, H3 a1 = none → ∀ a2, upd H3 a1 (.lst (cutV (nV os) none (some (m : Int)))) a2 = none → ∀ a3, upd (upd H3 a1 (.lst (cutV (nV os) none (some (m : Int))))) a2 (.lst [.int (0 + (i : Nat))]) a3 = none →
          ∀ a4, upd (upd (upd H3 a1 (.lst (cutV (nV os) none (some (m : Int))))) a2 (.lst [.int (0 + (i : Nat))])) a3 (.lst (cutV (nV os) none (some (m : Int)) ++ [.int (0 + (i : Nat))])) a4 = none →
          ∀ a5, upd (upd (upd (upd H3 a1 (.lst (cutV (nV os) none (some (m : Int))))) a2 (.lst [.int (0 + (i : Nat))])) a3 (.lst (cutV (nV os) none (some (m : Int)) ++ [.int (0 + (i : Nat))]))) a4 (.lst (cutV (nV os) (some (m : Int)) none)) a5 = none →
          N [some (.ref p), some (.bl rev), some (.ref a5), some (.int (0 + (i : Nat))), some (.int (m : Int))] (upd (upd (upd (upd (upd H3 a1 (.lst (cutV (nV os) none (some (m : Int))))) a2 (.lst [.int (0 + (i : Nat))])) a3 (.lst (cutV (nV os) none (some (m : Int)) ++ [.int (0 + (i : Nat))]))) a4 (.lst (cutV (nV os) (some (m : Int)) none))) a5 (.lst ((cutV (nV os) none (some (m : Int)) ++ [.int (0 + (i : Nat))]) ++ cutV (nV os) (some (m : Int)) none))) := by
        intro N h1 k a1 n1 a2 n2 a3 n3 a4 n4 a5 n5
        have t4 := ((same_upd n1).trans (same_upd n2)).trans ((same_upd (o := .lst (cutV (nV os) none (some (m : Int)) ++ [.int (0 + (i : Nat))])) n3).trans (same_upd (o := .lst (cutV (nV os) (some (m : Int)) none)) n4))
        refine k a5 _ _ (put_stab so h1 hb) ?_ ((sm.trans t4).free n5) ((sm.trans t4).trans (same_upd n5))
        rw [upd_same, cut_take, cut_drop]
        simp only [nV, List.map_append, List.map_take, List.map_drop, List.map_cons, List.map_nil]
        rw [show (0 + (i : Int)) = (i : Int) from Int.zero_add _]
      by_cases h0 : 0 < m
      · have hm1 : m - 1 < os.length := by omega
        have go : os[m - 1]? = some os[m - 1] := List.getElem?_eq_getElem hm1
        have lo2 : os[m - 1] < i := so.lt (List.getElem_mem hm1)
        generalize os[m - 1] = o at go lo2
        have gk : ks[o]? = some ks[o] := List.getElem?_eq_getElem (by omega)
        have gi : ks[i]? = some ks[i] := List.getElem?_eq_getElem hi
        generalize ks[o] = x at gk
        generalize ks[i] = y at gi
        have A1 : atI (nV os) ((m : Int) - 1) = some (.int (o : Int)) := by
          rw [show ((m : Int) - 1) = ((m - 1 : Nat) : Int) by omega]
          exact atI_nat (by rw [List.getElem?_map, go]; rfl)
        have A2 : atI (ks.map V.int) (o : Int) = some (.int x) := atI_nat (by rw [List.getElem?_map, gk]; rfl)
        have A3 : atI (ks.map V.int) (0 + (i : Nat) : Int) = some (.int y) := by
          rw [Int.zero_add]
          exact atI_nat (by rw [List.getElem?_map, gi]; rfl)
        refine ⟨_, rfl, _, _, rfl, rfl, true, congrArg V.bl (decide_eq_true (by omega)), iteT ?_⟩
        refine ⟨_, rfl, _, rfl, _, rfl, _, _, rfl, rfl, f, _, _, _, rfl, rfl, L2.sq_of hf, A1, p, _, _, _, rfl, rfl, L2.sq_of hp2, A2, _, rfl, _, rfl, p, _, _, _, rfl, rfl, L2.sq_of hp2, A3, _, rfl, x, y, rev, rfl, _, rfl, ?_⟩
        rw [keyf_behind gk gi]
        refine ite2 (fun c => ?_) (fun c => ?_)
        · have c1 := of_decide_eq_true c
          refine ⟨_, fun _ _ h => h, ?_⟩
          refine ⟨_, rfl, _, _, rfl, rfl, m - 1, by omega, m - 1, ?_, rfl, by omega, rfl, fun z hz => ?_⟩
          · have em : ((m - 1 : Nat) : Int) = (m : Int) - 1 := by omega
            rw [em]
            rfl
          · have e : os.drop (m - 1) = o :: os.drop m := by
              rw [List.drop_eq_getElem_cons hm1, show m - 1 + 1 = m by omega]
              have q : os[m - 1] = o := by
                rw [List.getElem?_eq_getElem hm1] at go
                exact Option.some.inj go
              rw [q]
            rw [e] at hz
            rcases List.mem_cons.mp hz with rfl | hz
            · exact .inl c1
            · exact hb z hz
        · have c1 : ¬ keyf ks rev i < keyf ks rev o := fun z => c (decide_eq_true z)
          have ho : Lx (keyf ks rev) o i := by unfold Lx; omega
          have h1 : ∀ z ∈ os.take m, Lx (keyf ks rev) z i := by
            intro z hz
            have e : os.take m = os.take (m - 1) ++ [o] := by
              rw [← take_more go, show m - 1 + 1 = m by omega]
            have sp := so.sort
            rw [← List.take_append_drop m os, List.pairwise_append, e, List.pairwise_append] at sp
            rw [e] at hz
            rcases List.mem_append.mp hz with hz | hz
            · exact (sp.1.2.2 z hz o (List.mem_singleton.mpr rfl)).trans ho
            · rw [List.mem_singleton.mp hz]
              exact ho
          refine ⟨_, rfl, _, rfl, m, rfl, f, _, rfl, L2.sq_of hf, fun a1 n1 => ⟨_, rfl, by show 1 ≤ sizeLine; decide, fun a2 n2 => ⟨a1, a2, _, _, rfl, rfl, L2.sq_of ((same_upd n2) _ _ upd_same), L2.sq_of upd_same, ?_, fun a3 n3 => ⟨_, rfl, _, rfl, m, rfl, f, _, rfl, L2.sq_of ((((same_upd n1).trans (same_upd n2)).trans (same_upd n3)) _ _ hf), fun a4 n4 => ⟨a3, a4, _, _, rfl, rfl, L2.sq_of ((same_upd n4) _ _ upd_same), L2.sq_of upd_same, ?_, fun a5 n5 => ?_⟩⟩⟩⟩⟩
          · have l1 := cutV_length (nV os) none (some (m : Int))
            exact Nat.le_trans (by rw [List.length_singleton]; omega) (by decide : 4000 ≤ sizeLine)
          · have l1 := cutV_length (nV os) none (some (m : Int))
            have l2 := cutV_length (nV os) (some (m : Int)) none
            exact Nat.le_trans (by rw [List.length_append, List.length_singleton]; omega) (by decide : 8000 ≤ sizeLine)
          · exact cont _ h1 (fun f' os' H' a b c e => ⟨f', os', _, _, rfl, a, b, c, e⟩) a1 n1 a2 n2 a3 n3 a4 n4 a5 n5
      · have m0 : m = 0 := by omega
        have h1 : ∀ z ∈ os.take m, Lx (keyf ks rev) z i := fun z hz => by
          rw [m0] at hz
          cases hz
        refine ⟨_, rfl, _, _, rfl, rfl, false, congrArg V.bl (decide_eq_false (by omega)), iteF ?_⟩
        refine iteF ?_
        refine ⟨_, rfl, _, rfl, m, rfl, f, _, rfl, L2.sq_of hf, fun a1 n1 => ⟨_, rfl, by show 1 ≤ sizeLine; decide, fun a2 n2 => ⟨a1, a2, _, _, rfl, rfl, L2.sq_of ((same_upd n2) _ _ upd_same), L2.sq_of upd_same, ?_, fun a3 n3 => ⟨_, rfl, _, rfl, m, rfl, f, _, rfl, L2.sq_of ((((same_upd n1).trans (same_upd n2)).trans (same_upd n3)) _ _ hf), fun a4 n4 => ⟨a3, a4, _, _, rfl, rfl, L2.sq_of ((same_upd n4) _ _ upd_same), L2.sq_of upd_same, ?_, fun a5 n5 => ?_⟩⟩⟩⟩⟩
        · have l1 := cutV_length (nV os) none (some (m : Int))
          exact Nat.le_trans (by rw [List.length_singleton]; omega) (by decide : 4000 ≤ sizeLine)
        · have l1 := cutV_length (nV os) none (some (m : Int))
          have l2 := cutV_length (nV os) (some (m : Int)) none
          exact Nat.le_trans (by rw [List.length_append, List.length_singleton]; omega) (by decide : 8000 ≤ sizeLine)
        · exact cont _ h1 (fun f' os' H' a b c e => ⟨f', os', _, _, rfl, a, b, c, e⟩) a1 n1 a2 n2 a3 n3 a4 n4 a5 n5
    · rintro σ H2 ⟨f, os, u, v, rfl, so, hf, nf, sm⟩
      exact ⟨_, rfl, q f os H2 so nf sm hf⟩
end

end K02

namespace K02
open PySem PySem.Spec PyProof.Rows L2
/-- lists of the same items, each told by its address -/
def Good (os : List Nat) (f p : Addr) (H' : Hp) (qs : List Addr) : Prop := ∀ t ∈ qs, t ≠ f ∧ t ≠ p ∧ ∃ bs : List Nat, bs.Perm os ∧ H' t = some (.lst (nV bs))
def spOrders : Sp := fun vs H Q _ => ∃ (p q : Addr) (os : List Nat), vs = [.ref p, .ref q] ∧ Src H p ∧ q ≠ p ∧ H q = some (.lst (nV os)) ∧ os.length ≤ 2000 ∧ ∀ (r : Addr) (qs : List Addr) (H' : Hp), H r = none → Dn p H H' → H' r = some (.lst (qs.map V.ref)) → qs.length ≤ 100 → (∀ t ∈ qs, ∃ bs : List Nat, bs.Perm os ∧ t ≠ p ∧ H' t = some (.lst (nV bs))) → Q (.ref r) H'
theorem nV_rev (os : List Nat) : (nV os).reverse = nV os.reverse := by
  unfold nV
  rw [List.map_reverse]
theorem nV_at {os : List Nat} {i b : Nat} (h : os[i]? = some b) : atI (nV os) (i : Int) = some (.int (b : Int)) := atI_nat (by rw [List.getElem?_map, h]; rfl)
theorem ixN_nat {n i : Nat} (h : i < n) : ixN n (i : Int) = some i := by
  unfold ixN
  rw [if_pos (by omega), if_pos (by omega), Int.toNat_natCast]
theorem nV_set {os : List Nat} {i b : Nat} : (nV os).set i (.int (b : Int)) = nV (os.set i b) := by
  unfold nV
  rw [List.map_set]
theorem not_lst {qs : List Addr} {bs : List Nat} (h : qs ≠ []) : HO.lst (qs.map V.ref) ≠ HO.lst (nV bs) := by
  intro e
  cases qs with
  | nil => exact h rfl
  | cons q qs =>
    cases bs with
    | nil => exact nomatch e
    | cons b bs => exact nomatch e
theorem erase_perm {ls : List Nat} {k y : Nat} (h : ls[k]? = some y) : (y :: ls.eraseIdx k).Perm ls := by
  have lt := (List.getElem?_eq_some_iff.mp h).1
  have e1 : ls.eraseIdx k = ls.take k ++ ls.drop (k + 1) := List.eraseIdx_eq_take_drop_succ ..
  have e2 : ls = ls.take k ++ y :: ls.drop (k + 1) := by
    have q : ls[k] = y := (List.getElem?_eq_some_iff.mp h).2
    rw [← q, ← List.drop_eq_getElem_cons lt, List.take_append_drop]
  rw [e1]
  conv => rhs; rw [e2]
  exact List.perm_middle.symm
section
variable {P : Program} {w : World} {K : PySem.W.Frag} {mg : Str → Option Value} {base : Heap} {a : Ad} {d : Fd}
theorem ok_orders (T : Txt K mg a d) : FnOk P w K mg base CX0 3 a.orders d.orders P_orders spOrders := by
  have G_take : FnOk P w K mg base CX0 2 a.take d.take P_take spTake := ok_take T
  refine T.f_orders.ok sc_orders (fun vs H Q E h => ?_) (fun cdv A outer s H vs Q E hr h => ?_)
  · obtain ⟨p, q, os, rfl, _⟩ := h
    rfl
  · obtain ⟨p, q, os, rfl, hs, nq, hq, hlen, k⟩ := h
    refine ⟨_, (pss_cons (ps_par (i := 2) (j := 3) rfl sc_orders.nd rfl rfl (by decide) rfl rfl (pa_cons (pe_lst (pa_cons (pv 1) (pa_cons (pe_revL (pv 1)) pa_nil))) (pa_cons (pe_callB call_len_seq (by rfl) T.z_len PySem.boot_len (pa_cons (pv 1) pa_nil)) pa_nil)) (by rfl))
    (pss_cons (ps_for PassesOwn.never rfl (pi_range1 (by rfl) T.z_range (pa_cons pe_int pa_nil)) (pg_name (i := 4) sc_orders.nd rfl (Or.inl rfl))
      (pss_cons (ps_set (i := 5) sc_orders.nd rfl (Or.inl rfl) (pe_callTy call_list_of (by rfl) T.z_list (by decide +kernel) (pa_cons (pv 1) pa_nil)))
        (pss_cons (ps_if (pt_cmpR op_gt (pv 3) pe_int (nomark _)) (pss_cons (ps_set (i := 6) sc_orders.nd rfl (Or.inl rfl) (pe_call G_take (hr.mono (by decide)) (by rfl) T.g_take T.k_take T.b_take .nil pass0 (pa_cons (pv 0) (pa_cons (pv 3) pa_nil))))
          (pss_cons (ps_set (i := 7) sc_orders.nd rfl (Or.inl rfl) (pe_op op_mod (pe_callTy call_int1 (by rfl) T.z_int (by decide +kernel) (pa_cons (pe_op op_add (pe_op op_add (pv 6) pe_int) (pe_ifExp (pt_cmpR op_lt (pv 4) pe_int (nomark _)) pe_int (pe_call G_take (hr.mono (by decide)) (by rfl) T.g_take T.k_take T.b_take .nil pass0 (pa_cons (pv 0) (pa_cons (pe_op op_sub (pv 3) pe_int) pa_nil))))) pa_nil)) (pv 3)))
          (pss_one (ps_asg (pe_tup (pa_cons (pe_ix ix_list (pv 1) (pv 7) (fun _ _ => rfl)) (pa_cons (pe_ix ix_list (pv 1) (pv 6) (fun _ _ => rfl)) pa_nil))) (pg_tup rfl (pgs_cons (pg_sub (pv 5) (pv 6) set_list) (pgs_cons (pg_sub (pv 5) (pv 7) set_list) pgs_nil))))))) pss_nil)
        (pss_one (ps_expr (pe_bm PySem.F.plainAttrs_list PySem.F.slot_list_append PySem.F.type_list_append mt_append (pv 2) (pa_cons (pv 5) pa_nil)))))))
    (pss_cons (ps_par (i := 8) (j := 5) rfl sc_orders.nd rfl rfl (by decide) rfl rfl (pa_cons (pe_callTy call_list_of (by rfl) T.z_list (by decide +kernel) (pa_cons (pv 1) pa_nil)) (pa_cons (pe_lst pa_nil) pa_nil)) (by rfl))
    (pss_cons (ps_while PassesOwn.never (pt_cmpR (op_neD hr.units) (pv 8) (pe_lst pa_nil) (nomark _))
      (pss_one (ps_expr (pe_bm PySem.F.plainAttrs_list PySem.F.slot_list_append PySem.F.type_list_append mt_append (pv 5) (pa_cons (pe_bm PySem.F.plainAttrs_list PySem.F.slot_list_pop PySem.F.type_list_pop mt_popAt (pv 8) (pa_cons (pe_call G_take (hr.mono (by decide)) (by rfl) T.g_take T.k_take T.b_take .nil pass0 (pa_cons (pv 0) (pa_cons (pe_callB call_len_seq (by rfl) T.z_len PySem.boot_len (pa_cons (pv 8) pa_nil)) pa_nil))) pa_nil)) pa_nil)))))
    (pss_one (ps_ret (pe_op op_catS (pv 2) (pe_lst (pa_cons (pv 5) pa_nil))))))))), ?_⟩
    have lV : (nV os).length = os.length := List.length_map _
    refine ⟨_, rfl, _, rfl, q, _, rfl, L2.sq_of hq, fun rv hrv => ?_⟩
    refine ⟨by show 2 ≤ sizeLine; decide, fun f hf => ?_⟩
    have s1 : Same H (upd H rv (.lst (nV os).reverse)) := same_upd hrv
    have s2 := s1.trans (same_upd (o := .lst [.ref q, .ref rv]) hf)
    have fH : H f = none := s1.free hf
    have nqf : q ≠ f := fun e => by rw [e, s1.free hf] at hq; cases hq
    have nrf : rv ≠ f := fun e => by rw [← e, upd_same] at hf; cases hf
    have hq2 := s2 _ _ hq
    have hrv2 : upd (upd H rv (.lst (nV os).reverse)) f (.lst [.ref q, .ref rv]) rv = some (.lst (nV os.reverse)) := by
      rw [upd_ne nrf, upd_same, nV_rev]
    have hf2 : upd (upd H rv (.lst (nV os).reverse)) f (.lst [.ref q, .ref rv]) f = some (.lst ([q, rv].map V.ref)) := upd_same
    refine ⟨_, rfl, q, _, rfl, .inl (L2.sq_of hq2), _, _, rfl, ?_⟩
    have dn0 : Dn p H (upd (upd H rv (.lst (nV os).reverse)) f (.lst [.ref q, .ref rv])) := (Dn.refl hs).same s2
    have g0 : Good os f p (upd (upd H rv (.lst (nV os).reverse)) f (.lst [.ref q, .ref rv])) [q, rv] := by
      intro t ht
      rcases List.mem_cons.mp ht with rfl | ht
      · exact ⟨nqf, nq, os, .refl _, hq2⟩
      · rw [List.mem_singleton.mp ht]
        exact ⟨nrf, hs.ne hrv, os.reverse, List.reverse_perm os, hrv2⟩
    generalize upd (upd H rv (.lst (nV os).reverse)) f (.lst [.ref q, .ref rv]) = H0 at hq2 hf2 dn0 g0 ⊢
    have nfp : f ≠ p := hs.ne fH
    refine ⟨4, rfl, by decide, by decide, for_range (lo := 0) (n := 4) (fun i σ H' => ∃ (qs : List Addr) (u4 u5 u6 u7 u8 : Option V), σ = [some (.ref p), some (.ref q), some (.ref f), some (.int ((nV os).length : Nat)), u4, u5, u6, u7, u8] ∧ Dn p H H' ∧ H' f = some (.lst (qs.map V.ref)) ∧ qs.length = i + 2 ∧ Good os f p H' qs) ⟨[q, rv], _, _, _, _, _, rfl, dn0, hf2, rfl, g0⟩ ?_ ?_⟩
    · rintro i σ H1 hi ⟨qs, u4, u5, u6, u7, u8, rfl, d1, hf1, lq, g1⟩
      have hq1 := d1.1 _ _ nq hq
      refine ⟨_, rfl, q, _, rfl, .inl (L2.sq_of hq1), fun sm hsm => ?_⟩
      have sA : Same H1 (upd H1 sm (.lst (nV os))) := same_upd hsm
      have dA := d1.new (o := .lst (nV os)) hsm
      have hsmA : upd H1 sm (.lst (nV os)) sm = some (.lst (nV os)) := upd_same
      have nsp : sm ≠ p := d1.2.ne hsm
      have nsf : sm ≠ f := fun e => by rw [e, hf1] at hsm; cases hsm
      have nsq : sm ≠ q := fun e => by rw [e, hq1] at hsm; cases hsm
      have nsg : ∀ t ∈ qs, t ≠ sm := fun t ht e => by
        obtain ⟨_, _, bs, _, e2⟩ := g1 t ht
        rw [e, hsm] at e2
        cases e2
      have hfA := sA _ _ hf1
      have hqA := sA _ _ hq1
      have gA : Good os f p (upd H1 sm (.lst (nV os))) qs := fun t ht => by
        obtain ⟨n, n2, bs, pm, e⟩ := g1 t ht
        exact ⟨n, n2, bs, pm, sA _ _ e⟩
      have fsm : H sm = none := d1.free hsm
      generalize upd H1 sm (.lst (nV os)) = HA at dA hsmA hfA hqA gA ⊢
      -- what is appended at the turn's end
      have fin : ∀ (HB : Hp) (bs : List Nat) (N : L2.St → Hp → Prop) (u6 u7 : Option V), Dn p H HB → HB sm = some (.lst (nV bs)) → bs.Perm os → HB f = some (.lst (qs.map V.ref)) → Good os f p HB qs →
          (∀ (qs' : List Addr) (HC : Hp), Dn p H HC → HC f = some (.lst (qs'.map V.ref)) → qs'.length = i + 1 + 2 → Good os f p HC qs' → N [some (.ref p), some (.ref q), some (.ref f), some (.int ((nV os).length : Nat)), some (.int (0 + (i : Nat))), some (.ref sm), u6, u7, u8] HC) →
          N [some (.ref p), some (.ref q), some (.ref f), some (.int ((nV os).length : Nat)), some (.int (0 + (i : Nat))), some (.ref sm), u6, u7, u8] (upd HB f (.lst (qs.map V.ref ++ [.ref sm]))) := by
        intro HB bs N u6 u7 dB hsmB pm hfB gB kN
        refine kN (qs ++ [sm]) _ ⟨fun b o nb e => ?_, dB.2.upd nfp⟩ ?_ (by simp [lq]) ?_
        · rw [upd_ne (ne_of_none e fH)]
          exact dB.1 b o nb e
        · rw [upd_same, List.map_append]
          rfl
        · intro t ht
          rcases List.mem_append.mp ht with ht | ht
          · obtain ⟨n, n2, cs, pc, e⟩ := gB t ht
            exact ⟨n, n2, cs, pc, by rw [upd_ne n]; exact e⟩
          · rw [List.mem_singleton.mp ht]
            exact ⟨nsf, nsp, bs, pm, by rw [upd_ne nsf]; exact hsmB⟩
      refine ⟨_, rfl, _, _, rfl, rfl, _, rfl, ite2 (fun c => ?_) (fun c => ?_)⟩
      · have c1 : (1 : Int) < ((nV os).length : Nat) := of_decide_eq_true c
        rw [lV] at c1
        refine ⟨_, rfl, _, rfl, p, _, rfl, dA.2, by rw [lV]; omega, by rw [lV]; omega, fun t1 x1 y1 z1 a1 b1 e1 => ?_⟩
        rw [lV] at b1
        have dA1 := dA.trans (.put (x := x1) (y := y1) (z := z1) e1)
        have mv : ∀ (HX : Hp) (x y z : Int), 0 ≤ x → HX sm = some (.lst (nV os)) → HX f = some (.lst (qs.map V.ref)) → HX q = some (.lst (nV os)) → Good os f p HX qs →
            upd HX p (.lst [.int x, .int y, .int z]) sm = some (.lst (nV os)) ∧ upd HX p (.lst [.int x, .int y, .int z]) f = some (.lst (qs.map V.ref)) ∧ upd HX p (.lst [.int x, .int y, .int z]) q = some (.lst (nV os)) ∧ Good os f p (upd HX p (.lst [.int x, .int y, .int z])) qs := fun HX x y z _ h1 h2 h3 h4 => by
          refine ⟨by rw [upd_ne nsp]; exact h1, by rw [upd_ne nfp]; exact h2, by rw [upd_ne nq]; exact h3, fun t ht => ?_⟩
          obtain ⟨n, n2, bs, pm, e⟩ := h4 t ht
          exact ⟨n, n2, bs, pm, by rw [upd_ne n2]; exact e⟩
        obtain ⟨m1, m2, m3, m4⟩ := mv HA x1 y1 z1 e1 hsmA hfA hqA gA
        generalize upd HA p (.lst [.int x1, .int y1, .int z1]) = H2 at dA1 m1 m2 m3 m4 ⊢
        -- the swap
        have swap : ∀ (t2 : Int) (H3 : Hp) (N : L2.St → Hp → Prop), 0 ≤ t2 → t2 ≤ (os.length : Int) - 2 → Dn p H H3 → H3 sm = some (.lst (nV os)) → H3 f = some (.lst (qs.map V.ref)) → H3 q = some (.lst (nV os)) → Good os f p H3 qs →
            ∃ i1 j1 : Nat, t1 = (i1 : Int) ∧ (t1 + 1 + t2) % ((nV os).length : Int) = (j1 : Int) ∧ i1 < os.length ∧ j1 < os.length := by
          intro t2 H3 N h0 h1 _ _ _ _ _
          have o0 := mb (t1 + 1 + t2) (c := ((nV os).length : Int)) (by rw [lV]; omega)
          rw [lV] at o0 ⊢
          exact ⟨t1.toNat, ((t1 + 1 + t2) % (os.length : Int)).toNat, by omega, by omega, by omega, by omega⟩
        refine ⟨_, rfl, _, _, rfl, rfl, _, rfl, _, _, rfl, rfl, _, rfl, ite2 (fun c2 => ?_) (fun c2 => ?_)⟩
        · obtain ⟨i1, j1, ei, ej, li, lj⟩ := swap 0 H2 (fun _ _ => True) (by omega) (by omega) dA1 m1 m2 m3 m4
          have gi : os[i1]? = some os[i1] := List.getElem?_eq_getElem li
          have gj : os[j1]? = some os[j1] := List.getElem?_eq_getElem lj
          have ai : atI (nV os) t1 = some (.int (os[i1] : Nat)) := by
            rw [ei]
            exact nV_at gi
          have aj : atI (nV os) ((t1 + 1 + 0) % ((nV os).length : Int)) = some (.int (os[j1] : Nat)) := by
            rw [ej]
            exact nV_at gj
          have xi : ixN (nV os).length t1 = some i1 := by
            rw [ei, lV]
            exact ixN_nat li
          have xj : ixN ((nV os).set i1 (.int (os[j1] : Nat))).length ((t1 + 1 + 0) % ((nV os).length : Int)) = some j1 := by
            rw [ej, List.length_set, lV]
            exact ixN_nat lj
          refine ⟨_, _, rfl, rfl, .inl ⟨_, rfl, _, rfl, _, _, rfl, rfl, by show (0 : Int) < _; rw [lV]; omega, ?_⟩⟩
          refine ⟨_, rfl, _, rfl, q, _, _, _, rfl, rfl, L2.sq_of m3, aj, _, rfl, _, rfl, q, _, _, _, rfl, rfl, L2.sq_of m3, ai, by show 2 ≤ sizeLine; decide, fun tt htt => ?_⟩
          have nts : sm ≠ tt := ne_of_none m1 htt
          have ntf : f ≠ tt := ne_of_none m2 htt
          refine ⟨tt, _, rfl, L2.st_of upd_same, rfl, _, _, rfl, _, rfl, _, rfl, sm, _, _, i1, rfl, rfl, by rw [upd_ne nts]; exact m1, xi, ?_⟩
          refine ⟨_, _, rfl, _, rfl, _, rfl, sm, _, _, j1, rfl, rfl, upd_same, xj, rfl, ?_⟩
          have hfZ : upd (upd (upd H2 tt (.tup [.int (os[j1] : Nat), .int (os[i1] : Nat)])) sm (.lst ((nV os).set i1 (.int (os[j1] : Nat))))) sm (.lst (((nV os).set i1 (.int (os[j1] : Nat))).set j1 (.int (os[i1] : Nat)))) f = some (.lst (qs.map V.ref)) := by
            rw [upd_ne (Ne.symm nsf), upd_ne (Ne.symm nsf), upd_ne ntf]
            exact m2
          refine ⟨_, rfl, .inl ⟨rfl, _, L2.sq_of hfZ⟩, _, rfl, f, _, _, rfl, rfl, hfZ, ?_, ?_⟩
          · rw [List.length_map, lq]
            exact Nat.lt_of_lt_of_le (by omega : i + 2 < 10) (by decide)
          · refine fin _ ((os.set i1 os[j1]).set j1 os[i1]) _ _ _ ⟨fun b o nb e => ?_, ?_⟩ ?_ (List.set_set_perm li lj) hfZ (fun t ht => ?_) (fun qs' HC a b c e => ⟨qs', _, _, _, _, _, rfl, a, b, c, e⟩)
            · rw [upd_ne (ne_of_none e fsm), upd_ne (ne_of_none e fsm)]
              exact (same_upd htt) _ _ (dA1.1 b o nb e)
            · exact ((dA1.2.new htt).upd nsp).upd nsp
            · rw [upd_same, nV_set, nV_set]
            · obtain ⟨n, n2, bs, pm, e⟩ := m4 t ht
              exact ⟨n, n2, bs, pm, by rw [upd_ne (nsg t ht), upd_ne (nsg t ht)]; exact (same_upd htt) _ _ e⟩
        · refine ⟨_, rfl, _, rfl, _, _, rfl, rfl, p, _, rfl, dA1.2, by rw [lV]; omega, by rw [lV]; omega, fun t2 x2 y2 z2 a2 b2 e2 => ?_⟩
          have b3 : t2 ≤ (os.length : Int) - 2 := by
            rw [lV] at b2
            omega
          have dA2 := dA1.trans (.put (x := x2) (y := y2) (z := z2) e2)
          obtain ⟨n1, n2, n3, n4⟩ := mv H2 x2 y2 z2 e2 m1 m2 m3 m4
          generalize upd H2 p (.lst [.int x2, .int y2, .int z2]) = H3 at dA2 n1 n2 n3 n4 ⊢
          obtain ⟨i1, j1, ei, ej, li, lj⟩ := swap t2 H3 (fun _ _ => True) a2 b3 dA2 n1 n2 n3 n4
          have gi : os[i1]? = some os[i1] := List.getElem?_eq_getElem li
          have gj : os[j1]? = some os[j1] := List.getElem?_eq_getElem lj
          have ai : atI (nV os) t1 = some (.int (os[i1] : Nat)) := by
            rw [ei]
            exact nV_at gi
          have aj : atI (nV os) ((t1 + 1 + t2) % ((nV os).length : Int)) = some (.int (os[j1] : Nat)) := by
            rw [ej]
            exact nV_at gj
          have xi : ixN (nV os).length t1 = some i1 := by
            rw [ei, lV]
            exact ixN_nat li
          have xj : ixN ((nV os).set i1 (.int (os[j1] : Nat))).length ((t1 + 1 + t2) % ((nV os).length : Int)) = some j1 := by
            rw [ej, List.length_set, lV]
            exact ixN_nat lj
          refine ⟨_, _, rfl, rfl, .inl ⟨_, rfl, _, rfl, _, _, rfl, rfl, by show (0 : Int) < _; rw [lV]; omega, ?_⟩⟩
          refine ⟨_, rfl, _, rfl, q, _, _, _, rfl, rfl, L2.sq_of n3, aj, _, rfl, _, rfl, q, _, _, _, rfl, rfl, L2.sq_of n3, ai, by show 2 ≤ sizeLine; decide, fun tt htt => ?_⟩
          have nts : sm ≠ tt := ne_of_none n1 htt
          have ntf : f ≠ tt := ne_of_none n2 htt
          refine ⟨tt, _, rfl, L2.st_of upd_same, rfl, _, _, rfl, _, rfl, _, rfl, sm, _, _, i1, rfl, rfl, by rw [upd_ne nts]; exact n1, xi, ?_⟩
          refine ⟨_, _, rfl, _, rfl, _, rfl, sm, _, _, j1, rfl, rfl, upd_same, xj, rfl, ?_⟩
          have hfZ : upd (upd (upd H3 tt (.tup [.int (os[j1] : Nat), .int (os[i1] : Nat)])) sm (.lst ((nV os).set i1 (.int (os[j1] : Nat))))) sm (.lst (((nV os).set i1 (.int (os[j1] : Nat))).set j1 (.int (os[i1] : Nat)))) f = some (.lst (qs.map V.ref)) := by
            rw [upd_ne (Ne.symm nsf), upd_ne (Ne.symm nsf), upd_ne ntf]
            exact n2
          refine ⟨_, rfl, .inl ⟨rfl, _, L2.sq_of hfZ⟩, _, rfl, f, _, _, rfl, rfl, hfZ, ?_, ?_⟩
          · rw [List.length_map, lq]
            exact Nat.lt_of_lt_of_le (by omega : i + 2 < 10) (by decide)
          · refine fin _ ((os.set i1 os[j1]).set j1 os[i1]) _ _ _ ⟨fun b o nb e => ?_, ?_⟩ ?_ (List.set_set_perm li lj) hfZ (fun t ht => ?_) (fun qs' HC a b c e => ⟨qs', _, _, _, _, _, rfl, a, b, c, e⟩)
            · rw [upd_ne (ne_of_none e fsm), upd_ne (ne_of_none e fsm)]
              exact (same_upd htt) _ _ (dA2.1 b o nb e)
            · exact ((dA2.2.new htt).upd nsp).upd nsp
            · rw [upd_same, nV_set, nV_set]
            · obtain ⟨n, n2, bs, pm, e⟩ := n4 t ht
              exact ⟨n, n2, bs, pm, by rw [upd_ne (nsg t ht), upd_ne (nsg t ht)]; exact (same_upd htt) _ _ e⟩
      · refine ⟨_, rfl, .inl ⟨rfl, _, L2.sq_of hfA⟩, _, rfl, f, _, _, rfl, rfl, hfA, ?_, ?_⟩
        · rw [List.length_map, lq]
          exact Nat.lt_of_lt_of_le (by omega : i + 2 < 10) (by decide)
        · exact fin HA os _ _ _ dA hsmA (.refl _) hfA gA (fun qs' HC a b c e => ⟨qs', _, _, _, _, _, rfl, a, b, c, e⟩)
    · rintro σ H1 ⟨qs, u4, u5, u6, u7, u8, rfl, d1, hf1, lq, g1⟩
      have hq1 := d1.1 _ _ nq hq
      refine ⟨_, rfl, q, _, rfl, .inl (L2.sq_of hq1), fun lf hlf => ⟨Nat.zero_le _, fun sm hsm => ⟨_, _, rfl, ?_⟩⟩⟩
      have sA := (same_upd (o := .lst (nV os)) hlf).trans (same_upd (o := .lst []) hsm)
      have nls : lf ≠ sm := fun e => by rw [← e, upd_same] at hsm; cases hsm
      have nlp : lf ≠ p := d1.2.ne hlf
      have nsp : sm ≠ p := (d1.new hlf).2.ne hsm
      have nlf : lf ≠ f := fun e => by rw [e, hf1] at hlf; cases hlf
      have nsf : sm ≠ f := fun e => by rw [e, (same_upd hlf) _ _ hf1] at hsm; cases hsm
      have flf : H lf = none := d1.free hlf
      have fsm : H sm = none := (d1.new hlf).free hsm
      have nlg : ∀ t ∈ qs, t ≠ lf ∧ t ≠ sm := fun t ht => by
        obtain ⟨_, _, bs, _, e2⟩ := g1 t ht
        exact ⟨fun e => (by rw [e, hlf] at e2; cases e2), fun e => (by rw [← e, (same_upd hlf) _ _ e2] at hsm; cases hsm)⟩
      refine ⟨fun m σ H' => ∃ (ls ss : List Nat) (v4 v6 v7 : Option V), σ = [some (.ref p), some (.ref q), some (.ref f), some (.int ((nV os).length : Nat)), v4, some (.ref sm), v6, v7, some (.ref lf)] ∧ m = ls.length ∧ (ss ++ ls).Perm os ∧ H' lf = some (.lst (nV ls)) ∧ H' sm = some (.lst (nV ss)) ∧ Dn p H H' ∧ H' f = some (.lst (qs.map V.ref)) ∧ Good os f p H' qs,
        ⟨_, os, [], _, _, _, rfl, rfl, .refl _, by rw [upd_ne nls]; exact upd_same, upd_same, d1.same sA, sA _ _ hf1, fun t ht => ?_⟩, ?_⟩
      · obtain ⟨n, n2, bs, pm, e⟩ := g1 t ht
        exact ⟨n, n2, bs, pm, sA _ _ e⟩
      rintro m σ H2 ⟨ls, ss, v4, v6, v7, rfl, rfl, pm, hl2, hs2, d2, hf2, g2⟩
      have lsum : ss.length + ls.length = os.length := by rw [← List.length_append, pm.length_eq]
      have hl3 : SqL K H2 lf ((ls.map fun (i : Nat) => (i : Int)).map V.int) := by rw [← nV_map]; exact L2.sq_of hl2
      refine ⟨_, rfl, Nat.zero_le _, fun em hem => ?_⟩
      have sE : Same H2 (upd H2 em (.lst [])) := same_upd hem
      refine ⟨_, .list [], dp_ints (sE.seq hl3), .lst (L2.sq_of upd_same) .nil, shaped_ints _, by decide, _, rfl, ?_⟩
      have ev : PyData.eqv (.list ((ls.map fun (i : Nat) => (i : Int)).map PyData.int)) (.list []) = decide (ls = []) := by
        cases ls with
        | nil => rfl
        | cons l ls => rfl
      rw [ev]
      have nem : ∀ b o, H2 b = some o → b ≠ em := fun b o e => ne_of_none e hem
      cases ls with
      | nil =>
        refine iteF ?_
        refine ⟨_, rfl, _, rfl, Nat.succ_le_of_lt (by decide), fun on hon => ?_⟩
        have sF := sE.trans (same_upd (o := .lst [.ref sm]) hon)
        refine ⟨f, on, _, _, rfl, rfl, L2.sq_of (sF _ _ hf2), L2.sq_of upd_same, ?_, fun r hr3 => ?_⟩
        · rw [List.length_map, lq]
          show 4 + 2 + 1 ≤ sizeLine
          decide
        · have sG := sF.trans (same_upd (o := .lst (qs.map V.ref ++ [.ref sm])) hr3)
          refine k r (qs ++ [sm]) _ ((d2.same sF).free hr3) (d2.same sG) ?_ (by rw [List.length_append, lq]; show 4 + 2 + 1 ≤ 100; decide) fun t ht => ?_
          · rw [upd_same, List.map_append]
            rfl
          · rcases List.mem_append.mp ht with ht | ht
            · obtain ⟨n, n2, bs, pb, e⟩ := g2 t ht
              exact ⟨bs, pb, n2, sG _ _ e⟩
            · rw [List.mem_singleton.mp ht]
              rw [List.append_nil] at pm
              exact ⟨ss, pm, nsp, sG _ _ hs2⟩
      | cons l0 ls =>
        refine iteT ?_
        refine ⟨_, fun _ _ h => h, ?_⟩
        have dE := d2.same sE
        have hlE := sE _ _ hl2
        have hsE := sE _ _ hs2
        have hfE := sE _ _ hf2
        have gE : Good os f p (upd H2 em (.lst [])) qs := fun t ht => by
          obtain ⟨n, n2, bs, pb, e⟩ := g2 t ht
          exact ⟨n, n2, bs, pb, sE _ _ e⟩
        generalize upd H2 em (.lst []) = H3 at dE hlE hsE hfE gE ⊢
        have lV3 : (nV (l0 :: ls)).length = ls.length + 1 := by
          show (List.map _ _).length = _
          rw [List.length_map, List.length_cons]
        refine ⟨_, rfl, .inl ⟨rfl, _, L2.sq_of hsE⟩, _, rfl, .inl ⟨rfl, _, L2.sq_of hlE⟩, _, rfl, _, rfl, lf, _, rfl, .inl (L2.sq_of hlE), p, _, rfl, dE.2, by rw [lV3]; omega, ?_, fun v x y z v0 v1 x0 => ?_⟩
        · rw [List.length_cons] at lsum
          rw [lV3]
          omega
        · rw [lV3] at v1
          obtain ⟨i1, rfl⟩ : ∃ n : Nat, v = (n : Int) := ⟨v.toNat, (Int.toNat_of_nonneg v0).symm⟩
          have li : i1 < (l0 :: ls).length := by
            rw [List.length_cons]
            omega
          have gi : (l0 :: ls)[i1]? = some (l0 :: ls)[i1] := List.getElem?_eq_getElem li
          generalize (l0 :: ls)[i1] = b at gi
          have e1 : upd H3 p (.lst [.int x, .int y, .int z]) lf = some (.lst (nV (l0 :: ls))) := by rw [upd_ne nlp]; exact hlE
          have e2 : upd H3 p (.lst [.int x, .int y, .int z]) sm = some (.lst (nV ss)) := by rw [upd_ne nsp]; exact hsE
          have e3 : upd H3 p (.lst [.int x, .int y, .int z]) f = some (.lst (qs.map V.ref)) := by rw [upd_ne nfp]; exact hfE
          have dG := dE.trans (.put (x := x) (y := y) (z := z) x0)
          have gG : Good os f p (upd H3 p (.lst [.int x, .int y, .int z])) qs := fun t ht => by
            obtain ⟨n, n2, bs, pb, e⟩ := gE t ht
            exact ⟨n, n2, bs, pb, by rw [upd_ne n2]; exact e⟩
          generalize upd H3 p (.lst [.int x, .int y, .int z]) = H4 at e1 e2 e3 dG gG ⊢
          have lt : (i1 : Int) < 2 ^ 63 := by
            rw [List.length_cons] at lsum
            omega
          have si : seqIndex? (i1 : Int) (nV (l0 :: ls)).length = some i1 := by
            rw [lV3]
            exact seqIndex_of (by omega) (by rw [List.length_cons] at li; omega)
          refine ⟨lf, _, _, i1, _, rfl, rfl, e1, by omega, lt, si, by rw [List.getElem?_map, gi]; rfl, ?_⟩
          refine ⟨sm, _, _, rfl, rfl, by rw [upd_ne (Ne.symm nls)]; exact e2, ?_, ?_⟩
          · show (List.map _ _).length < _
            rw [List.length_map]
            exact Nat.lt_of_lt_of_le (by omega : ss.length < 3000) (by decide)
          · have ee : (nV (l0 :: ls)).eraseIdx i1 = nV ((l0 :: ls).eraseIdx i1) := by
              unfold nV
              rw [List.eraseIdx_eq_take_drop_succ, List.eraseIdx_eq_take_drop_succ, List.map_append, List.map_take, List.map_drop]
            rw [ee]
            refine ⟨_, ?_, (l0 :: ls).eraseIdx i1, ss ++ [b], _, _, _, rfl, rfl, ?_, ?_, ?_, ?_, ?_, ?_⟩
            · rw [List.length_eraseIdx_of_lt li, List.length_cons]
              omega
            · rw [List.append_assoc]
              exact (List.Perm.append_left ss (erase_perm gi)).trans pm
            · rw [upd_ne nls, upd_same]
            · rw [upd_same]
              unfold nV
              rw [List.map_append]
              rfl
            · refine ⟨fun c o nc e => ?_, (dG.2.upd nlp).upd nsp⟩
              rw [upd_ne (ne_of_none e fsm), upd_ne (ne_of_none e flf)]
              exact dG.1 c o nc e
            · rw [upd_ne (Ne.symm nsf), upd_ne (Ne.symm nlf)]
              exact e3
            · intro t ht
              obtain ⟨n, n2, bs, pb, e⟩ := gG t ht
              exact ⟨n, n2, bs, pb, by rw [upd_ne (nlg t ht).2, upd_ne (nlg t ht).1]; exact e⟩
end

end K02

namespace K02
open PySem PySem.Spec PyProof.Rows L2
def spWide : Sp := fun vs H Q _ => ∃ p, vs = [.ref p] ∧ Src H p ∧ ∀ (r : Addr) (ms : List Int) (H' : Hp), 129 ≤ ms.length → ms.length ≤ 2000 → H r = none → Dn p H H' → H' r = some (.lst (ms.map V.int)) → Q (.ref r) H'
def spWideRight : Sp := fun vs H Q _ => ∃ p, vs = [.ref p] ∧ Src H p ∧ ∀ H', Dn p H H' → Q (.bl true) H'
theorem swap_ne {os : List Nat} {i : Nat} (nd : os.Nodup) (h1 : i + 1 < os.length) : (os.set i os[i + 1]).set (i + 1) os[i] ≠ os := by
  intro e
  have q : ((os.set i os[i + 1]).set (i + 1) os[i])[i]? = os[i]? := by rw [e]
  rw [List.getElem?_set, if_neg (by omega), List.getElem?_set, if_pos rfl, if_pos (by omega), List.getElem?_eq_getElem (by omega)] at q
  have q2 := (List.getElem_inj nd).mp (Option.some.inj q)
  omega
section
variable {P : Program} {w : World} {K : PySem.W.Frag} {mg : Str → Option Value} {base : Heap} {a : Ad} {d : Fd}
theorem ok_wide (T : Txt K mg a d) : FnOk P w K mg base CX0 4 a.wide d.wide P_wide spWide := by
  have G_take : FnOk P w K mg base CX0 2 a.take d.take P_take spTake := ok_take T
  have G_part : FnOk P w K mg base CX0 3 a.part d.part P_part spPart := ok_part T
  refine T.f_wide.ok sc_wide (fun vs H Q E h => ?_) (fun cdv A outer s H vs Q E hr h => ?_)
  · obtain ⟨p, rfl, _⟩ := h
    rfl
  · obtain ⟨p, rfl, hs, q⟩ := h
    refine ⟨_, (pss_cons (ps_par (i := 1) (j := 2) rfl sc_wide.nd rfl rfl (by decide) rfl rfl (pa_cons (pe_op op_add pe_int (pe_call G_take (hr.mono (by decide)) (by rfl) T.g_take T.k_take T.b_take .nil pass0 (pa_cons (pv 0) (pa_cons pe_int pa_nil)))) (pa_cons (pe_lst pa_nil) pa_nil)) (by rfl))
    (pss_cons (ps_while PassesOwn.never (pt_cmpR op_lt (pe_callB call_len_seq (by rfl) T.z_len PySem.boot_len (pa_cons (pv 2) pa_nil)) (pv 1) (nomark _))
      (pss_one (ps_set (i := 2) sc_wide.nd rfl (Or.inl rfl) (pe_op op_catS (pv 2) (pe_call G_part (hr.mono (by decide)) (by rfl) T.g_part T.k_part T.b_part .nil pass0 (pa_cons (pv 0) (pa_cons (pe_op op_add pe_int (pe_call G_take (hr.mono (by decide)) (by rfl) T.g_take T.k_take T.b_take .nil pass0 (pa_cons (pv 0) (pa_cons pe_int pa_nil)))) pa_nil)))))))
    (pss_one (ps_ret (pe_slice sl_list (pv 2) po_none (po_some (pv 1))))))), ?_⟩
    refine ⟨_, rfl, p, 1872, rfl, hs, by decide, by decide, fun v x y z v0 v1 x0 => ?_⟩
    have d1 : Dn p H (upd H p (.lst [.int x, .int y, .int z])) := .put x0
    refine ⟨_, _, rfl, rfl, Nat.zero_le _, fun l0 hl0 => ⟨_, _, rfl, ?_⟩⟩
    refine ⟨fun m σ H' => ∃ (l : Addr) (ms : List Int), σ = [some (.ref p), some (.int (129 + v)), some (.ref l)] ∧ (ms.length : Int) ≤ 129 + v + 400 ∧ m = (129 + v - ms.length).toNat ∧ Dn p H H' ∧ H l = none ∧ H' l = some (.lst (ms.map V.int)),
      ⟨_, l0, [], rfl, by show (0 : Int) ≤ _; omega, rfl, d1.new hl0, d1.free hl0, upd_same⟩, ?_⟩
    rintro m σ H2 ⟨l, ms, rfl, hle, rfl, d2, nl, hl⟩
    have hS := L2.sq_of (K := K) hl
    have eM : (ms.map V.int).length = ms.length := List.length_map _
    refine ⟨_, rfl, l, _, rfl, .inl hS, _, rfl, _, _, rfl, rfl, _, rfl, ite2 (fun c => ?_) (fun c => ?_)⟩
    · have c1 : ((ms.map V.int).length : Int) < 129 + v := of_decide_eq_true c
      refine ⟨_, fun _ _ h => h, ?_⟩
      refine ⟨_, rfl, _, rfl, _, rfl, p, 400, rfl, d2.2, by decide, by decide, fun v2 x2 y2 z2 a2 b2 c2 => ?_⟩
      have d3 := (Dn.put (H := H2) (x := x2) (y := y2) (z := z2) c2 : Dn p H2 _)
      refine ⟨_, _, rfl, rfl, p, _, rfl, d3.2, by omega, by omega, fun r2 ms2 H6 hl2 hr2 d6 hh2 => ?_⟩
      have d7 := d3.trans d6
      have hl7 : H6 l = some (.lst (ms.map V.int)) := d7.1 _ _ (hs.ne nl) hl
      have eL : (ms ++ ms2).length = ms.length + ms2.length := List.length_append
      refine ⟨l, r2, _, _, rfl, rfl, L2.sq_of hl7, L2.sq_of hh2, ?_, fun r3 hr3 => ?_⟩
      · rw [List.length_map, List.length_map, hl2]
        exact Nat.le_trans (by omega) (by decide : 1000000 ≤ sizeLine)
      · have d8 := d2.trans (d7.new (o := .lst (ms.map V.int ++ ms2.map V.int)) hr3)
        refine ⟨_, by omega, r3, ms ++ ms2, rfl, by omega, rfl, d8, (d2.trans d7).free hr3, ?_⟩
        rw [List.map_append]
        exact upd_same
    · rw [decide_eq_true_eq] at c
      refine ⟨_, rfl, _, rfl, 129 + v, rfl, l, _, rfl, hS, fun r hr2 => ?_⟩
      obtain ⟨n, en⟩ : ∃ n : Nat, 129 + v = (n : Int) := ⟨(129 + v).toNat, by omega⟩
      have ln : (ms.take n).length = n := by
        rw [List.length_take]
        omega
      refine q r (ms.take n) _ (by omega) (by omega) (d2.free hr2) (d2.new hr2) ?_
      rw [upd_same, en, cut_take, List.map_take]
theorem ok_wide_right (T : Txt K mg a d) : FnOk P w K mg base CX0 6 a.wide_right d.wide_right P_wide_right spWideRight := by
  have G_take : FnOk P w K mg base CX0 2 a.take d.take P_take spTake := ok_take T
  have G_wide : FnOk P w K mg base CX0 4 a.wide d.wide P_wide spWide := ok_wide T
  have G_stable_order : FnOk P w K mg base CX0 3 a.stable_order d.stable_order P_stable_order spStable := ok_stable_order T
  have G_is_order : FnOk P w K mg base CX0 5 a.is_order d.is_order P_is_order spIsOrder := ok_is_order T
  refine T.f_wide_right.ok sc_wide_right (fun vs H Q E h => ?_) (fun cdv A outer s H vs Q E hr h => ?_)
  · obtain ⟨p, rfl, _⟩ := h
    rfl
  · obtain ⟨p, rfl, hs, q⟩ := h
    refine ⟨_, (pss_cons (ps_asg (pe_tup (pa_cons (pe_call G_wide (hr.mono (by decide)) (by rfl) T.g_wide T.k_wide T.b_wide .nil pass0 (pa_cons (pv 0) pa_nil)) (pa_cons (pe_cmpR op_eq (pe_call G_take (hr.mono (by decide)) (by rfl) T.g_take T.k_take T.b_take .nil pass0 (pa_cons (pv 0) (pa_cons pe_int pa_nil))) pe_int (nomark _)) pa_nil))) (pg_tup rfl (pgs_cons (pg_name (i := 1) sc_wide_right.nd rfl (Or.inl rfl)) (pgs_cons (pg_name (i := 2) sc_wide_right.nd rfl (Or.inr rfl)) pgs_nil))))
    (pss_cons (ps_par (i := 3) (j := 4) rfl sc_wide_right.nd rfl rfl (by decide) rfl rfl (pa_cons (pe_callTy call_list_of (by rfl) T.z_list (by decide +kernel) (pa_cons (pv 1) pa_nil)) (pa_cons (pe_lc (own := [("item", 5), ("mark", 6)]) (g := gTup K 2 (gCons (gName 5) (gCons (gName 6) gNil))) (tt := tYes) rfl sc_wide_right.nd (pi_enumA (by rfl) T.z_enumerate (pa_cons (pv 1) pa_nil)) (blkOk_by (N := N_wide_right) (sc := defScope s_wide_right) (by decide +kernel)) (fun _ _ _ _ _ => pg_tup rfl (pgs_cons (pg_name (i := 5) sc_wide_right.nd rfl (Or.inl rfl)) (pgs_cons (pg_name (i := 6) sc_wide_right.nd rfl (Or.inl rfl)) pgs_nil))) (fun _ _ _ _ _ => pts_nil) (fun _ _ _ _ _ => (pe_tup (pa_cons (pe_ifExp (pt_val (pv 2)) (pe_un un_neg (pv 6)) (pv 6)) (pa_cons (pv 5) pa_nil))))) pa_nil)) (by rfl))
    (pss_cons (ps_setLc (i := 7) (own := [("mark", 6), ("item", 5)]) (g := gTup K 2 (gCons (gName 6) (gCons (gName 5) gNil))) (tt := tYes) rfl sc_wide_right.nd rfl rfl (sw_true rfl rfl rfl (by decide +kernel)) (pi_list (pe_callB cr_sortedPO (by rfl) T.z_sorted (by decide +kernel) (pa_cons (pv 4) pa_nil))) (blkOk_by (N := N_wide_right) (sc := defScope s_wide_right) (by decide +kernel)) (fun _ _ _ _ _ => pg_tup rfl (pgs_cons (pg_name (i := 6) sc_wide_right.nd rfl (Or.inl rfl)) (pgs_cons (pg_name (i := 5) sc_wide_right.nd rfl (Or.inl rfl)) pgs_nil))) (fun _ _ _ _ _ => pts_nil) (fun _ _ _ _ _ => (pv 5)))
    (pss_cons (ps_if (PW.pt (pw_or (pt_cmpR (op_neD hr.units) (pe_callN G_stable_order (hr.mono (by decide)) (by rfl) T.g_stable_order T.k_stable_order T.kn_stable_order_1_reverse pass0 (pa_cons (pv 1) pa_nil) (pk_cons (pv 2) pk_nil)) (pv 7) (nomark _)) (pw_or1 (pt_cmpR op_notBl (pe_callN G_is_order (hr.mono (by decide)) (by rfl) T.g_is_order T.k_is_order T.kn_is_order_2_reverse pass0 (pa_cons (pv 1) (pa_cons (pv 7) pa_nil)) (pk_cons (pv 2) pk_nil)) pe_bl (nomark _))))) (pss_one (ps_ret pe_bl)) pss_nil)
    (pss_cons (ps_set (i := 8) sc_wide_right.nd rfl (Or.inl rfl) (pe_call G_take (hr.mono (by decide)) (by rfl) T.g_take T.k_take T.b_take .nil pass0 (pa_cons (pv 0) (pa_cons (pe_op op_sub (pe_callB call_len_seq (by rfl) T.z_len PySem.boot_len (pa_cons (pv 7) pa_nil)) pe_int) pa_nil))))
    (pss_cons (ps_asg (pe_tup (pa_cons (pe_ix ix_list (pv 7) (pe_op op_add (pv 8) pe_int) (fun _ _ => rfl)) (pa_cons (pe_ix ix_list (pv 7) (pv 8) (fun _ _ => rfl)) pa_nil))) (pg_tup rfl (pgs_cons (pg_sub (pv 7) (pv 8) set_list) (pgs_cons (pg_sub (pv 7) (pe_op op_add (pv 8) pe_int) set_list) pgs_nil))))
    (pss_one (ps_ret (pe_and (pe_cmpR op_isBl (pe_callN G_is_order (hr.mono (by decide)) (by rfl) T.g_is_order T.k_is_order T.kn_is_order_2_reverse pass0 (pa_cons (pv 1) (pa_cons (pv 7) pa_nil)) (pk_cons (pv 2) pk_nil)) pe_bl (nomark _)) (pe_one (pe_cmpR (op_eqD hr.units) (pv 1) (pv 3) (nomark _)))))))))))), ?_⟩
    refine ⟨_, rfl, p, rfl, hs, fun m ks H1 l1 hlen fm d1 hm => ?_⟩
    refine ⟨_, rfl, p, 2, rfl, d1.2, by decide, by decide, fun v x y z v0 v1 x0 => ?_⟩
    have d2 := d1.trans (.put (x := x) (y := y) (z := z) x0)
    have nm : m ≠ p := hs.ne fm
    have hm2 : upd H1 p (.lst [.int x, .int y, .int z]) m = some (.lst (ks.map V.int)) := by rw [upd_ne nm]; exact hm
    generalize upd H1 p (.lst [.int x, .int y, .int z]) = H2 at d2 hm2 ⊢
    refine ⟨rfl, by show 2 ≤ sizeLine; decide, fun tp htp => ?_⟩
    have hm3 := (same_upd (o := .tup [.ref m, .bl (decide (V.int v = V.int 0))]) htp) _ _ hm2
    have d3 := d2.new (o := .tup [.ref m, .bl (decide (V.int v = V.int 0))]) htp
    refine ⟨tp, _, rfl, L2.st_of upd_same, rfl, _, _, rfl, _, _, rfl, rfl, ?_⟩
    generalize upd H2 tp (.tup [.ref m, .bl (decide (V.int v = V.int 0))]) = H3' at hm3 d3 ⊢
    refine ⟨_, rfl, m, _, rfl, .inl (L2.sq_of hm3), fun hd hhd => ?_⟩
    have hm4 := (same_upd (o := .lst (ks.map V.int)) hhd) _ _ hm3
    have d4 := d3.new (o := .lst (ks.map V.int)) hhd
    have hh4 : upd H3' hd (.lst (ks.map V.int)) hd = some (.lst (ks.map V.int)) := upd_same
    generalize upd H3' hd (.lst (ks.map V.int)) = H0 at hm4 d4 hh4 ⊢
    obtain ⟨rev, hrev⟩ : ∃ rev, rev = decide (V.int v = V.int 0) := ⟨_, rfl⟩
    have sg : start N_wide_right [V.ref p] = [some (.ref p), none, none, none, none, none, none, none, none] := rfl
    refine ⟨_, rfl, m, ks.map V.int, rfl, .inl ⟨L2.sq_of hm4, fun D0 fD => ?_⟩⟩
    obtain ⟨PvQ, ePv⟩ : ∃ PvQ : Nat → Hp → Prop, PvQ = fun i H' => ∃ ts : List Addr, ts.length = i ∧ H' D0 = some (.lst (ts.map V.ref)) ∧ (∀ j t, ts[j]? = some t → H' t = some (.tup [.int (keyf ks rev j), .int (j : Nat)])) ∧ Same H0 H' := ⟨_, rfl⟩
    have hw : ∀ (b : Bool), b = rev → True := fun _ _ => trivial
    refine lc_iteL (K := K) (a := m) (xs := ks.map V.int) PvQ ?_ ?_ ?_ ?_
    · rw [ePv]
      exact ⟨[], rfl, upd_same, fun j t h => (by cases h), same_upd fD⟩
    · intro i H' _ h
      rw [ePv] at h
      obtain ⟨_, _, _, _, h⟩ := h
      exact h.seq (L2.sq_of hm4)
    · intro i x H3 T1 hx hP hT1
      rw [← hrev]
      rw [ePv] at hP
      obtain ⟨ts, hl, hD, hh, sm⟩ := hP
      obtain ⟨z, hz, rfl⟩ := keys_item hx
      refine ⟨T1, _, rfl, L2.st_of upd_same, rfl, _, _, rfl, _, _, rfl, rfl, rfl, ?_⟩
      have fin : ∀ v : Int, v = keyf ks rev i → ∀ t, upd H3 T1 (.tup [.int (i : Nat), .int z]) t = none → ∃ acc, upd (upd H3 T1 (.tup [.int (i : Nat), .int z])) t (.tup [.int v, .int (i : Nat)]) D0 = some (.lst acc) ∧ acc.length < sizeLine ∧ PvQ (i + 1) (upd (upd (upd H3 T1 (.tup [.int (i : Nat), .int z])) t (.tup [.int v, .int (i : Nat)])) D0 (.lst (acc ++ [.ref t]))) := by
        intro v ev t ht
        have sA : Same H3 (upd H3 T1 (.tup [.int (i : Nat), .int z])) := same_upd hT1
        have sB := sA.trans (same_upd (o := .tup [.int v, .int (i : Nat)]) ht)
        refine ⟨_, sB _ _ hD, ?_, ?_⟩
        rotate_left
        rw [ePv]
        refine ⟨ts ++ [t], by simp [hl], ?_, ?_, ?_⟩
        rotate_right
        · rw [List.length_map, hl]
          have q1 := (List.getElem?_eq_some_iff.mp hz).1
          exact Nat.lt_of_lt_of_le q1 (Nat.le_trans hlen (by decide : 2000 ≤ sizeLine))
        · rw [upd_same, List.map_append]
          rfl
        · intro j u hu
          have nD : u ≠ D0 := fun e => by
            subst e
            by_cases hj : j < ts.length
            · rw [List.getElem?_append_left hj] at hu
              have e2 := hh j _ hu
              rw [hD] at e2
              cases e2
            · rw [List.getElem?_append_right (by omega)] at hu
              have e3 : u = t := (List.mem_singleton.mp (List.mem_of_getElem? hu))
              rw [← e3, sA _ _ hD] at ht
              cases ht
          rw [upd_ne nD]
          by_cases hj : j < ts.length
          · rw [List.getElem?_append_left hj] at hu
            exact sB _ _ (hh j _ hu)
          · rw [List.getElem?_append_right (by omega)] at hu
            have q1 := (List.getElem?_eq_some_iff.mp hu).1
            have ej : j = i := by
              rw [List.length_singleton] at q1
              omega
            subst ej
            have e3 : u = t := (List.mem_singleton.mp (List.mem_of_getElem? hu))
            rw [e3, ← ev]
            exact upd_same
        · intro b o e
          rw [upd_ne (ne_of_none e fD)]
          exact sB _ _ (sm _ _ e)
      have ek : ks.getD i 0 = z := by rw [List.getD_eq_getElem?_getD, hz]; rfl
      refine ⟨_, rfl, rev, rfl, ?_⟩
      cases rev with
      | true => exact iteT ⟨_, rfl, _, rfl, _, rfl, by show 2 ≤ sizeLine; decide, fun t ht => fin _ (by unfold keyf; rw [ek]; rfl) t ht⟩
      | false => exact iteF ⟨_, rfl, _, rfl, by show 2 ≤ sizeLine; decide, fun t ht => fin _ (by unfold keyf; rw [ek]; rfl) t ht⟩
    · intro H5 hP
      rw [ePv] at hP
      obtain ⟨ts, hl, hD5, hts, sm5⟩ := hP
      rw [← hrev]
      have lts : ts.length = ks.length := by rw [hl, List.length_map]
      refine ⟨_, _, rfl, ?_⟩
      have hpr : ∀ x ∈ ts.map V.ref, ∃ t, x = V.ref t ∧ H5 t = some (.tup [.int (pairOf H5 x).1, .int (pairOf H5 x).2]) := fun x hx => by
        obtain ⟨t, ht, rfl⟩ := List.mem_map.mp hx
        obtain ⟨j, hj⟩ := List.getElem?_of_mem ht
        have e := hts j t hj
        exact ⟨t, rfl, by rw [pairOf_at e]; exact e⟩
      refine ⟨_, rfl, D0, ts.map V.ref, pairOf H5, rfl, L2.sq_of hD5, hpr, fun ys r srt stb hr0 => ?_⟩
      have sm6 : Same H5 (upd H5 r (.lst ys)) := same_upd hr0
      have ep : ((ts.map V.ref).map (pairOf H5)) = (List.range ks.length).map fun (i : Nat) => (keyf ks rev i, (i : Int)) := by
        refine List.ext_getElem? fun j => ?_
        rw [List.getElem?_map, List.getElem?_map, List.getElem?_map]
        by_cases hj : j < ts.length
        · rw [List.getElem?_eq_getElem hj, List.getElem?_range (by omega)]
          have e := hts j _ (List.getElem?_eq_getElem hj)
          show some (pairOf H5 (.ref ts[j])) = some (keyf ks rev j, (j : Int))
          rw [pairOf_at e]
        · rw [List.getElem?_eq_none (by omega), List.getElem?_eq_none (by rw [List.length_range]; omega)]
          rfl
      obtain ⟨os, so, eo⟩ := stab_of_pairs (f := keyf ks rev) (n := ks.length) (ps := ys.map (pairOf H5)) (by rw [← ep]; exact stb.perm.map _) (by
        rw [List.pairwise_map]
        exact srt.imp fun {x y} h => SrtO.lexB_no.mp h)
      have hy : ∀ x ∈ ys, ∃ t, x = V.ref t ∧ H5 t = some (.tup [.int (pairOf H5 x).1, .int (pairOf H5 x).2]) := fun x hx => hpr x (stb.perm.mem_iff.mp hx)
      have ly : ys.length ≤ 2000 := by
        rw [stb.perm.length_eq, List.length_map]
        omega
      refine ⟨r, rfl, ⟨_, L2.sq_of upd_same⟩, fun D2 hD2 => ?_⟩
      refine lc_list (K := K) (a := r) (xs := ys) (fun i H' => Same (upd H5 r (.lst ys)) H' ∧ H' D2 = some (.lst ((ys.take i).map fun x => V.int (pairOf H5 x).2))) ⟨same_upd hD2, upd_same⟩ (fun i H' _ h => L2.sq_of (h.1 _ _ upd_same)) ?_ ?_
      · rintro i x H6 hx ⟨s6, h6⟩
        obtain ⟨t, rfl, ht⟩ := hy x (List.mem_of_getElem? hx)
        refine ⟨t, _, rfl, L2.st_of (s6 _ _ (sm6 _ _ ht)), rfl, _, _, rfl, _, _, rfl, rfl, rfl, ?_⟩
        refine ⟨_, rfl, _, h6, ?_, ?_, ?_⟩
        · rw [List.length_map, List.length_take]
          exact Nat.lt_of_le_of_lt (Nat.le_trans (Nat.min_le_right _ _) ly) (by decide)
        · intro b o e
          rw [upd_ne (ne_of_none e hD2)]
          exact s6 _ _ e
        · rw [upd_same, take_more hx, List.map_append]
          rfl
      · rintro H6 ⟨s6, h6⟩
        have e6 : (ys.take ys.length).map (fun x => V.int (pairOf H5 x).2) = nV os := by
          rw [List.take_length]
          have e7 : (ys.map (pairOf H5)).map (fun q => V.int q.2) = nV os := by
            rw [eo, List.map_map]
            rfl
          rw [List.map_map] at e7
          exact e7
        rw [e6] at h6
        have sAll := (sm5.trans sm6).trans s6
        have hm6 := sAll _ _ hm4
        have hh6 := sAll _ _ hh4
        have d6 := d4.same sAll
        have lo := so.len
        have nD2 : D2 ≠ p := ((d4.same (sm5.trans sm6)).2.ne hD2)
        -- stable_order(marks, reverse=is_turned) != due
        refine ⟨_, rfl, _, rfl, rfl, rfl, m, ks, rev, rfl, .inl hm6, hlen, fun g os2 H7 so2 fg s7 hg => ?_⟩
        have eos : os2 = os := so2.uniq so
        subst eos
        have ig : SqL K H7 g ((os2.map fun (i : Nat) => (i : Int)).map V.int) := by rw [← nV_map]; exact L2.sq_of hg
        have iD : SqL K H7 D2 ((os2.map fun (i : Nat) => (i : Int)).map V.int) := by rw [← nV_map]; exact L2.sq_of (s7 _ _ h6)
        refine ⟨_, rfl, _, _, dp_ints ig, dp_ints iD, shaped_ints _, shaped_ints _, false, by rw [eqv_ints]; rfl, iteF ?_⟩
        refine ⟨_, rfl, _, rfl, _, rfl, rfl, rfl, m, D2, ks, os2, rev, rfl, .inl (s7 _ _ hm6), hlen, .inl (s7 _ _ h6), so2.perm, fun os3 H8 so3 s8 => ?_⟩
        have eos3 : os3 = os2 := so3.uniq so2
        subst eos3
        refine ⟨_, _, rfl, rfl, false, congrArg V.bl (by simp), iteF ?_⟩
        have d8 := (d6.same s7).same s8
        have hD8 := (s7.trans s8) _ _ h6
        have lV : (nV os3).length = ks.length := (List.length_map _).trans lo
        -- the swap
        refine ⟨_, rfl, _, rfl, D2, _, rfl, .inl (L2.sq_of hD8), _, _, rfl, rfl, p, _, rfl, d8.2, by rw [lV]; omega, by rw [lV]; omega, fun t1 x1 y1 z1 a1 b1 e1 => ?_⟩
        rw [lV] at b1
        have d9 := d8.trans (.put (x := x1) (y := y1) (z := z1) e1)
        have nmp := nm
        have hm9 : upd H8 p (.lst [.int x1, .int y1, .int z1]) m = some (.lst (ks.map V.int)) := by rw [upd_ne nm]; exact (s7.trans s8) _ _ hm6
        have nhp : hd ≠ p := d3.2.ne hhd
        have hh9 : upd H8 p (.lst [.int x1, .int y1, .int z1]) hd = some (.lst (ks.map V.int)) := by rw [upd_ne nhp]; exact (s7.trans s8) _ _ hh6
        have hD9 : upd H8 p (.lst [.int x1, .int y1, .int z1]) D2 = some (.lst (nV os3)) := by rw [upd_ne nD2]; exact hD8
        generalize upd H8 p (.lst [.int x1, .int y1, .int z1]) = H9 at d9 hm9 hh9 hD9 ⊢
        obtain ⟨i1, rfl⟩ : ∃ n : Nat, t1 = (n : Int) := ⟨t1.toNat, (Int.toNat_of_nonneg a1).symm⟩
        have li : i1 < os3.length := by omega
        have lj : i1 + 1 < os3.length := by omega
        have ai : atI (nV os3) (i1 : Int) = some (.int (os3[i1] : Nat)) := nV_at (List.getElem?_eq_getElem li)
        have aj : atI (nV os3) ((i1 : Int) + 1) = some (.int (os3[i1 + 1] : Nat)) := nV_at (i := i1 + 1) (List.getElem?_eq_getElem lj)
        have xi : ixN (nV os3).length (i1 : Int) = some i1 := by
          rw [lV]
          exact ixN_nat (by omega)
        have xj : ixN ((nV os3).set i1 (.int (os3[i1 + 1] : Nat))).length ((i1 : Int) + 1) = some (i1 + 1) := by
          rw [List.length_set, lV]
          exact ixN_nat (i := i1 + 1) (by omega)
        refine ⟨_, rfl, _, rfl, _, _, rfl, rfl, D2, _, _, _, rfl, rfl, L2.sq_of hD9, aj, _, rfl, _, rfl, D2, _, _, _, rfl, rfl, L2.sq_of hD9, ai, by show 2 ≤ sizeLine; decide, fun tt htt => ?_⟩
        have st := same_upd (o := .tup [.int (os3[i1 + 1] : Nat), .int (os3[i1] : Nat)]) htt
        have ntD : D2 ≠ tt := ne_of_none hD9 htt
        refine ⟨tt, _, rfl, L2.st_of upd_same, rfl, _, _, rfl, _, rfl, _, rfl, D2, _, _, i1, rfl, rfl, st _ _ hD9, xi, ?_⟩
        refine ⟨_, _, rfl, _, rfl, _, rfl, _, _, rfl, rfl, D2, _, _, i1 + 1, rfl, rfl, upd_same, xj, rfl, ?_⟩
        have nmD : m ≠ D2 := fun e => by
          have hm5 := (sm5.trans sm6) _ _ hm4
          rw [e, hD2] at hm5
          cases hm5
        have nhD : hd ≠ D2 := fun e => by
          have hh5 := (sm5.trans sm6) _ _ hh4
          rw [e, hD2] at hh5
          cases hh5
        have hmZ : upd (upd (upd H9 tt (.tup [.int (os3[i1 + 1] : Nat), .int (os3[i1] : Nat)])) D2 (.lst ((nV os3).set i1 (.int (os3[i1 + 1] : Nat))))) D2 (.lst (((nV os3).set i1 (.int (os3[i1 + 1] : Nat))).set (i1 + 1) (.int (os3[i1] : Nat)))) m = some (.lst (ks.map V.int)) := by
          rw [upd_ne nmD, upd_ne nmD]
          exact st _ _ hm9
        have hhZ : upd (upd (upd H9 tt (.tup [.int (os3[i1 + 1] : Nat), .int (os3[i1] : Nat)])) D2 (.lst ((nV os3).set i1 (.int (os3[i1 + 1] : Nat))))) D2 (.lst (((nV os3).set i1 (.int (os3[i1 + 1] : Nat))).set (i1 + 1) (.int (os3[i1] : Nat)))) hd = some (.lst (ks.map V.int)) := by
          rw [upd_ne nhD, upd_ne nhD]
          exact st _ _ hh9
        have pmS : ((os3.set i1 os3[i1 + 1]).set (i1 + 1) os3[i1]).Perm (List.range ks.length) := (List.set_set_perm li lj).trans so3.perm
        refine ⟨_, rfl, _, rfl, _, rfl, rfl, rfl, m, D2, ks, (os3.set i1 os3[i1 + 1]).set (i1 + 1) os3[i1], rev, rfl, .inl hmZ, hlen, .inl (by rw [upd_same, nV_set, nV_set]), pmS, fun os4 H10 so4 s10 => ?_⟩
        have eos4 : os4 = os3 := so4.uniq so3
        subst eos4
        refine ⟨_, _, rfl, rfl, true, ?_, iteT ?_⟩
        · rw [decide_eq_false (swap_ne so4.nodup lj)]
          rfl
        · refine ⟨_, rfl, _, rfl, _, _, dp_ints (L2.sq_of (s10 _ _ hmZ)), dp_ints (L2.sq_of (s10 _ _ hhZ)), shaped_ints _, shaped_ints _, ?_⟩
          rw [eqv_ints]
          have fD2 : H D2 = none := (d4.same (sm5.trans sm6)).free hD2
          refine q _ ⟨fun b o nb e => s10 _ _ ?_, Src.same (((d9.2.new htt).upd nD2).upd nD2) s10⟩
          rw [upd_ne (ne_of_none e fD2), upd_ne (ne_of_none e fD2)]
          exact st _ _ (d9.1 b o nb e)
end

end K02

namespace K02
open PySem PySem.Spec PyProof.Rows L2
def spLaw (K : PySem.W.Frag) : Sp := fun vs H Q _ => ∃ (a : Addr) (ns : List Int), vs = [.ref a] ∧ SqL K H a (ns.map V.int) ∧ ns.length ≤ 63 ∧ ∀ H', Q (.bl true) H'
theorem cells_int {ns : List Int} {lo hi : Option Int} {x : V} (h : x ∈ cutV (ns.map V.int ++ [V.int 0]) lo hi) : ∃ c, x = .int c := by
  have h := cut_mem h
  rw [List.mem_append] at h
  rcases h with h | h
  · obtain ⟨c, _, e⟩ := List.mem_map.mp h
    exact ⟨c, e.symm⟩
  · exact ⟨0, List.mem_singleton.mp h⟩
theorem cell_first (ns : List Int) : ∃ c, atI (ns.map V.int ++ [V.int 0]) 0 = some (.int c) := by
  cases ns with
  | nil => exact ⟨0, rfl⟩
  | cons n ns => exact ⟨n, atI_nat (j := 0) rfl⟩
section
variable {P : Program} {w : World} {K : PySem.W.Frag} {mg : Str → Option Value} {base : Heap} {a : Ad} {d : Fd}
theorem ok_law (T : Txt K mg a d) : FnOk P w K mg base CX0 7 a.law d.law P_law (spLaw K) := by
  have G_source : FnOk P w K mg base CX0 1 a.source d.source P_source spSource := ok_source T
  have G_keys : FnOk P w K mg base CX0 4 a.keys d.keys P_keys spKeys := ok_keys T
  have G_put : FnOk P w K mg base CX0 2 a.put d.put P_put spPut := ok_put T
  have G_orders : FnOk P w K mg base CX0 3 a.orders d.orders P_orders spOrders := ok_orders T
  have G_wide_right : FnOk P w K mg base CX0 6 a.wide_right d.wide_right P_wide_right spWideRight := ok_wide_right T
  have G_stable_order : FnOk P w K mg base CX0 3 a.stable_order d.stable_order P_stable_order spStable := ok_stable_order T
  have G_is_order : FnOk P w K mg base CX0 5 a.is_order d.is_order P_is_order spIsOrder := ok_is_order T
  refine T.f_law.ok sc_law (fun vs H Q E h => ?_) (fun cdv A outer s H vs Q E hr h => ?_)
  · obtain ⟨p, n, rfl, _⟩ := h
    rfl
  · obtain ⟨sp, ns, rfl, hS, hlen, q⟩ := h
    refine ⟨_, (pss_cons (ps_if (pt_not (pt_val (pe_call G_wide_right (hr.mono (by decide)) (by rfl) T.g_wide_right T.k_wide_right T.b_wide_right .nil pass0 (pa_cons (pe_call G_source (hr.mono (by decide)) (by rfl) T.g_source T.k_source T.b_source .nil pass0 (pa_cons (pe_ix ix_list (pe_op op_catS (pv 0) (pe_lst (pa_cons pe_int pa_nil))) pe_int (fun _ _ => rfl)) pa_nil)) pa_nil)))) (pss_one (ps_ret pe_bl)) pss_nil)
    (pss_cons (ps_for PassesOwn.never rfl (pi_list (pe_slice sl_list (pe_op op_catS (pv 0) (pe_lst (pa_cons pe_int pa_nil))) po_none (po_some pe_int))) (pg_name (i := 1) sc_law.nd rfl (Or.inl rfl))
      (pss_cons (ps_set (i := 2) sc_law.nd rfl (Or.inl rfl) (pe_call G_source (hr.mono (by decide)) (by rfl) T.g_source T.k_source T.b_source .nil pass0 (pa_cons (pv 1) pa_nil)))
        (pss_cons (ps_set (i := 3) sc_law.nd rfl (Or.inl rfl) (pe_call G_keys (hr.mono (by decide)) (by rfl) T.g_keys T.k_keys T.b_keys .nil pass0 (pa_cons (pv 2) (pa_cons pe_int pa_nil))))
        (pss_cons (ps_set (i := 4) sc_law.nd rfl (Or.inl rfl) (pe_callTy call_list_of (by rfl) T.z_list (by decide +kernel) (pa_cons (pv 3) pa_nil)))
        (pss_cons (ps_for PassesOwn.never rfl (pi_tup (pe_tup (pa_cons pe_bl (pa_cons pe_bl pa_nil)))) (pg_name (i := 5) sc_law.nd rfl (Or.inl rfl))
          (pss_cons (ps_par (i := 6) (j := 7) rfl sc_law.nd rfl rfl (by decide) rfl rfl (pa_cons (pe_call G_put (hr.mono (by decide)) (by rfl) T.g_put T.k_put T.b_put .nil pass0 (pa_cons (pv 3) (pa_cons (pv 5) pa_nil))) (pa_cons (pe_callN G_stable_order (hr.mono (by decide)) (by rfl) T.g_stable_order T.k_stable_order T.kn_stable_order_1_reverse pass0 (pa_cons (pv 3) pa_nil) (pk_cons (pv 5) pk_nil)) pa_nil)) (by rfl))
            (pss_cons (ps_if (PW.pt (pw_or (pt_cmpR (op_neD hr.units) (pv 7) (pv 6) (nomark _)) (pw_or1 (pt_cmpR (op_neD hr.units) (pe_callN0 G_stable_order (hr.mono (by decide)) (by rfl) T.g_stable_order T.k_stable_order T.kn_stable_order_0_reverse_keys pass0 (pk_cons (pv 5) (pk_cons (pe_callTy call_tuple_of (by rfl) T.z_tuple (by decide +kernel) (pa_cons (pv 3) pa_nil)) pk_nil))) (pv 6) (nomark _))))) (pss_one (ps_ret pe_bl)) pss_nil)
            (pss_cons (ps_expr (pe_bm PySem.F.plainAttrs_list PySem.F.slot_list_append PySem.F.type_list_append mt_append (pv 7) (pa_cons pe_non pa_nil)))
            (pss_one (ps_for PassesOwn.never rfl (pi_list (pe_call G_orders (hr.mono (by decide)) (by rfl) T.g_orders T.k_orders T.b_orders .nil pass0 (pa_cons (pv 2) (pa_cons (pv 6) pa_nil)))) (pg_name (i := 8) sc_law.nd rfl (Or.inl rfl))
              (pss_cons (ps_set (i := 9) sc_law.nd rfl (Or.inl rfl) (pe_callTy call_list_of (by rfl) T.z_list (by decide +kernel) (pa_cons (pv 8) pa_nil)))
                (pss_cons (ps_if (PW.pt (pw_or (pt_cmpR op_ne (pe_callB call_repr_bool (by rfl) T.z_repr (by decide +kernel) (pa_cons (pe_callN G_is_order (hr.mono (by decide)) (by rfl) T.g_is_order T.k_is_order T.kn_is_order_2_reverse pass0 (pa_cons (pv 3) (pa_cons (pv 8) pa_nil)) (pk_cons (pv 5) pk_nil)) pa_nil)) (pe_callB call_repr_bool (by rfl) T.z_repr (by decide +kernel) (pa_cons (pe_cmpR (op_eqD hr.units) (pv 9) (pv 6) (nomark _)) pa_nil)) (nomark _)) (pw_or1 (pt_cmpR (op_neD hr.units) (pv 8) (pv 9) (nomark _))))) (pss_one (ps_ret pe_bl)) pss_nil)
                (pss_one (ps_if (pt_cmpR op_ne (pe_callN0 G_is_order (hr.mono (by decide)) (by rfl) T.g_is_order T.k_is_order T.kn_is_order_0_order_reverse_keys pass0 (pk_cons (pe_callTy call_tuple_of (by rfl) T.z_tuple (by decide +kernel) (pa_cons (pv 8) pa_nil)) (pk_cons (pv 5) (pk_cons (pv 3) pk_nil)))) (pe_cmpR (op_eqD hr.units) (pv 8) (pv 6) (nomark _)) (nomark _)) (pss_one (ps_ret pe_bl)) pss_nil))))))))))
        (pss_cons (ps_if (PW.pt (pw_or (pt_cmpR (op_neD hr.units) (pe_call (dvs := [.bl false]) G_stable_order (hr.mono (by decide)) (by rfl) T.g_stable_order T.k_stable_order T.b_stable_order (.cons rfl .nil) pass0 (pa_cons (pv 3) pa_nil)) (pe_call G_put (hr.mono (by decide)) (by rfl) T.g_put T.k_put T.b_put .nil pass0 (pa_cons (pv 4) (pa_cons pe_bl pa_nil))) (nomark _)) (pw_or1 (pt_cmpR op_notBl (pe_call (dvs := [.bl false]) G_is_order (hr.mono (by decide)) (by rfl) T.g_is_order T.k_is_order T.b_is_order (.cons rfl .nil) pass0 (pa_cons (pv 3) (pa_cons (pe_call G_put (hr.mono (by decide)) (by rfl) T.g_put T.k_put T.b_put .nil pass0 (pa_cons (pv 4) (pa_cons pe_bl pa_nil))) pa_nil))) pe_bl (nomark _))))) (pss_one (ps_ret pe_bl)) pss_nil)
        (pss_one (ps_if (pt_cmpR (op_neD hr.units) (pv 3) (pv 4) (nomark _)) (pss_one (ps_ret pe_bl)) pss_nil))))))))
    (pss_one (ps_ret (pe_and (pe_cmpR (op_eqD hr.units) (pe_call (dvs := [.bl false]) G_stable_order (hr.mono (by decide)) (by rfl) T.g_stable_order T.k_stable_order T.b_stable_order (.cons rfl .nil) pass0 (pa_cons (pe_lst pa_nil) pa_nil)) (pe_lst pa_nil) (nomark _)) (pe_one (pe_cmpR op_isBl (pe_call (dvs := [.bl false]) G_is_order (hr.mono (by decide)) (by rfl) T.g_is_order T.k_is_order T.b_is_order (.cons rfl .nil) pass0 (pa_cons (pe_lst pa_nil) (pa_cons (pe_lst pa_nil) pa_nil))) pe_bl (nomark _)))))))), ?_⟩
    obtain ⟨c0, hc0⟩ := cell_first ns
    have sz : (ns.map V.int).length + 1 ≤ sizeLine := by
      rw [List.length_map]
      exact Nat.le_trans (by omega) (by decide : 64 ≤ sizeLine)
    refine ⟨_, rfl, by show 1 ≤ sizeLine; decide, fun b hb => ⟨sp, b, _, _, rfl, rfl, (same_upd hb).seq hS, L2.sq_of upd_same, sz, fun c hc => ?_⟩⟩
    refine ⟨c, _, _, _, rfl, rfl, L2.sq_of upd_same, hc0, c0, rfl, fun p0 x y z x0 hp0 => ?_⟩
    have sA := ((same_upd (o := .lst [.int 0]) hb).trans (same_upd hc)).trans (same_upd (o := .lst [.int x, .int y, .int z]) hp0)
    have fp0 : H p0 = none := ((same_upd (o := .lst [.int 0]) hb).trans (same_upd hc)).free hp0
    refine ⟨p0, rfl, .put x0, fun H1 d1 => ⟨true, rfl, iteF ?_⟩⟩
    have s1 : Same H H1 := fun b o e => d1.1 b o (ne_of_none e fp0) (sA _ _ e)
    have hS1 := s1.seq hS
    -- the cells
    refine ⟨_, rfl, by show 1 ≤ sizeLine; decide, fun b2 hb2 => ⟨sp, b2, _, _, rfl, rfl, (same_upd hb2).seq hS1, L2.sq_of upd_same, sz, fun c2 hc2 => ?_⟩⟩
    refine ⟨5, rfl, c2, _, rfl, L2.sq_of upd_same, fun e he => ⟨e, rfl, ⟨_, L2.sq_of upd_same⟩, ?_⟩⟩
    generalize hHe : upd (upd (upd H1 b2 (.lst [.int 0])) c2 (.lst (ns.map V.int ++ [V.int 0]))) e (.lst (cutV (ns.map V.int ++ [V.int 0]) none (some 5))) = He
    have hE : He e = some (.lst (cutV (ns.map V.int ++ [V.int 0]) none (some 5))) := by
      rw [← hHe]
      exact upd_same
    refine for_list (K := K) (a := e) (xs := cutV (ns.map V.int ++ [V.int 0]) none (some 5)) (fun i σ H' => (∃ (u1 u2 u3 u4 u5 u6 u7 u8 u9 : Option V), σ = [some (.ref sp), u1, u2, u3, u4, u5, u6, u7, u8, u9]) ∧ Same He H')
      ⟨⟨_, _, _, _, _, _, _, _, _, rfl⟩, Same.refl _⟩ (fun i σ H' _ h => L2.sq_of (h.2 _ _ hE)) ?_ ?_
    · rintro i y σ H2 hy ⟨⟨u1, u2, u3, u4, u5, u6, u7, u8, u9, rfl⟩, sm⟩
      obtain ⟨cell, rfl⟩ := cells_int (List.mem_of_getElem? hy)
      refine ⟨_, rfl, cell, rfl, fun p x y z x0 hp => ?_⟩
      have sm1 : Same He (upd H2 p (.lst [.int x, .int y, .int z])) := sm.trans (same_upd hp)
      have sr1 : Src (upd H2 p (.lst [.int x, .int y, .int z])) p := .put x0
      have fp : He p = none := sm.free hp
      generalize upd H2 p (.lst [.int x, .int y, .int z]) = H3 at sm1 sr1 ⊢
      refine ⟨_, rfl, p, 80, rfl, sr1, by decide, by decide, fun m ks H4 hl fm dr hm => ?_⟩
      have nm : m ≠ p := sr1.ne fm
      have hlen2 : ks.length ≤ 2000 := by omega
      refine ⟨_, rfl, m, _, rfl, .inl (L2.sq_of hm), fun hd hhd => ?_⟩
      have nhd : hd ≠ p := dr.2.ne hhd
      have dB := dr.new (o := .lst (ks.map V.int)) hhd
      have hm5 : upd H4 hd (.lst (ks.map V.int)) m = some (.lst (ks.map V.int)) := (same_upd hhd) _ _ hm
      have hh5 : upd H4 hd (.lst (ks.map V.int)) hd = some (.lst (ks.map V.int)) := upd_same
      generalize upd H4 hd (.lst (ks.map V.int)) = H5 at dB hm5 hh5 ⊢
      refine ⟨by show 2 ≤ sizeLine; decide, fun tw htw => ⟨tw, rfl, ⟨_, L2.st_of upd_same⟩, ?_⟩⟩
      have dC := dB.new (o := .tup [.bl false, .bl true]) htw
      have hm6 := (same_upd (o := .tup [.bl false, .bl true]) htw) _ _ hm5
      have hh6 := (same_upd (o := .tup [.bl false, .bl true]) htw) _ _ hh5
      have ht6 : upd H5 tw (.tup [.bl false, .bl true]) tw = some (.tup [.bl false, .bl true]) := upd_same
      generalize upd H5 tw (.tup [.bl false, .bl true]) = H6 at dC hm6 hh6 ht6 ⊢
      have ntw : tw ≠ p := dB.2.ne htw
      refine for_tup (K := K) (a := tw) (xs := [.bl false, .bl true]) (fun i σ H' => (∃ (v5 v6 v7 v8 v9 : Option V), σ = [some (.ref sp), some (.int cell), some (.ref p), some (.ref m), some (.ref hd), v5, v6, v7, v8, v9]) ∧ Dn p H6 H') ⟨⟨_, _, _, _, _, rfl⟩, .refl dC.2⟩ (fun i σ H' _ h => L2.st_of (h.2.1 _ _ ntw ht6)) ?_ ?_
      · rintro i0 y σ H7 hy ⟨⟨v5, v6, v7, v8, v9, rfl⟩, d7⟩
        obtain ⟨rev, rfl⟩ : ∃ rev, y = .bl rev := by
          rcases List.mem_cons.mp (List.mem_of_getElem? hy) with e | e
          · exact ⟨_, e⟩
          · exact ⟨_, List.mem_singleton.mp e⟩
        have hm7 := d7.1 _ _ nm hm6
        refine ⟨_, rfl, _, rfl, m, ks, rev, rfl, hm7, hlen2, fun du os H8 so fdu s8 hdu => ?_⟩
        refine ⟨_, rfl, _, rfl, rfl, rfl, m, ks, rev, rfl, .inl (s8 _ _ hm7), hlen2, fun he2 os2 H9 so2 fhe s9 hhe => ⟨_, _, rfl, ?_⟩⟩
        have eos : os2 = os := so2.uniq so
        subst eos
        have lo := so2.len
        have hdu9 := s9 _ _ hdu
        have hm9 := (s8.trans s9) _ _ hm7
        have nhd2 : du ≠ he2 := ne_of_none hdu fhe
        have nmh : m ≠ he2 := ne_of_none (s8 _ _ hm7) fhe
        have fH7 : H7 he2 = none := s8.free fhe
        have idu : SqL K H9 du ((os2.map fun (i : Nat) => (i : Int)).map V.int) := by rw [← nV_map]; exact L2.sq_of hdu9
        have ihe : SqL K H9 he2 ((os2.map fun (i : Nat) => (i : Int)).map V.int) := by rw [← nV_map]; exact L2.sq_of hhe
        refine ⟨_, rfl, _, rfl, _, _, dp_ints ihe, dp_ints idu, shaped_ints _, shaped_ints _, false, by rw [eqv_ints]; rfl, iteF ?_⟩
        refine ⟨_, rfl, _, rfl, m, _, rfl, .inl ⟨L2.sq_of hm9, fun tt htt => ⟨rfl, tt, ks, rev, rfl, .inr upd_same, hlen2, fun g os3 H10 so3 fg s10 hg => ?_⟩⟩⟩
        have eos3 : os3 = os2 := so3.uniq so2
        subst eos3
        have s910 := (same_upd (o := .tup (ks.map V.int)) htt).trans s10
        have ig : SqL K H10 g ((os3.map fun (i : Nat) => (i : Int)).map V.int) := by rw [← nV_map]; exact L2.sq_of hg
        refine ⟨_, rfl, _, _, dp_ints ig, dp_ints (s910.seq idu), shaped_ints _, shaped_ints _, false, by rw [eqv_ints]; rfl, iteF ?_⟩
        -- heard.append(None)
        have hhe10 := s910 _ _ hhe
        refine ⟨_, rfl, .inl ⟨rfl, _, L2.sq_of hhe10⟩, he2, _, _, rfl, rfl, hhe10, ?_, ?_⟩
        · show (List.map _ _).length < _
          rw [List.length_map, lo]
          exact Nat.lt_of_le_of_lt hlen2 (by decide)
        have d10 : Dn p H7 (upd H10 he2 (.lst (nV os3 ++ [.non]))) := by
          have nhp : he2 ≠ p := d7.2.ne fH7
          refine ⟨fun b o nb e => ?_, Src.upd (Src.same d7.2 ((s8.trans s9).trans s910)) nhp⟩
          rw [upd_ne (ne_of_none e fH7)]
          exact ((s8.trans s9).trans s910) _ _ e
        have hdu11 : upd H10 he2 (.lst (nV os3 ++ [.non])) du = some (.lst (nV os3)) := by rw [upd_ne nhd2]; exact s910 _ _ hdu9
        have hm11 : upd H10 he2 (.lst (nV os3 ++ [.non])) m = some (.lst (ks.map V.int)) := by rw [upd_ne nmh]; exact s910 _ _ hm9
        generalize upd H10 he2 (.lst (nV os3 ++ [.non])) = H11 at d10 hdu11 hm11 ⊢
        -- the orders
        refine ⟨_, rfl, _, rfl, p, du, os3, rfl, d10.2, d7.2.ne fdu, hdu11, by omega, fun r qs H12 fr d12 hr2 lq good => ?_⟩
        have nrp : r ≠ p := d10.2.ne fr
        have hm12 := d12.1 _ _ nm hm11
        have hdu12 := d12.1 _ _ (d7.2.ne fdu) hdu11
        refine ⟨r, rfl, ⟨_, L2.sq_of hr2⟩, ?_⟩
        refine for_list (K := K) (a := r) (xs := qs.map V.ref) (fun i σ H' => (∃ (v8 v9 : Option V), σ = [some (.ref sp), some (.int cell), some (.ref p), some (.ref m), some (.ref hd), some (.bl rev), some (.ref du), some (.ref he2), v8, v9]) ∧ Same H12 H') ⟨⟨_, _, rfl⟩, Same.refl _⟩ (fun i σ H' _ h => L2.sq_of (h.2 _ _ hr2)) ?_ ?_
        · rintro j y σ H13 hy2 ⟨⟨w8, w9, rfl⟩, s13⟩
          obtain ⟨t, ht, rfl⟩ := List.mem_map.mp (List.mem_of_getElem? hy2)
          obtain ⟨bs, pm, ntp, hts⟩ := good t ht
          have ht13 := s13 _ _ hts
          have hm13 := s13 _ _ hm12
          have hdu13 := s13 _ _ hdu12
          have pm2 : bs.Perm (List.range ks.length) := pm.trans so3.perm
          refine ⟨_, rfl, t, _, rfl, .inl (L2.sq_of ht13), fun st hst => ?_⟩
          have sS := same_upd (o := .lst (nV bs)) hst
          have hst14 : upd H13 st (.lst (nV bs)) st = some (.lst (nV bs)) := upd_same
          have ht14 := sS _ _ ht13
          have hm14 := sS _ _ hm13
          have hdu14 := sS _ _ hdu13
          generalize upd H13 st (.lst (nV bs)) = H14 at sS hst14 ht14 hm14 hdu14 ⊢
          refine ⟨_, rfl, _, rfl, _, rfl, rfl, rfl, m, t, ks, bs, rev, rfl, .inl hm14, hlen2, .inl ht14, pm2, fun os4 H15 so4 s15 => ⟨_, rfl, ?_⟩⟩
          have eos4 : os4 = os3 := so4.uniq so3
          subst eos4
          have ids : ∀ {HX : Hp} {x : Addr} {l : List Nat}, HX x = some (.lst (nV l)) → SqL K HX x ((l.map fun (i : Nat) => (i : Int)).map V.int) := fun h => by rw [← nV_map]; exact L2.sq_of h
          have ev : PyData.eqv (.list ((bs.map fun (i : Nat) => (i : Int)).map PyData.int)) (.list ((os4.map fun (i : Nat) => (i : Int)).map PyData.int)) = decide (bs = os4) := by
            rw [eqv_lists]
            exact decide_eq_decide.mpr cast_inj
          refine ⟨_, rfl, _, rfl, _, _, dp_ints (ids (s15 _ _ hst14)), dp_ints (ids (s15 _ _ hdu14)), shaped_ints _, shaped_ints _, _, rfl, rfl, false, ?_, iteF ?_⟩
          · rw [ev]
            simp
          refine ⟨_, rfl, _, rfl, _, _, dp_ints (ids (s15 _ _ ht14)), dp_ints (ids (s15 _ _ hst14)), shaped_ints _, shaped_ints _, false, by rw [eqv_ints]; rfl, iteF ?_⟩
          refine ⟨_, rfl, t, _, rfl, .inl ⟨L2.sq_of (s15 _ _ ht14), fun tt2 htt2 => ?_⟩⟩
          have sT := same_upd (o := .tup (nV bs)) htt2
          refine ⟨_, rfl, _, rfl, rfl, m, tt2, ks, bs, rev, rfl, .inl (sT _ _ (s15 _ _ hm14)), hlen2, .inr upd_same, pm2, fun os5 H16 so5 s16 => ?_⟩
          have eos5 : os5 = os4 := so5.uniq so4
          subst eos5
          have s1516 := s15.trans (sT.trans s16)
          refine ⟨_, rfl, _, rfl, _, _, dp_ints (ids (s1516 _ _ ht14)), dp_ints (ids (s1516 _ _ hdu14)), shaped_ints _, shaped_ints _, rfl, false, ?_, iteF ?_⟩
          · rw [ev]
            simp
          exact ⟨⟨_, _, rfl⟩, (s13.trans sS).trans s1516⟩
        · rintro σ H13 ⟨⟨w8, w9, rfl⟩, s13⟩
          exact ⟨⟨_, _, _, _, _, rfl⟩, ((d7.trans d10).trans d12).same s13⟩
      · rintro σ H7 ⟨⟨v5, v6, v7, v8, v9, rfl⟩, d7⟩
        have hm7 := d7.1 _ _ nm hm6
        have hh7 := d7.1 _ _ nhd hh6
        have ids : ∀ {HX : Hp} {x : Addr} {l : List Nat}, HX x = some (.lst (nV l)) → SqL K HX x ((l.map fun (i : Nat) => (i : Int)).map V.int) := fun h => by rw [← nV_map]; exact L2.sq_of h
        refine ⟨_, rfl, m, ks, false, rfl, .inl hm7, hlen2, fun g os H8 so fg s8 hg => ?_⟩
        refine ⟨_, rfl, hd, ks, false, rfl, s8 _ _ hh7, hlen2, fun g2 os2 H9 so2 fg2 s9 hg2 => ?_⟩
        have eos : os2 = os := so2.uniq so
        subst eos
        refine ⟨_, _, dp_ints (ids (s9 _ _ hg)), dp_ints (ids hg2), shaped_ints _, shaped_ints _, false, by rw [eqv_ints]; rfl, iteF ?_⟩
        have s89 := s8.trans s9
        refine ⟨_, rfl, _, rfl, hd, ks, false, rfl, s89 _ _ hh7, hlen2, fun g3 os3 H10 so3 fg3 s10 hg3 => ?_⟩
        have s810 := s89.trans s10
        refine ⟨m, g3, ks, os3, false, rfl, .inl (s810 _ _ hm7), hlen2, .inl hg3, so3.perm, fun os4 H11 so4 s11 => ?_⟩
        have eos4 : os4 = os3 := so4.uniq so3
        subst eos4
        refine ⟨_, _, rfl, rfl, false, congrArg V.bl (by simp), iteF ?_⟩
        have s811 := s810.trans s11
        refine ⟨_, rfl, _, rfl, _, _, dp_ints (L2.sq_of (s811 _ _ hm7)), dp_ints (L2.sq_of (s811 _ _ hh7)), shaped_ints _, shaped_ints _, false, by rw [eqv_ints]; rfl, iteF ?_⟩
        refine ⟨⟨_, _, _, _, _, _, _, _, _, rfl⟩, fun b o e => ?_⟩
        have nb : b ≠ p := fun z => by rw [z, fp] at e; cases e
        exact s811 _ _ (d7.1 _ _ nb (dC.1 _ _ nb (sm1 _ _ e)))
    · rintro σ H2 ⟨_, sm⟩
      refine ⟨Nat.zero_le _, fun l hl => ⟨l, [], false, rfl, .inl upd_same, Nat.zero_le _, fun g os H3 so fg s3 hg => ?_⟩⟩
      have eos : os = [] := List.eq_nil_of_length_eq_zero so.len
      subst eos
      refine ⟨Nat.zero_le _, fun l2 hl2 => ?_⟩
      refine ⟨.list [], .list [], .lst (L2.sq_of ((same_upd hl2) _ _ hg)) .nil, .lst (L2.sq_of upd_same) .nil, by decide, by decide, true, rfl, iteT ?_⟩
      refine ⟨Nat.zero_le _, fun l3 hl3 => ⟨Nat.zero_le _, fun l4 hl4 => ?_⟩⟩
      refine ⟨l3, l4, [], [], false, rfl, .inl ((same_upd hl4) _ _ upd_same), Nat.zero_le _, .inl upd_same, .refl _, fun os H4 so4 s4 => ?_⟩
      have eos4 : os = [] := List.eq_nil_of_length_eq_zero so4.len
      subst eos4
      exact ⟨_, _, rfl, rfl, q _⟩
end
end K02

namespace K02
open PySem PySem.Spec PyProof.Rows L2
theorem all_mk {l : PySem.W.OpenLaw} {w : World} {K : PySem.W.Frag} {h : Heap} {mg : Str → Option Value} {fa f0 f1 f2 f3 f4 f5 f6 f7 f8 f9 f10 f11 f12 f13 f14 f15 f16 f17 f18 f19 D6 D7 : Addr} (X : K.In h) (G : h.Ns mainGlobals mg) (hfa : mg "law" = some (.ref fa))
    {od0 an0 od1 an1 od2 an2 od3 an3 od4 an4 od5 an5 od6 an6 od7 an7 od8 an8 od9 an9 od10 an10 od11 an11 od12 an12 od13 an13 od14 an14 od15 an15 od16 an16 od17 an17 od18 an18 od19 an19 : Option Addr} {sl0 sl1 sl2 sl3 sl4 sl5 sl6 sl7 sl8 sl9 sl10 sl11 sl12 sl13 sl14 sl15 sl16 sl17 sl18 sl19 : Array (Option Value)} {oc0 kV0 dc0 pm0 cd0 ct0 oc1 kV1 dc1 pm1 cd1 ct1 oc2 kV2 dc2 pm2 cd2 ct2 oc3 kV3 dc3 pm3 cd3 ct3 oc4 kV4 dc4 pm4 cd4 ct4 oc5 kV5 dc5 pm5 cd5 ct5 oc6 dc6 pm6 cd6 ct6 oc7 dc7 pm7 cd7 ct7 oc8 kV8 dc8 pm8 cd8 ct8 oc9 kV9 dc9 pm9 cd9 ct9 oc10 kV10 dc10 pm10 cd10 ct10 oc11 kV11 dc11 pm11 cd11 ct11 oc12 kV12 dc12 pm12 cd12 ct12 oc13 kV13 dc13 pm13 cd13 ct13 oc14 kV14 dc14 pm14 cd14 ct14 oc15 kV15 dc15 pm15 cd15 ct15 oc16 kV16 dc16 pm16 cd16 ct16 oc17 kV17 dc17 pm17 cd17 ct17 oc18 kV18 dc18 pm18 cd18 ct18 oc19 kV19 dc19 pm19 cd19 ct19 : Value}
    {T3 : Addr} {odT3 : Option Addr} {oT3 : Value} {nT3 : Nat} {slT3 : Array (Option Value)} {uT3_0 : Tok} {uT3_1 : Tok}
    (a0 : PySem.W.nsIn K mainGlobals "is_integer" = some (some (.ref f0))) (l0 : K.lookup f0 = some ⟨oc0, od0, .func (PySem.W.fnOf "is_integer" "is_integer" (defArgs s_is_integer) (defBody s_is_integer) (defScope s_is_integer) .none kV0 dc0 pm0 an0 cd0 ct0), sl0⟩) (c0 : PySem.W.codeIn K cd0 "is_integer" = true) (k0 : PySem.W.keepIn K (.ref f0) = true)
    (a1 : PySem.W.nsIn K mainGlobals "is_within" = some (some (.ref f1))) (l1 : K.lookup f1 = some ⟨oc1, od1, .func (PySem.W.fnOf "is_within" "is_within" (defArgs s_is_within) (defBody s_is_within) (defScope s_is_within) .none kV1 dc1 pm1 an1 cd1 ct1), sl1⟩) (c1 : PySem.W.codeIn K cd1 "is_within" = true) (k1 : PySem.W.keepIn K (.ref f1) = true)
    (a2 : PySem.W.nsIn K mainGlobals "is_item" = some (some (.ref f2))) (l2 : K.lookup f2 = some ⟨oc2, od2, .func (PySem.W.fnOf "is_item" "is_item" (defArgs s_is_item) (defBody s_is_item) (defScope s_is_item) .none kV2 dc2 pm2 an2 cd2 ct2), sl2⟩) (c2 : PySem.W.codeIn K cd2 "is_item" = true) (k2 : PySem.W.keepIn K (.ref f2) = true)
    (a3 : PySem.W.nsIn K mainGlobals "check_keys" = some (some (.ref f3))) (l3 : K.lookup f3 = some ⟨oc3, od3, .func (PySem.W.fnOf "check_keys" "check_keys" (defArgs s_check_keys) (defBody s_check_keys) (defScope s_check_keys) (.ref T3) kV3 dc3 pm3 an3 cd3 ct3), sl3⟩) (c3 : PySem.W.codeIn K cd3 "check_keys" = true) (k3 : PySem.W.keepIn K (.ref f3) = true)
    (t3 : K.lookup T3 = some ⟨oT3, odT3, .seq #[.int 0 uT3_0, .int 2000 uT3_1] nT3, slT3⟩)
    (a4 : PySem.W.nsIn K mainGlobals "check_order" = some (some (.ref f4))) (l4 : K.lookup f4 = some ⟨oc4, od4, .func (PySem.W.fnOf "check_order" "check_order" (defArgs s_check_order) (defBody s_check_order) (defScope s_check_order) .none kV4 dc4 pm4 an4 cd4 ct4), sl4⟩) (c4 : PySem.W.codeIn K cd4 "check_order" = true) (k4 : PySem.W.keepIn K (.ref f4) = true)
    (a5 : PySem.W.nsIn K mainGlobals "check_bool" = some (some (.ref f5))) (l5 : K.lookup f5 = some ⟨oc5, od5, .func (PySem.W.fnOf "check_bool" "check_bool" (defArgs s_check_bool) (defBody s_check_bool) (defScope s_check_bool) .none kV5 dc5 pm5 an5 cd5 ct5), sl5⟩) (c5 : PySem.W.codeIn K cd5 "check_bool" = true) (k5 : PySem.W.keepIn K (.ref f5) = true)
    (a6 : PySem.W.nsIn K mainGlobals "stable_order" = some (some (.ref f6))) (l6 : K.lookup f6 = some ⟨oc6, od6, .func (PySem.W.fnOf "stable_order" "stable_order" (defArgs s_stable_order) (defBody s_stable_order) (defScope s_stable_order) .none (.ref D6) dc6 pm6 an6 cd6 ct6), sl6⟩) (c6 : PySem.W.codeIn K cd6 "stable_order" = true) (k6 : PySem.W.keepIn K (.ref f6) = true)
    (n6_reverse : PySem.W.nsIn K D6 "reverse" = some (some (.bool false)))
    (a7 : PySem.W.nsIn K mainGlobals "is_order" = some (some (.ref f7))) (l7 : K.lookup f7 = some ⟨oc7, od7, .func (PySem.W.fnOf "is_order" "is_order" (defArgs s_is_order) (defBody s_is_order) (defScope s_is_order) .none (.ref D7) dc7 pm7 an7 cd7 ct7), sl7⟩) (c7 : PySem.W.codeIn K cd7 "is_order" = true) (k7 : PySem.W.keepIn K (.ref f7) = true)
    (n7_reverse : PySem.W.nsIn K D7 "reverse" = some (some (.bool false)))
    (a8 : PySem.W.nsIn K mainGlobals "_stable" = some (some (.ref f8))) (l8 : K.lookup f8 = some ⟨oc8, od8, .func (PySem.W.fnOf "_stable" "_stable" (defArgs s_stable) (defBody s_stable) (defScope s_stable) .none kV8 dc8 pm8 an8 cd8 ct8), sl8⟩) (c8 : PySem.W.codeIn K cd8 "_stable" = true) (k8 : PySem.W.keepIn K (.ref f8) = true)
    (a9 : PySem.W.nsIn K mainGlobals "_law_mixed" = some (some (.ref f9))) (l9 : K.lookup f9 = some ⟨oc9, od9, .func (PySem.W.fnOf "_law_mixed" "_law_mixed" (defArgs s_mixed) (defBody s_mixed) (defScope s_mixed) .none kV9 dc9 pm9 an9 cd9 ct9), sl9⟩) (c9 : PySem.W.codeIn K cd9 "_law_mixed" = true) (k9 : PySem.W.keepIn K (.ref f9) = true)
    (a10 : PySem.W.nsIn K mainGlobals "_law_source" = some (some (.ref f10))) (l10 : K.lookup f10 = some ⟨oc10, od10, .func (PySem.W.fnOf "_law_source" "_law_source" (defArgs s_source) (defBody s_source) (defScope s_source) .none kV10 dc10 pm10 an10 cd10 ct10), sl10⟩) (c10 : PySem.W.codeIn K cd10 "_law_source" = true) (k10 : PySem.W.keepIn K (.ref f10) = true)
    (a11 : PySem.W.nsIn K mainGlobals "_law_take" = some (some (.ref f11))) (l11 : K.lookup f11 = some ⟨oc11, od11, .func (PySem.W.fnOf "_law_take" "_law_take" (defArgs s_take) (defBody s_take) (defScope s_take) .none kV11 dc11 pm11 an11 cd11 ct11), sl11⟩) (c11 : PySem.W.codeIn K cd11 "_law_take" = true) (k11 : PySem.W.keepIn K (.ref f11) = true)
    (a12 : PySem.W.nsIn K mainGlobals "_law_part" = some (some (.ref f12))) (l12 : K.lookup f12 = some ⟨oc12, od12, .func (PySem.W.fnOf "_law_part" "_law_part" (defArgs s_part) (defBody s_part) (defScope s_part) .none kV12 dc12 pm12 an12 cd12 ct12), sl12⟩) (c12 : PySem.W.codeIn K cd12 "_law_part" = true) (k12 : PySem.W.keepIn K (.ref f12) = true)
    (a13 : PySem.W.nsIn K mainGlobals "_law_keys" = some (some (.ref f13))) (l13 : K.lookup f13 = some ⟨oc13, od13, .func (PySem.W.fnOf "_law_keys" "_law_keys" (defArgs s_keys) (defBody s_keys) (defScope s_keys) .none kV13 dc13 pm13 an13 cd13 ct13), sl13⟩) (c13 : PySem.W.codeIn K cd13 "_law_keys" = true) (k13 : PySem.W.keepIn K (.ref f13) = true)
    (a14 : PySem.W.nsIn K mainGlobals "_law_put" = some (some (.ref f14))) (l14 : K.lookup f14 = some ⟨oc14, od14, .func (PySem.W.fnOf "_law_put" "_law_put" (defArgs s_put) (defBody s_put) (defScope s_put) .none kV14 dc14 pm14 an14 cd14 ct14), sl14⟩) (c14 : PySem.W.codeIn K cd14 "_law_put" = true) (k14 : PySem.W.keepIn K (.ref f14) = true)
    (a15 : PySem.W.nsIn K mainGlobals "_law_is_behind" = some (some (.ref f15))) (l15 : K.lookup f15 = some ⟨oc15, od15, .func (PySem.W.fnOf "_law_is_behind" "_law_is_behind" (defArgs s_is_behind) (defBody s_is_behind) (defScope s_is_behind) .none kV15 dc15 pm15 an15 cd15 ct15), sl15⟩) (c15 : PySem.W.codeIn K cd15 "_law_is_behind" = true) (k15 : PySem.W.keepIn K (.ref f15) = true)
    (a16 : PySem.W.nsIn K mainGlobals "_law_orders" = some (some (.ref f16))) (l16 : K.lookup f16 = some ⟨oc16, od16, .func (PySem.W.fnOf "_law_orders" "_law_orders" (defArgs s_orders) (defBody s_orders) (defScope s_orders) .none kV16 dc16 pm16 an16 cd16 ct16), sl16⟩) (c16 : PySem.W.codeIn K cd16 "_law_orders" = true) (k16 : PySem.W.keepIn K (.ref f16) = true)
    (a17 : PySem.W.nsIn K mainGlobals "_law_wide" = some (some (.ref f17))) (l17 : K.lookup f17 = some ⟨oc17, od17, .func (PySem.W.fnOf "_law_wide" "_law_wide" (defArgs s_wide) (defBody s_wide) (defScope s_wide) .none kV17 dc17 pm17 an17 cd17 ct17), sl17⟩) (c17 : PySem.W.codeIn K cd17 "_law_wide" = true) (k17 : PySem.W.keepIn K (.ref f17) = true)
    (a18 : PySem.W.nsIn K mainGlobals "_law_wide_right" = some (some (.ref f18))) (l18 : K.lookup f18 = some ⟨oc18, od18, .func (PySem.W.fnOf "_law_wide_right" "_law_wide_right" (defArgs s_wide_right) (defBody s_wide_right) (defScope s_wide_right) .none kV18 dc18 pm18 an18 cd18 ct18), sl18⟩) (c18 : PySem.W.codeIn K cd18 "_law_wide_right" = true) (k18 : PySem.W.keepIn K (.ref f18) = true)
    (a19 : PySem.W.nsIn K mainGlobals "law" = some (some (.ref f19))) (l19 : K.lookup f19 = some ⟨oc19, od19, .func (PySem.W.fnOf "law" "law" (defArgs s_law) (defBody s_law) (defScope s_law) .none kV19 dc19 pm19 an19 cd19 ct19), sl19⟩) (c19 : PySem.W.codeIn K cd19 "law" = true) (k19 : PySem.W.keepIn K (.ref f19) = true)
    (z_abs : PySem.W.nsIn K mainGlobals "abs" = some none)
    (z_bool : PySem.W.nsIn K mainGlobals "bool" = some none)
    (z_enumerate : PySem.W.nsIn K mainGlobals "enumerate" = some none)
    (z_int : PySem.W.nsIn K mainGlobals "int" = some none)
    (z_isinstance : PySem.W.nsIn K mainGlobals "isinstance" = some none)
    (z_len : PySem.W.nsIn K mainGlobals "len" = some none)
    (z_list : PySem.W.nsIn K mainGlobals "list" = some none)
    (z_range : PySem.W.nsIn K mainGlobals "range" = some none)
    (z_repr : PySem.W.nsIn K mainGlobals "repr" = some none)
    (z_sorted : PySem.W.nsIn K mainGlobals "sorted" = some none)
    (z_tuple : PySem.W.nsIn K mainGlobals "tuple" = some none)
    : ∃ fd : FuncData, (∀ (s : Shared) (v : Value), BindsTo s fd ⟨[v], []⟩ [("script", v)]) ∧ ∀ base : Heap, K.In base → base.Ns mainGlobals mg → FnOk l.prog w K mg base CX0 7 fa fd ["script"] (spLaw K) := by
  have e : fa = f19 := by
    have e := hfa.symm.trans (PySem.W.mg_of X G a19)
    cases e
    rfl
  have F0 := fun_mk (st := s_is_integer) l0 c0 k0
  have B0 := F0.binds (ps := P_is_integer) fun _ _ _ _ _ _ us hl => match us, hl with | [_], _ => rfl
  have F1 := fun_mk (st := s_is_within) l1 c1 k1
  have B1 := F1.binds (ps := P_is_within) fun _ _ _ _ _ _ us hl => match us, hl with | [_, _, _], _ => rfl
  have F2 := fun_mk (st := s_is_item) l2 c2 k2
  have B2 := F2.binds (ps := P_is_item) fun _ _ _ _ _ _ us hl => match us, hl with | [_, _], _ => rfl
  have F3 := funV_mk (st := s_check_keys) l3 c3
  have B3_0 := bindsV (st := s_check_keys) (dvs := [.int 0, .int 2000]) (its := [.int 0 uT3_0, .int 2000 uT3_1]) (ps := P_check_keys) l3 c3 k3 t3 (.cons ⟨_, rfl⟩ (.cons ⟨_, rfl⟩ .nil)) 3 2 (List.cons_ne_nil _ _) rfl fun _ _ _ _ _ _ _ us its h1 h2 => match us, its, h1, h2 with | [_, _, _], [_, _], _, _ => ⟨_, rfl, rfl⟩
  have B3_2 := bindsV (st := s_check_keys) (dvs := [.int 0, .int 2000]) (its := [.int 0 uT3_0, .int 2000 uT3_1]) (ps := P_check_keys) l3 c3 k3 t3 (.cons ⟨_, rfl⟩ (.cons ⟨_, rfl⟩ .nil)) 1 0 (List.cons_ne_nil _ _) rfl fun _ _ _ _ _ _ _ us its h1 h2 => match us, its, h1, h2 with | [_], [_, _], _, _ => ⟨_, rfl, rfl⟩
  obtain ⟨ds3, rds3, bds3⟩ := B3_0
  have F4 := fun_mk (st := s_check_order) l4 c4 k4
  have B4 := F4.binds (ps := P_check_order) fun _ _ _ _ _ _ us hl => match us, hl with | [_, _], _ => rfl
  have F5 := fun_mk (st := s_check_bool) l5 c5 k5
  have B5 := F5.binds (ps := P_check_bool) fun _ _ _ _ _ _ us hl => match us, hl with | [_, _], _ => rfl
  have F6 := fun_mk (st := s_stable_order) l6 c6 k6
  have B6 := kwb_stable_order (D := D6) l6 c6 k6 n6_reverse
  have F7 := fun_mk (st := s_is_order) l7 c7 k7
  have B7 := kwb_is_order (D := D7) l7 c7 k7 n7_reverse
  have F8 := fun_mk (st := s_stable) l8 c8 k8
  have B8 := F8.binds (ps := P_stable) fun _ _ _ _ _ _ us hl => match us, hl with | [_, _], _ => rfl
  have F9 := fun_mk (st := s_mixed) l9 c9 k9
  have B9 := F9.binds (ps := P_mixed) fun _ _ _ _ _ _ us hl => match us, hl with | [_, _], _ => rfl
  have F10 := fun_mk (st := s_source) l10 c10 k10
  have B10 := F10.binds (ps := P_source) fun _ _ _ _ _ _ us hl => match us, hl with | [_], _ => rfl
  have F11 := fun_mk (st := s_take) l11 c11 k11
  have B11 := F11.binds (ps := P_take) fun _ _ _ _ _ _ us hl => match us, hl with | [_, _], _ => rfl
  have F12 := fun_mk (st := s_part) l12 c12 k12
  have B12 := F12.binds (ps := P_part) fun _ _ _ _ _ _ us hl => match us, hl with | [_, _], _ => rfl
  have F13 := fun_mk (st := s_keys) l13 c13 k13
  have B13 := F13.binds (ps := P_keys) fun _ _ _ _ _ _ us hl => match us, hl with | [_, _], _ => rfl
  have F14 := fun_mk (st := s_put) l14 c14 k14
  have B14 := F14.binds (ps := P_put) fun _ _ _ _ _ _ us hl => match us, hl with | [_, _], _ => rfl
  have F15 := fun_mk (st := s_is_behind) l15 c15 k15
  have B15 := F15.binds (ps := P_is_behind) fun _ _ _ _ _ _ us hl => match us, hl with | [_, _, _], _ => rfl
  have F16 := fun_mk (st := s_orders) l16 c16 k16
  have B16 := F16.binds (ps := P_orders) fun _ _ _ _ _ _ us hl => match us, hl with | [_, _], _ => rfl
  have F17 := fun_mk (st := s_wide) l17 c17 k17
  have B17 := F17.binds (ps := P_wide) fun _ _ _ _ _ _ us hl => match us, hl with | [_], _ => rfl
  have F18 := fun_mk (st := s_wide_right) l18 c18 k18
  have B18 := F18.binds (ps := P_wide_right) fun _ _ _ _ _ _ us hl => match us, hl with | [_], _ => rfl
  have F19 := fun_mk (st := s_law) l19 c19 k19
  have B19 := F19.binds (ps := P_law) fun _ _ _ _ _ _ us hl => match us, hl with | [_], _ => rfl
  have T : Txt K mg ⟨f0, f1, f2, f3, f4, f5, f6, f7, f8, f9, f10, f11, f12, f13, f14, f15, f16, f17, f18, f19⟩ ⟨_, _, _, _, _, _, _, _, _, _, _, _, _, _, _, _, _, _, _, _⟩ := ⟨PySem.W.mg_of X G a0, k0, F0, B0, PySem.W.mg_of X G a1, k1, F1, B1, PySem.W.mg_of X G a2, k2, F2, B2, PySem.W.mg_of X G a3, k3, F3, B3_2, Binds.none rds3 bds3, PySem.W.mg_of X G a4, k4, F4, B4, PySem.W.mg_of X G a5, k5, F5, B5, PySem.W.mg_of X G a6, k6, F6, B6, kbn_stable_order_0_reverse_keys F6, kbn_stable_order_1_reverse F6, PySem.W.mg_of X G a7, k7, F7, B7, kbn_is_order_0_order_reverse_keys F7, kbn_is_order_2_reverse F7, PySem.W.mg_of X G a8, k8, F8, B8, PySem.W.mg_of X G a9, k9, F9, B9, PySem.W.mg_of X G a10, k10, F10, B10, PySem.W.mg_of X G a11, k11, F11, B11, PySem.W.mg_of X G a12, k12, F12, B12, PySem.W.mg_of X G a13, k13, F13, B13, PySem.W.mg_of X G a14, k14, F14, B14, PySem.W.mg_of X G a15, k15, F15, B15, PySem.W.mg_of X G a16, k16, F16, B16, PySem.W.mg_of X G a17, k17, F17, B17, PySem.W.mg_of X G a18, k18, F18, B18, PySem.W.mg_of X G a19, k19, F19, B19, PySem.W.mg_none_of X G z_abs, PySem.W.mg_none_of X G z_bool, PySem.W.mg_none_of X G z_enumerate, PySem.W.mg_none_of X G z_int, PySem.W.mg_none_of X G z_isinstance, PySem.W.mg_none_of X G z_len, PySem.W.mg_none_of X G z_list, PySem.W.mg_none_of X G z_range, PySem.W.mg_none_of X G z_repr, PySem.W.mg_none_of X G z_sorted, PySem.W.mg_none_of X G z_tuple⟩
  exact ⟨_, fun s v => .of_eq rfl, fun base _ _ => by rw [e]; exact ok_law T⟩
end K02
open PySem PySem.W PyProof.Rows
set_option maxHeartbeats 0 in
theorem PySem.Challenge.cw_askedorder_k02_stable_orders_holds : PySem.Challenge.rw_askedorder_k02_stable_orders.Holds := by
  w_on; o_law; k_head; (case hw => w_witness2)
  k_fill
  refine L2.walk_of (l := PySem.Challenge.rw_askedorder_k02_stable_orders) (n := 63) (k := 7) (x := "script") (CX := fun _ => L2.CX0) (sp := fun w => K02.spLaw _) rfl (by decide) rfl ⟨rfl, by decide, by decide⟩ (fun w h Y => PySem.W.kIn_of Y) ?F (fun _ _ a ns hl _ hS => ⟨a, ns, rfl, hS, hl, fun _ => rfl⟩) (fun _ _ _ _ _ h => h)
  case F =>
    intro w mg fa h KX G hmg
    refine' K02.all_mk KX G hmg ?a0 ?l0 ?c0 ?k0 ?a1 ?l1 ?c1 ?k1 ?a2 ?l2 ?c2 ?k2 ?a3 ?l3 ?c3 ?k3 ?t3 ?a4 ?l4 ?c4 ?k4 ?a5 ?l5 ?c5 ?k5 ?a6 ?l6 ?c6 ?k6 ?n6_reverse ?a7 ?l7 ?c7 ?k7 ?n7_reverse ?a8 ?l8 ?c8 ?k8 ?a9 ?l9 ?c9 ?k9 ?a10 ?l10 ?c10 ?k10 ?a11 ?l11 ?c11 ?k11 ?a12 ?l12 ?c12 ?k12 ?a13 ?l13 ?c13 ?k13 ?a14 ?l14 ?c14 ?k14 ?a15 ?l15 ?c15 ?k15 ?a16 ?l16 ?c16 ?k16 ?a17 ?l17 ?c17 ?k17 ?a18 ?l18 ?c18 ?k18 ?a19 ?l19 ?c19 ?k19 ?z_abs ?z_bool ?z_enumerate ?z_int ?z_isinstance ?z_len ?z_list ?z_range ?z_repr ?z_sorted ?z_tuple
    (case a0 => k_is); (case l0 => k_is); (case c0 => k_is); (case k0 => k_is); (case a1 => k_is); (case l1 => k_is)
    (case c1 => k_is); (case k1 => k_is); (case a2 => k_is); (case l2 => k_is); (case c2 => k_is); (case k2 => k_is)
    (case a3 => k_is); (case l3 => k_is); (case c3 => k_is); (case k3 => k_is); (case t3 => k_is); (case a4 => k_is)
    (case l4 => k_is); (case c4 => k_is); (case k4 => k_is); (case a5 => k_is); (case l5 => k_is); (case c5 => k_is)
    (case k5 => k_is); (case a6 => k_is); (case l6 => k_is); (case c6 => k_is); (case k6 => k_is); (case n6_reverse => k_is)
    (case a7 => k_is); (case l7 => k_is); (case c7 => k_is); (case k7 => k_is); (case n7_reverse => k_is); (case a8 => k_is)
    (case l8 => k_is); (case c8 => k_is); (case k8 => k_is); (case a9 => k_is); (case l9 => k_is); (case c9 => k_is)
    (case k9 => k_is); (case a10 => k_is); (case l10 => k_is); (case c10 => k_is); (case k10 => k_is); (case a11 => k_is)
    (case l11 => k_is); (case c11 => k_is); (case k11 => k_is); (case a12 => k_is); (case l12 => k_is); (case c12 => k_is)
    (case k12 => k_is); (case a13 => k_is); (case l13 => k_is); (case c13 => k_is); (case k13 => k_is); (case a14 => k_is)
    (case l14 => k_is); (case c14 => k_is); (case k14 => k_is); (case a15 => k_is); (case l15 => k_is); (case c15 => k_is)
    (case k15 => k_is); (case a16 => k_is); (case l16 => k_is); (case c16 => k_is); (case k16 => k_is); (case a17 => k_is)
    (case l17 => k_is); (case c17 => k_is); (case k17 => k_is); (case a18 => k_is); (case l18 => k_is); (case c18 => k_is)
    (case k18 => k_is); (case a19 => k_is); (case l19 => k_is); (case c19 => k_is); (case k19 => k_is); (case z_abs => k_is)
    (case z_bool => k_is); (case z_enumerate => k_is); (case z_int => k_is); (case z_isinstance => k_is); (case z_len => k_is); (case z_list => k_is)
    (case z_range => k_is); (case z_repr => k_is); (case z_sorted => k_is); (case z_tuple => k_is)


